import PyProof.Rows.All
import Wide.All
import OpenK.AllK
import Wide.FinOn
import Lean
import PyProof.EqAt
import PyProof.EqKinds
import PyProof.TupleCall
import PyProof.NeKinds
import PyProof.ReprRoads
import PyProof.ReprBulk
import PyProof.SumWalk
import PyProof.FString5
import PyProof.StrBlock2
import PyProof.StrBlockI
import PyProof.StrBlockH
import PyProof.StrWalks
import PyProof.StrLawsIn
import PyProof.AutoListH
import PyProof.CompUse
import PyProof.ListRange
import PyProof.CallFns
import PyProof.ListTruth
import PyProof.Rows.Range3
import PyProof.SeqI3
import KE.KRevSl
import PyProof.DictIter
import PyProof.DictWalks
import PyProof.DictCompW
import PyProof.Cells
import OpenK.KOwn
import PyProof.ExcClass3
import PyProof.ExcInit
import PyProof.ExcBaseAll.ValueError
import PyProof.ExcArgsOwn
import PyProof.ExcAttrAll.ValueError
import PyProof.Rows.SortWalk
import PyProof.Rows.SortStr
import PyProof.MeetsDict
import PyProof.DictUpdate
import PyProof.FactsAll.dict_3
import KE.KDictList
import PyProof.FactsAll.dict_4
import KE.KDictSum
import PyProof.IsiH_list
import PyProof.Rows.Exc
import KE.KDictOf
import PyProof.SetKind
import PyProof.Rows.SetFrom
import PyProof.FactsAll.set_1
import PyProof.FactsAll.set_2
import KE.KSortTup
import KE.KItemsList
import PyProof.Rows.SortRev
import PyProof.Rows.StrCase
import PyProof.Rows.StrLen
import KE.KPairComp
import KE.KMinKey
import PyProof.CallStr
import PyProof.StrCalls2
import PyProof.StrLawsTight
import PyProof.FString
import PyProof.StrBlock
import PyProof.Conv_int
import KE.KUnpack
import PyProof.Rows.TupMore
import PyProof.DictItems
import PyProof.Ascii
import PySem.Challenge.RW_pickboard_k39_runs_spoilt_anywhere
set_option Elab.async false
set_option linter.all false
set_option maxRecDepth 100000
def zq:=@List.length_map
def zW:=@List.getElem?_eq_some_iff
def zr:=@PySem.wpAny_bind
def zV:=@List.length_append
def qx:=@PySem.Heap.get?_push_of_some
def zJ:=@Nat.le_refl
def zX:=@List.map_append
def qo:=@List.mem_singleton
def qr:=@List.getElem?_map
def jb:=@Option.map_eq_some_iff
def zD:=@PySem.wpAny_pure
def zR:=@PySem.Heap.lt_size
def qD:=@PySem.Heap.get?_push_size
def qC:=@Bool.false_ne_true
def ji:=@List.getElem?_eq_getElem
def qv:=@List.size_toArray
def qU:=@List.mem_of_getElem?
def zZ:=@List.mem_cons
def jh:=@PySem.F.plainAttrs_list
def zx:=@if_neg
def qR:=@List.length_take
def qZ:=@of_decide_eq_true
def jv:=@List.mem_cons_of_mem
def qK:=@List.append_nil
def qX:=@List.take_length
def qm:=@Nat.ne_of_lt
def jV:=@PySem.F.slot_list_append
def jU:=@PySem.F.type_list_append
def qT:=@List.mem_append
def qe:=@Nat.zero_le
def jL:=@List.mem_append_right
def qQ:=@decide_eq_true
def zH:=@if_pos
def jR:=@List.length_filter_le
def qB:=@List.mem_map
def jC:=@List.append_assoc
def jn:=@List.mem_filter
def ju:=@PySem.PassesOwn.never
def jG:=@Bool.and_eq_true
def ja:=@Nat.le_trans
def jQ:=@List.lookup_cons
def j9:=@Nat.lt_of_lt_of_le
def j8:=@List.mem_cons_self
def jT:=@Option.some.inj
def qy:=@Ne.symm
def xF:=@List.all_eq_true
def xh:=@PySem.Heap.size_push
def wA:=@List.getElem?_append_right
def xE:=@decide_eq_false
def vw:=@List.mem_append_left
def wz:=@List.getElem?_append_left
def xU:=@List.length_cons
def vg:=@List.filter_append
def xx:=@List.map_cons
def vf:=@Int.toNat_natCast
def yb:=@List.take_append_getElem
def vQ:=@List.length_range
def vd:=@List.mem_range
def vP:=@List.any_eq_true
def ya:=@PySem.mem_of_lookup
def QW:=@PyProof.Rows.callWith_type1
def wx:=@PySem.wpAny_newObj_type
def ZO:=@PySem.wpAny_callSpecial?_slot
def ZN:=@List.filter_cons_of_neg
def vv:=@Nat.lt_irrefl
def vc:=@Nat.ne_of_gt
def xT:=@beq_iff_eq
def vZ:=@PySem.wpAny_seqItems
def ww:=@Bool.eq_iff_iff
def y3:=@Int.emod_lt_of_pos
def yZ:=@decide_eq_true_iff
def QV:=@List.filter_cons_of_pos
def xZ:=@PySem.wpAny_mono
def w9:=@PySem.wpAny_call_entry
def w8:=@List.not_mem_nil
def Xb:=@List.getD_eq_getElem?_getD
def vO:=@List.map_map
def vt:=@PySem.wpAny_field
def yY:=@PySem.wpAny_truthy_bool
def yX:=@Nat.lt_succ_of_lt
def QU:=@PySem.Heap.get?_update_self
def yW:=@List.length_drop
def yV:=@List.getElem_mem
def Ws:=@PySem.F.slot_dict_keyiterator_next
def yU:=@Int.emod_nonneg
def Xa:=@PySem.Heap.get?_update_other
def w6:=@PySem.wpAny_holding
def wZ:=@List.any_cons
def ZM:=@Nat.lt_succ_self
def ZL:=@PySem.wpAny_isInstance
def ZK:=@List.filter_cons
def QT:=@PySem.Calls.spliced_cons
def J9:=@Array.length_toList
def ZJ:=@PySem.Value.type.inj
def QS:=@PySem.F.plain_min_loop
def wY:=@Sum.inl.inj
def Wr:=@PySem.Calls.callWith_builtin
def Wq:=@List.filter_eq_nil_iff
def J8:=@Nat.lt_of_le_of_lt
def J7:=@Bool.false_eq_true
def Zx:=@PySem.wpAny_setField_rec
def yu:=@PySem.wpAny_passesOwn
def yr:=@List.nodup_cons
def yq:=@Option.map_some
def Vf:=@PySem.F.slot_tuple_iterator_next
def Q9:=@List.mem_iff_getElem
def Ve:=@Array.getElem?_eq_getElem
def Q8:=@PySem.Around.under_plainId
def Zw:=@Bool.not_eq_true
def Vd:=@PySem.F.slot_list_getattribute
def Q7:=@List.replicate_succ
def Q6:=@PySem.Heap.SameBut.update
def yp:=@PySem.wpAny_attempt
def vW:=@PySem.wpAny_rule
def Q5:=@PySem.Obj.data_mapFields
def Zv:=@List.find?_cons
def Zu:=@List.filter_nil
def wC:=@Nat.le_succ
def Q4:=@PySem.Calls.spliced_nil
def yo:=@Nat.le_of_lt
def Vc:=@List.length_replicate
def yn:=@Nat.le_of_eq
def Vb:=@PySem.F.slot_enumerate_next
def Zt:=@PySem.wpAny_tryCatch
def Q3:=@List.getElem_inj
def Va:=@PySem.Calls.evalArgs_plain
def YB:=@Array.getElem?_eq_some_iff
def ym:=@PySem.wpAny_letGo
def X9:=@List.length_reverse
def X8:=@List.length_pos_iff
def Q1:=@List.nil_append
def Q0:=@Bool.or_eq_true
def YA:=@List.getElem?_zip_eq_some
def Yz:=@List.count_singleton_self
def X7:=@List.getElem?_drop
def Yy:=@List.length_erase_of_mem
def Yx:=@PySem.F.slot_list_extend
def Yw:=@PySem.F.type_list_extend
def Yv:=@PySem.F.plainAttrs_dict
def X6:=@List.flatten_cons
def X5:=@Option.some.injEq
def X4:=@List.count_append
def X3:=@List.Sublist.refl
def Yu:=@List.length_pos_of_mem
def X2:=@Nat.le_max_right
def Yt:=@PySem.Obj.isFreed_of_fields
def Ys:=@PySem.F.slot_dict_get
def Yr:=@Array.getElem?_toList
def Yq:=@List.take_append_drop
def X1:=@List.length_nil
def X0:=@List.forIn_cons
def XZ:=@PySem.F.slot_zip_next
def QZ:=@Nat.lt_trans
def zdU:=@PySem.F.args_dict_keyiterator_next_1
def QY:=@List.any_map
def XY:=@Nat.le_max_left
def XX:=@List.length_zip
def zdT:=@PySem.F.entry_dict_keyiterator_next
def zdS:=@List.count_eq_zero_of_not_mem
def Yp:=@List.filterMap_cons
def Yo:=@Nat.add_le_add_left
def Yn:=@List.flatMap_append
def Ym:=@List.getElem?_range
def zdR:=@PySem.F.args_tuple_iterator_next_1
def zdQ:=@PySem.F.slot_dict_setdefault
def Yl:=@List.mem_filterMap
def zdP:=@PySem.F.entry_tuple_iterator_next
def zdO:=@List.idxOf_lt_length_of_mem
def XW:=@PySem.Paired.length
def zdN:=@PySem.Calls.Name_function_global
def zdM:=@Int.fdiv_eq_ediv_of_nonneg
def zdL:=@Int.fmod_eq_emod_of_nonneg
def XV:=@Bool.false_or
def Yk:=@PySem.Obj.cls_mapFields
def Yj:=@List.getElem?_set
def QX:=@PySem.Walks.list
def XU:=@List.map_nil
def Yi:=@PySem.F.entry_min_loop
def Yh:=@List.nodup_range
def XT:=@Int.zero_add
def Yg:=@List.of_mem_zip
def Ye:=@List.length_set
def Yd:=@List.range_succ
def XS:=@Int.le_refl
def Yc:=@Bool.and_false
def Yb:=@List.forIn_nil
def W9:=@List.nodup_nil
namespace L2
open PySem PySem.Spec PyProof.Rows
abbrev Key:=Sum Int Str
def QB:Key->Value->Bool
 | .inl k,v=>Value.isInt k v
 | .inr x,v=>Value.isStrOf x v
def zin(w:World):Key->Int
 | .inl k=>hashInt k
 | .inr x=>hashStr w x
theorem jf:∀{k:Key} {v:Value},QB k v=true->(∃i t,k=Sum.inl i/\v=Value.int i t)\/(∃x t,k=Sum.inr x/\v=Value.str x t)
 | .inl i,v,h=>by
  obtain⟨t,e⟩:=Value.isInt_shape (k:=i) (v:=v) h
  exact .inl ⟨i,t,rfl,e⟩
 | .inr x,v,h=>by
  obtain⟨t,e⟩:=Value.isStrOf_shape (x:=x) (v:=v) h
  exact .inr ⟨x,t,rfl,e⟩
theorem zbH(i:Int)(t:Tok):QB (.inl i) (.int i t)=true:=by simp[QB,Value.isInt]
theorem zbG(x:Str)(t:Tok):QB (.inr x) (.str x t)=true:=by simp[QB,Value.isStrOf]
theorem zgF(a b:Int):decide ((Sum.inl a:Key)=Sum.inl b)=(a==b):=by
 by_cases e:a=b
 ·subst e;simp
 ·have h:¬(Sum.inl a:Key)=Sum.inl b:=fun q=>e (wY q)
  rw[xE h]
  exact(beq_eq_false_iff_ne.mpr e).symm
theorem zgC(a b:Str):decide ((Sum.inr a:Key)=Sum.inr b)=decide (a=b):=by
 by_cases e:a=b
 ·subst e;simp
 ·have h:¬(Sum.inr a:Key)=Sum.inr b:=fun q=>e (Sum.inr.inj q)
  rw[xE h,xE e]
theorem zgE(a:Int)(b:Str):decide ((Sum.inl a:Key)=Sum.inr b)=false:=xE (fun q=>nomatch q)
theorem zgD(a:Str)(b:Int):decide ((Sum.inr a:Key)=Sum.inl b)=false:=xE (fun q=>nomatch q)
def qh(prog:Program)(w:World):PySem.KeyKind prog w Key where
 is:=QB
 hash:=zin w
 inj:=fun v a b ha hb=>by
  rcases jf ha with ⟨i,t,rfl,rfl⟩ | ⟨x,t,rfl,rfl⟩
  ·rcases jf hb with ⟨j,u,rfl,e⟩ | ⟨y,u,rfl,e⟩
   ·injection e with e1 _;rw[e1]
   ·exact nomatch e
  ·rcases jf hb with ⟨j,u,rfl,e⟩ | ⟨y,u,rfl,e⟩
   ·exact nomatch e
   ·injection e with e1 _;rw[e1]
 byValue:=fun k v h=>by
  rcases jf h with ⟨i,t,rfl,rfl⟩ | ⟨x,t,rfl,rfl⟩<;>rfl
 pyHash:=fun hv h=>by
  rcases jf hv with ⟨i,t,rfl,rfl⟩ | ⟨x,t,rfl,rfl⟩
  ·exact wpAny_pyHash_int h
  ·exact wpAny_pyHash_str h
 eqBool:=fun hu hv h=>by
  rcases jf hu with ⟨i,t,rfl,rfl⟩ | ⟨x,t,rfl,rfl⟩
  ·rcases jf hv with ⟨j,u,rfl,rfl⟩ | ⟨y,u,rfl,rfl⟩
   ·rw[zgF] at h;exact wpAny_eqBool_int h
   ·rw[zgE] at h;exact SeqAt.EqAt.int_str i t y u _ _ _ _ h
  ·rcases jf hv with ⟨j,u,rfl,rfl⟩ | ⟨y,u,rfl,rfl⟩
   ·rw[zgD] at h;exact SeqAt.EqAt.str_int x t j u _ _ _ _ h
   ·rw[zgC] at h;exact wpAny_eqBool_str h
 «strs»:=fun k x t v h=>by
  rcases jf h with ⟨i,u,rfl,e⟩ | ⟨y,u,rfl,e⟩
  ·exact nomatch e
  ·injection e with e1 _
   subst e1
   cases v<;>rfl
theorem WT(prog:Program)(w:World)(k:Key)(v:Value):(qh prog w).is k v=QB k v:=rfl
theorem VZ(prog:Program)(w:World)(i:Int)(t:Tok):(qh prog w).is (.inl i) (.int i t)=true:=zbH i t
theorem VY(prog:Program)(w:World)(x:Str)(t:Tok):(qh prog w).is (.inr x) (.str x t)=true:=zbG x t
inductive V where
 | non | bl (b:Bool) | int (i:Int) | str (x:Str) | byt (b:Array UInt8) | flt (b:UInt64) | ref (a:Addr) | ty (n:String)
 deriving DecidableEq
def RelV:V->Value->Prop
 | .non,u=>u=Value.none
 | .bl b,u=>u=Value.bool b
 | .int i,u=>∃t,u=Value.int i t
 | .str x,u=>∃t,u=Value.str x t
 | .byt b,u=>∃t,u=Value.bytes b t
 | .flt b,u=>∃t,u=Value.float b t
 | .ref a,u=>u=Value.ref a
 | .ty n,u=>u=Value.type n
abbrev Vals:List V->List Value->Prop:=Paired RelV
theorem Vals.length{xs:List V}{us:List Value}(r:Vals xs us):xs.length=us.length:=XW r
theorem Vals.get:∀{xs:List V} {us:List Value} {i:Nat} {x:V},Vals xs us->xs[i]? =some x->∃u,us[i]? =some u/\RelV x u
 | _,_,_,_,.nil,e=>by simp at e
 | _,_,0,_,.cons r _,e=>by simp at e;subst e;exact⟨_,rfl,r⟩
 | _,_,i+1,x,.cons _ t,e=>by
  obtain⟨u,h1,h2⟩:=Vals.get (i:=i) (x:=x) t (by simpa using e)
  exact⟨u,by simpa using h1,h2⟩
theorem Vals.set{x:V}{u:Value}(r:RelV x u):∀{xs:List V} {us:List Value} (i:Nat),Vals xs us->Vals (xs.set i x) (us.set i u)
 | _,_,_,.nil=>.nil
 | _,_,0,.cons _ t=>.cons r t
 | _,_,i+1,.cons q t=>.cons q (Vals.set r i t)
theorem Vals.append:∀{xs ys:List V} {us ws:List Value},Vals xs us->Vals ys ws->Vals (xs++ys) (us++ws)
 | _,_,_,_,.nil,s=>s
 | _,_,_,_,.cons r t,s=>.cons r (Vals.append t s)
theorem Vals.reverse{xs:List V}{us:List Value}(h:Vals xs us):Vals xs.reverse us.reverse:=by
 induction h with
 | nil=>exact .nil
 | cons r t ih=>
  rw[List.reverse_cons,List.reverse_cons]
  exact Vals.append ih (.cons r .nil)
theorem Vals.take:∀{xs:List V} {us:List Value} (n:Nat),Vals xs us->Vals (xs.take n) (us.take n)
 | _,_,0,_=>.nil
 | _,_,_+1,.nil=>.nil
 | _,_,n+1,.cons r t=>.cons r (Vals.take n t)
theorem Vals.drop:∀{xs:List V} {us:List Value} (n:Nat),Vals xs us->Vals (xs.drop n) (us.drop n)
 | _,_,0,r=>r
 | _,_,_+1,.nil=>.nil
 | _,_,n+1,.cons _ t=>Vals.drop n t
def RelO:Option V->Option Value->Prop
 | some v,some u=>RelV v u
 | none,none=>True
 | _,_=>False
def KV{κ:Type}:List (κ×V)->List (κ×Value)->Prop:=Paired fun(p:κ×V) (q:κ×Value)=>p.1=q.1/\RelV p.2 q.2
def kV:Key->V
 | .inl i=>.int i
 | .inr x=>.str x
inductive HO where
  | lst (xs:List V)
  | tup (xs:List V)
  | dK (kvs:List (Key×V)) | dT (kvs:List (List Key×V))
  | set (S:Int->Bool) (n:Nat)
  | ins (C dx:Addr) (fs:List (Str×V))
  | own (x:Addr)
  | xd (fs:List (Str×V))
  | met (f x:Addr)
  | rng (lo hi:Int)
  | frz (o:Obj) (u:HO)
  | tbl (ps:Array Value)
  | ext (φ:Heap->Prop)
abbrev Hp:=Addr->Option HO
def upd(H:Hp)(a:Addr)(o:HO):Hp:=fun b=>if b=a then some o else H b
theorem zb{H:Hp}{a:Addr}{o:HO}:upd H a o a=some o:=by unfold upd;rw[zH rfl]
theorem zi{H:Hp}{a b:Addr}{o:HO}(h:b≠a):upd H a o b=H b:=by unfold upd;rw[zx h]
theorem zaz{H:Hp}{a b:Addr}{o u:HO}(h:H a=some o)(h':H b=some u)(d:o≠u):a≠b:=by
 intro e;subst e;rw[h] at h';exact d (jT h')
theorem zn{H:Hp}{a b:Addr}{o:HO}(h:H a=some o)(h':H b=none):a≠b:=by
 intro e;subst e;rw[h] at h';cases h'
section
variable(P:Program)(w:World)
def TupX(h:Heap)(a:Addr)(its:Array Value):Prop:=IsTup h a its/\∃o,h.get? a=some o/\o.dict=none
theorem TupX.by{h:Heap}{a:Addr}{its:Array Value}{n:Nat}(e:h.get? a=some { cls:=.type "tuple",data:=.seq its n }):TupX h a its:=⟨⟨_,e,rfl,n,rfl⟩,_,e,rfl⟩
def ObjOk(H:Hp)(h:Heap)(a:Addr):HO->Prop
 | .lst xs=>xs.length<=sizeLine/\∃(its:List Value) (n:Nat),Vals xs its/\h.get? a=some { cls:=.type "list",data:=.seq its.toArray n }
 | .tup xs=>xs.length<=sizeLine/\∃its:List Value,Vals xs its/\TupX h a its.toArray
 | .dK kvs=>kvs.length<=sizeLine/\(a==sysModules)=false/\∃vs,KV kvs vs/\h.DictOf (qh P w) a vs
 | .dT kvs=>kvs.length<=sizeLine/\(a==sysModules)=false/\∃xs:List (List Key×Addr×Value),
   Paired (fun(p:List Key×V) (q:List Key×Addr×Value)=>p.1=q.1/\H q.2.1=some (.tup (p.1.map kV))/\RelV p.2 q.2.2) kvs xs /\
   ∃o es ep,h.get? a=some o/\o.ExactDict/\o.data=.dict es ep/\es.toList=xs.map (entryOfKey (tupleKind (qh P w)))/\(xs.map (·.1)).Nodup
 | .set S n=>h.SetOf (intKind P w) a S n
 | .ins C dx fs=>H dx=some (.own a)/\fs.length<=1000/\dx≠a/\h.get? a=some (PySem.W.instObj C dx) /\
   ∃mA,h.Ns1 dx mA/\(∀f,RelO (fs.lookup f) (mA f))/\PySem.Within mA (fs.map (·.1))
 | .own _=>∃o,h.get? a=some o
 | .xd fs=>∃mA,h.Ns1 a mA/\∀f,RelO (fs.lookup f) (mA f)
 | .rng lo hi=>∃t u v,h.get? a=some { cls:=.type "range",data:=.fields #[.int lo t,.int hi u,.int 1 v] }
 | .frz o u=>h.get? a=some o/\ObjOk H h a u
 | .tbl ps=>h.get? a=some { cls:=.none,data:=.fields ps }
 | .met f x=>h.get? a=some (PySem.W.methodObj (.ref f) (.ref x))
 | .ext φ=>φ h/\(∃o,h.get? a=some o)/\∀h1 h2:Heap,φ h1->(∀o,h1.get? a=some o->h2.get? a=some o)->φ h2
def HOk(H:Hp)(h:Heap):Prop:=∀a o,H a=some o->ObjOk P w H h a o
end
section
variable{P:Program}{w:World}{H H':Hp}{h h':Heap}{a:Addr}{o:HO}
theorem ObjOk.lt(x:ObjOk P w H h a o):a<h.objs.size:=by
 cases o with
 | lst xs=>obtain⟨_,_,_,_,e⟩:=x;exact zR e
 | tup xs=>obtain⟨_,_,_,p⟩:=x;exact p.1.lt
 | dK kvs=>obtain⟨_,_,_,_,o,_,_,e,_⟩:=x;exact zR e
 | dT kvs=>obtain⟨_,_,_,_,o,_,_,e,_⟩:=x;exact zR e
 | set S n=>obtain⟨o,_,_,_,e,_⟩:=x;exact zR e
 | ins C dx fs=>obtain⟨_,_,_,e,_⟩:=x;exact zR e
 | own y=>obtain⟨_,e⟩:=x;exact zR e
 | xd fs=>obtain⟨_,⟨_,_,_,e,_⟩,_⟩:=x;exact zR e
 | rng lo hi=>obtain⟨_,_,_,e⟩:=x;exact zR e
 | frz ob u=>obtain⟨e,_⟩:=x;exact zR e
 | tbl ps=>exact zR (show h.get? a=some _ from x)
 | met f y=>exact zR (show h.get? a=some _ from x)
 | ext φ=>obtain⟨_,⟨_,e⟩,_⟩:=x;exact zR e
theorem Paired.mapP{α β:Type}{F G:α->β->Prop}:∀{l₁:List α} {l₂:List β},Paired F l₁ l₂->(∀a b,F a b->G a b)->Paired G l₁ l₂
 | _,_,.nil,_=>.nil
 | _,_,.cons r t,f=>.cons (f _ _ r) (Paired.mapP t f)
theorem ObjOk.stay(x:ObjOk P w H h a o)(k:∀b u,(b=a\/H b=some (.own a))->h.get? b=some u->h'.get? b=some u)
  (ho:∀b,H b=some (.own a)->H' b=some (.own a)) (ht:∀b xs,H b=some (.tup xs)->H' b=some (.tup xs)):ObjOk P w H' h' a o:=by
 induction o with
 | lst xs=>obtain⟨z,its,n,r,e⟩:=x;exact⟨z,its,n,r,k _ _ (.inl rfl) e⟩
 | tup xs=>obtain⟨z,its,r,⟨ob,e,c⟩,o2,e2,dn⟩:=x;exact⟨z,its,r,⟨ob,k _ _ (.inl rfl) e,c⟩,o2,k _ _ (.inl rfl) e2,dn⟩
 | dK kvs=>obtain⟨z,y,vs,r,ob,es,ep,e,c⟩:=x;exact⟨z,y,vs,r,ob,es,ep,k _ _ (.inl rfl) e,c⟩
 | dT kvs=>
  obtain⟨z,y,xs,r,ob,es,ep,e,c⟩:=x
  exact⟨z,y,xs,Paired.mapP r fun p q z=>⟨z.1,ht _ _ z.2.1,z.2.2⟩,ob,es,ep,k _ _ (.inl rfl) e,c⟩
 | set S n=>obtain⟨ob,es,ep,t,e,c⟩:=x;exact⟨ob,es,ep,t,k _ _ (.inl rfl) e,c⟩
 | ins C dx fs=>
  obtain⟨d,z,ne,e,mA,⟨od,es,ep,e2,c⟩,r⟩:=x
  exact⟨ho _ d,z,ne,k _ _ (.inl rfl) e,mA,⟨od,es,ep,k _ _ (.inr d) e2,c⟩,r⟩
 | own y=>obtain⟨ob,e⟩:=x;exact⟨ob,k _ _ (.inl rfl) e⟩
 | xd fs=>obtain⟨mA,⟨od,es,ep,e,c⟩,r⟩:=x;exact⟨mA,⟨od,es,ep,k _ _ (.inl rfl) e,c⟩,r⟩
 | rng lo hi=>obtain⟨t,u,v,e⟩:=x;exact⟨t,u,v,k _ _ (.inl rfl) e⟩
 | frz ob u ih=>obtain⟨e,q⟩:=x;exact⟨k _ _ (.inl rfl) e,ih q⟩
 | tbl ps=>
  have e:h.get? a=some { cls:=.none,data:=.fields ps }:=x
  show h'.get? a=some { cls:=.none,data:=.fields ps }
  exact k a _ (.inl rfl) e
 | met f y=>
  have e:h.get? a=some (PySem.W.methodObj (.ref f) (.ref y)):=x
  show h'.get? a=some (PySem.W.methodObj (.ref f) (.ref y))
  exact k a _ (.inl rfl) e
 | ext φ=>obtain⟨p,⟨o,e⟩,st⟩:=x;exact⟨st _ _ p fun o q=>k _ _ (.inl rfl) q,⟨o,k _ _ (.inl rfl) e⟩,st⟩
theorem HOk.lt(x:HOk P w H h)(e:H a=some o):a<h.objs.size:=(x a o e).lt
theorem HOk.fresh(x:HOk P w H h)(e:h.objs.size<=a):H a=none:=by
 cases q:H a with
 | none=>rfl
 | some u=>exact absurd (j9 (x.lt q) e) (vv _)
theorem HOk.kept(x:HOk P w H h)(k:∀b u,h.get? b=some u->h'.get? b=some u):HOk P w H h':=fun a o e=>
 (x a o e).stay (fun b u _ q=>k b u q) (fun _ q=>q) fun _ _ q=>q
theorem HOk.laid(x:HOk P w H h)(k:∀b u,h.get? b=some u->h'.get? b=some u)(hp:h.objs.size<=a)(new:ObjOk P w (upd H a o) h' a o):HOk P w (upd H a o) h':=fun b u e=>by
 have hn:=x.fresh hp
 by_cases hb:b=a
 ·subst hb;rw[zb] at e;cases e;exact new
 ·rw[zi hb] at e
  exact(x b u e).stay (fun c v _ q=>k c v q) (fun c q=>by rw[zi (zn q hn)];exact q) fun c xs q=>by rw[zi (zn q hn)];exact q
end
def Rd(H:Hp)(a:Addr)(u:HO):Prop:=H a=some u\/∃o,H a=some (.frz o u)
theorem Rd.ok{P:Program}{w:World}{H:Hp}{h:Heap}{a:Addr}{u:HO}(r:Rd H a u)(x:HOk P w H h):ObjOk P w H h a u:=by
 rcases r with r | ⟨o,r⟩
 ·exact x a u r
 ·obtain⟨_,q⟩:=x a _ r
  exact q
def Mut:Option HO->Prop
 | some (.lst _)=>True
 | some (.dK _)=>True
 | some (.dT _)=>True
 | some (.set _ _)=>True
 | some (.ins _ _ _)=>True
 | some (.ext _)=>True
 | _=>False
section
variable{P:Program}{w:World}{H:Hp}{h h':Heap}{x e:Addr}{o':HO}
theorem HOk.write(ok:HOk P w H h)(mu:Mut (H x))(he:e=x\/H e=some (.own x))(k:∀b u,b≠e->h.get? b=some u->h'.get? b=some u)(heo:∃u,h'.get? e=some u)
  (new:ObjOk P w (upd H x o') h' x o'):HOk P w (upd H x o') h':=fun b u q=>by
 have nown:∀c y,H c=some (.own y)->c≠x:=fun c y r z=>by subst z;rw[r] at mu;exact mu
 have ntup:∀c xs,H c=some (.tup xs)->c≠x:=fun c xs r z=>by subst z;rw[r] at mu;exact mu
 by_cases hb:b=x
 ·subst hb;rw[zb] at q;cases q;exact new
 ·rw[zi hb] at q
  by_cases hbe:b=e
  ·have q':H b=some (.own x):=by
    rcases he with z | z
    ·exact absurd (hbe.trans z) hb
    ·rw[hbe];exact z
   rw[q] at q';cases q'
   obtain⟨v,hv⟩:=heo
   exact⟨v,by rw[hbe];exact hv⟩
  ·refine(ok b u q).stay (fun c v hc r=>k c v ?_ r) (fun c r=>by rw[zi (nown c b r)];exact r) fun c xs r=>by rw[zi (ntup c xs r)];exact r
   rcases hc with rfl | hc
   ·exact hbe
   ·rintro rfl
    rcases he with z | z
    ·exact nown c b hc z
    ·rw[hc] at z;cases z;exact hb rfl
end
structure Un(fs ex:List Addr)(H H':Hp)(h h':Heap):Prop where
 keep:∀b o,h.get? b=some o->H b=none->b∉fs->b∉ex->h'.get? b=some o
 slot:∀b o,h.get? b=some o->H b=none->b∈fs->b∉ex->∃sl,h'.get? b=some { o with slots:=sl }
 free:∀b o,h.get? b=some o->H b=none->b∉ex->H' b=none
 there:∀b o,h.get? b=some o->b∉ex->∃o',h'.get? b=some o'
 tups:∀b xs,H b=some (.tup xs)->H' b=some (.tup xs)
 frzs:∀b o u,H b=some (.frz o u)->H' b=some (.frz o u)
 tbls:∀b ps,H b=some (.tbl ps)->∃more,H' b=some (.tbl (ps++more))
section
variable{fs fs' ex ex':List Addr}{H H1 H2:Hp}{h h1 h2 h':Heap}{a x e:Addr}{o:HO}
theorem Un.any(u:Un fs ex H H1 h h1){b:Addr}{ob:Obj}(q:h.get? b=some ob)(n:H b=none)(hx:b∉ex):∃sl,h1.get? b=some { ob with slots:=sl }:=by
 by_cases hb:b∈fs
 ·exact u.slot b ob q n hb hx
 ·exact⟨ob.slots,u.keep b ob q n hb hx⟩
theorem Un.kept(k:∀b u,h.get? b=some u->h'.get? b=some u):Un fs ex H H h h':=
 ⟨fun b ob q _ _ _=>k b ob q,fun b ob q _ _ _=>⟨ob.slots,k b ob q⟩,fun _ _ _ n _=>n,fun b ob q _=>⟨ob,k b ob q⟩,fun _ _ q=>q,fun _ _ _ q=>q,fun _ ps q=>⟨#[],by rw[q];simp⟩⟩
theorem Un.refl:Un fs ex H H h h:=Un.kept fun _ _ q=>q
theorem Un.laid(k:∀b u,h.get? b=some u->h'.get? b=some u)(hp:h.objs.size<=a)(hn:H a=none):Un fs ex H (upd H a o) h h' where
 keep:=fun b u q _ _ _=>k b u q
 slot:=fun b u q _ _ _=>⟨u.slots,k b u q⟩
 free:=fun b u q n _=>by rw[zi (qm (j9 (zR q) hp))];exact n
 there:=fun b u q _=>⟨u,k b u q⟩
 tups:=fun b xs q=>by rw[zi (zn q hn)];exact q
 frzs:=fun b u xs q=>by rw[zi (zn q hn)];exact q
 tbls:=fun b ps q=>⟨#[],by rw[zi (zn q hn),q];simp⟩
theorem Un.write(mu:Mut (H x))(he:e=x\/H e=some (.own x))(k:∀b u,b≠e->h.get? b=some u->h'.get? b=some u)(heo:∃u,h'.get? e=some u):Un fs ex H (upd H x o) h h':=by
 have hx:∀b,H b=none->b≠x:=fun b n z=>by subst z;rw[n] at mu;exact mu
 have hb:∀b,H b=none->b≠e:=fun b n z=>by
  subst z
  rcases he with r | r
  ·exact hx b n r
  ·rw[n] at r;cases r
 have hm:∀b u,H b=some u->¬Mut (some u)->b≠x:=fun b u q nm z=>by subst z;rw[q] at mu;exact nm mu
 refine⟨fun b u q n _ _=>k b u (hb b n) q,fun b u q n _ _=>⟨u.slots,k b u (hb b n) q⟩,fun b u q n _=>by rw[zi (hx b n)];exact n,fun b u q _=>?_,
  fun b xs q=>by rw[zi (hm b _ q fun z=>z)];exact q,fun b u xs q=>by rw[zi (hm b _ q fun z=>z)];exact q,fun b ps q=>⟨#[],by rw[zi (hm b _ q fun z=>z),q];simp⟩⟩
 by_cases hbe:b=e
 ·subst hbe;exact heo
 ·exact⟨u,k b u hbe q⟩
end
def trk(h:Heap)(H:Hp):List Addr:=(List.range h.objs.size).filter fun a=>(H a).isSome
def XF(h:Heap)(H:Hp):Heap:=PySem.W.hideAll h (trk h H)
theorem zbK(h:Heap)(H:Hp):(XF h H).objs.size=h.objs.size:=PySem.W.hideAll_size _ _
theorem zdr{h:Heap}{H:Hp}{b:Addr}{o:Obj}(e:h.get? b=some o)(n:H b=none):(XF h H).get? b=some o:=
 PySem.W.hideAll_get _ e fun hm=>by
  have q:(H b).isSome=true:=(jn.mp hm).2
  rw[n] at q;simp at q
theorem zeF{h:Heap}{H:Hp}{b:Addr}{o:Obj}(e:(XF h H).get? b=some o):h.get? b=some o/\H b=none:=by
 have e':h.get? b=some o:=PySem.W.of_hideAll (trk h H) e
 refine⟨e',?_⟩
 cases q:H b with
 | none=>rfl
 | some x=>
  have hm:b∈trk h H:=jn.mpr ⟨vd.mpr (zR e'),by simp[q]⟩
  have z:(XF h H).get? b=none:=PySem.W.hideAll_none (trk h H) hm
  rw[z] at e;cases e
def ze0(g h:Heap)(L:Addr):List (Addr×Obj):=(List.range h.objs.size).filterMap fun a=>if a=L\/(g.get? a).isSome=true then none else(h.get? a).map fun o=>(a,o)
def rest(g h:Heap)(L d:Addr):List (Addr×Obj):=(ze0 g h L).filter fun p=>decide (p.1≠d)
structure Mod(K:PySem.W.Frag)(mg:Str->Option Value)(base:Heap):Prop where
 kin:K.In base
 glob:base.Ns mainGlobals mg
 blt:∃mb,base.Ns builtinsNs mb/\∀x:Str,x ≠ "__name__" -> mb x=bootBuiltins x
 nolimit:base.NoLimit
structure Cx where
 prog:Program
 w:World
 K:PySem.W.Frag
 mg:Str->Option Value
 base:Heap
 A:Around
 N:List Str
 s₀:Shared
 H₀:Hp
 env:Env
 outer:List Env
 stack:List Env
 ex:List Addr
 fn:Str->Bool
 calm:Bool
 pn:List (Addr×Obj)
 xe:Value->Shared->Prop
def frs(l:List Env):List Addr:=l.filterMap (·.frame)
abbrev Cx.fs(X:Cx):List Addr:=frs X.outer
def Vis(sc:Scope)(x:Str):Prop:=sc.names.lookup x=some .local\/sc.names.lookup x=some .cell\/sc.names.lookup x=some .free
def Loc(sc:Scope)(x:Str):Prop:=sc.names.lookup x=some .local\/sc.names.lookup x=some .cell
def ziu(env:Env)(h:Heap)(m:Str->Option Value)(x:Str)(u:Value):Prop:=
 (env.kindOf x=some .local/\m x=some u)\/((env.kindOf x=some .cell\/env.kindOf x=some .free)/\∃c,env.cells.lookup x=some c/\h.IsCell c (some u))
structure Cx.Ok(X:Cx):Prop where
 mod:Mod X.K X.mg X.base
 kind:X.env.scope.kind=.function
 glob:X.env.globals=mainGlobals
 blt:X.env.builtins=builtinsNs
 above:X.s₀.heap.objs.size<=X.env.locals
 inj:∀x y c,X.env.cells.lookup x=some c->X.env.cells.lookup y=some c->x=y
 has:∀x,(X.env.kindOf x=some .cell\/X.env.kindOf x=some .free)->∃c,X.env.cells.lookup x=some c
 cab:∀x c,X.fn x=true->X.env.cells.lookup x=some c->X.s₀.heap.objs.size<=c
 hd:X.calm=true->X.A.handled=none
 frames:X.A.frames=some X.stack
 stk:X.stack=X.outer\/(X.stack=X.env::X.outer/\X.env.frame=some X.env.locals)
 exf:∀b∈X.ex,b≠X.env.locals/\∀x c,X.env.cells.lookup x=some c->c≠b
 bs:∀b o,X.base.get? b=some o->X.s₀.heap.get? b=some o/\X.H₀ b=none
 bsz:X.base.objs.size<=X.s₀.heap.objs.size
 noex:∀b o,X.base.get? b=some o->b∉X.ex
 exfs:∀b∈X.ex,b∉X.fs
 funs:X.s₀.heap.FunFrames X.base X.outer
 frf:∀b∈X.fs,X.H₀ b=none
structure Inv(X:Cx)(pins:List (Addr×Obj))(σ:List (Option V))(H:Hp)(s:Shared):Prop where
 ok:X.Ok
 os:s.os=X.s₀.os
 bare:AllBare s.gens
 base:Un X.fs X.ex X.H₀ H X.s₀.heap s.heap
 loc:∃m,s.heap.Ns X.env.locals m/\∀(i:Nat) (x:Str) (v:V),X.N[i]? =some x->σ[i]? =some (some v)->Vis X.env.scope x->∃u,RelV v u/\ziu X.env s.heap m x u
 cell:∀x c,X.env.cells.lookup x=some c->∃v,s.heap.IsCell c v
 free:H X.env.locals=none
 freeC:∀x c,X.env.cells.lookup x=some c->H c=none
 pin:∀p∈X.pn++pins,s.heap.get? p.1=some p.2/\H p.1=none/\p.1≠X.env.locals/\p.1∉X.fs/\∀v,p.2.data≠.cell v
 hok:HOk X.prog X.w H s.heap
 len:σ.length=X.N.length
section
variable{X:Cx}{pins:List (Addr×Obj)}{σ:List (Option V)}{H H':Hp}{s:Shared}{h':Heap}
theorem Cx.Ok.nofr(ok:X.Ok){b:Addr}{o:Obj}(e:X.base.get? b=some o):b∉X.fs:=fun hb=>by
 have:=(ok.funs.mem hb).1
 rw[e] at this;cases this
theorem Inv.bs(I:Inv X pins σ H s):∀b o,X.base.get? b=some o->s.heap.get? b=some o/\H b=none:=fun b o e=>
 ⟨I.base.keep b o (I.ok.bs b o e).1 (I.ok.bs b o e).2 (I.ok.nofr e) (I.ok.noex b o e),I.base.free b o (I.ok.bs b o e).1 (I.ok.bs b o e).2 (I.ok.noex b o e)⟩
theorem Inv.bk(I:Inv X pins σ H s):∀b o,X.base.get? b=some o->s.heap.get? b=some o:=fun b o e=>(I.bs b o e).1
theorem Inv.mod(I:Inv X pins σ H s):Mod X.K X.mg X.base:=I.ok.mod
theorem Inv.kIn(I:Inv X pins σ H s):X.K.In s.heap:=I.ok.mod.kin.keeps I.bk
theorem Inv.lt(I:Inv X pins σ H s):X.env.locals<s.heap.objs.size:=let ⟨_,hn,_⟩:=I.loc;hn.lt
theorem Inv.sz(I:Inv X pins σ H s):X.s₀.heap.objs.size<=s.heap.objs.size:=ja I.ok.above (yo I.lt)
theorem Inv.nofs(I:Inv X pins σ H s){a:Addr}(h:s.heap.objs.size<=a):a∉X.fs:=fun hb=>by
 obtain⟨_,o,ho,_⟩:=I.ok.funs.mem hb
 exact absurd (j9 (zR ho) (ja I.sz h)) (vv _)
theorem Inv.cne(I:Inv X pins σ H s):∀x c,X.env.cells.lookup x=some c->c≠X.env.locals:=fun x c e z=>by
 obtain⟨v,o,ho,hd⟩:=I.cell x c e
 obtain⟨m,⟨o',es,ep,ho',hd',_⟩,_⟩:=I.loc
 rw[z,ho'] at ho;cases ho;rw[hd'] at hd;cases hd
theorem Inv.funs(I:Inv X pins σ H s):s.heap.FunFrames X.base X.outer:=by
 have all:∀(l:List Env),(∀b∈frs l,b∈X.fs)->X.s₀.heap.FunFrames X.base l->s.heap.FunFrames X.base l:=by
  intro l
  induction l with
  | nil=>intro _ _;trivial
  | cons env r ih=>
   intro hs hl
   obtain⟨hk,⟨L,o,hf,hn,ho,hd⟩,hr⟩:=hl
   have hL:L∈X.fs:=hs L (by unfold frs;rw[Yp,hf];exact j8)
   obtain⟨sl,e⟩:=I.base.slot L o ho (I.ok.frf L hL) hL fun z=>I.ok.exfs L z hL
   exact⟨hk,⟨L,_,hf,hn,e,hd⟩,ih (fun b hb=>hs b (by unfold frs;rw[Yp,hf];exact jv _ hb)) hr⟩
 exact all X.outer (fun _ hb=>hb) I.ok.funs
theorem Inv.stack(I:Inv X pins σ H s):s.heap.FunFrames X.base X.stack:=by
 rcases I.ok.stk with e | ⟨e,hf⟩
 ·rw[e];exact I.funs
 ·rw[e]
  obtain⟨m,hn,_⟩:=I.loc
  refine .cons (by rw[I.ok.kind];decide) hf hn ?_ I.funs
  exact Heap.get?_none_of_le (ja I.ok.bsz I.ok.above)
theorem Inv.stkSub(I:Inv X pins σ H s):∀b∈frs X.stack,b∈X.env.locals::X.fs:=fun b hb=>by
 rcases I.ok.stk with e | ⟨e,hf⟩
 ·rw[e] at hb;exact jv _ hb
 ·rw[e] at hb
  unfold frs at hb
  rw[Yp,hf] at hb
  exact hb
theorem Inv.stkFree(I:Inv X pins σ H s):∀b∈frs X.stack,H b=none:=fun b hb=>by
 rcases zZ.mp (I.stkSub b hb) with e | hb
 ·rw[e];exact I.free
 ·obtain⟨_,o,ho,_⟩:=I.ok.funs.mem hb
  exact I.base.free b o ho (I.ok.frf b hb) fun z=>I.ok.exfs b z hb
theorem Inv.step{g':Array GenState}{t':Nat}{d':Drawn}{ch:List Addr}(I:Inv X pins σ H s)
  (hch:∀b∈ch,(b∈X.ex\/X.s₀.heap.objs.size<=b)/\b≠X.env.locals/\(∀x c,X.env.cells.lookup x=some c->c≠b)/\∀p∈X.pn++pins,p.1≠b)
  (keep:∀b o,b≠X.env.locals->b∉X.fs->b∉ch->s.heap.get? b=some o->H b=none->h'.get? b=some o)
  (slot:∀b o,b≠X.env.locals->b∈X.fs->b∉ch->s.heap.get? b=some o->H b=none->∃sl,h'.get? b=some { o with slots:=sl }) (free:∀b o,b∉ch->s.heap.get? b=some o->H b=none->H' b=none)
  (there:∀b o,b∉ch->s.heap.get? b=some o->∃o',h'.get? b=some o')
  (tups:∀b xs,H b=some (.tup xs)->H' b=some (.tup xs)) (frzs:∀b o u,H b=some (.frz o u)->H' b=some (.frz o u)) (tbls:∀b ps,H b=some (.tbl ps)->∃more,H' b=some (.tbl (ps++more)))
  (ns:∀m,s.heap.Ns X.env.locals m->h'.Ns X.env.locals m) (hok:HOk X.prog X.w H' h') (hg:AllBare g') :
  Inv X pins σ H' { s with heap:=h',gens:=g',drawn:=d',toks:=t' }:=by
 have neL:∀b o,X.s₀.heap.get? b=some o->b≠X.env.locals:=fun b o e=>qm (j9 (zR e) I.ok.above)
 have neC:∀b o,X.s₀.heap.get? b=some o->b∉X.ex->b∉ch:=fun b o e hx hb=>by
  rcases(hch b hb).1 with z | z
  ·exact hx z
  ·exact absurd (j9 (zR e) z) (vv _)
 have cellK:∀x c,X.env.cells.lookup x=some c->∀v,s.heap.IsCell c v->h'.IsCell c v:=fun x c e v ⟨o,ho,hd⟩=>by
  have nch:c∉ch:=fun z=>(hch c z).2.2.1 x c e rfl
  by_cases hc:c∈X.fs
  ·obtain⟨sl,q⟩:=slot c o (I.cne x c e) hc nch ho (I.freeC x c e)
   exact⟨_,q,hd⟩
  ·exact⟨o,keep c o (I.cne x c e) hc nch ho (I.freeC x c e),hd⟩
 refine⟨I.ok,I.os,hg,⟨fun b o e n hb hx=>?_,fun b o e n hb hx=>?_,fun b o e n hx=>?_,fun b o e hx=>?_,fun b xs e=>tups b xs (I.base.tups b xs e),fun b o xs e=>frzs b o xs (I.base.frzs b o xs e),fun b ps e=>?_⟩,?_,fun x c e=>?_,?_,fun x c e=>?_,fun p hp=>?_,hok,I.len⟩
 ·exact keep b o (neL b o e) hb (neC b o e hx) (I.base.keep b o e n hb hx) (I.base.free b o e n hx)
 ·obtain⟨sl,e1⟩:=I.base.slot b o e n hb hx
  obtain⟨sl',e2⟩:=slot b _ (neL b o e) hb (neC b o e hx) e1 (I.base.free b o e n hx)
  exact⟨sl',e2⟩
 ·obtain⟨o',e1⟩:=I.base.there b o e hx
  exact free b o' (neC b o e hx) e1 (I.base.free b o e n hx)
 ·obtain⟨o',e1⟩:=I.base.there b o e hx
  exact there b o' (neC b o e hx) e1
 ·obtain⟨m1,e1⟩:=I.base.tbls b ps e
  obtain⟨m2,e2⟩:=tbls b _ e1
  exact⟨m1++m2,by rw[e2,Array.append_assoc]⟩
 ·obtain⟨m,hn,hl⟩:=I.loc
  refine⟨m,ns m hn,fun i x v e1 e2 e3=>?_⟩
  obtain⟨u,r,l⟩:=hl i x v e1 e2 e3
  refine⟨u,r,?_⟩
  rcases l with l | ⟨k,c,e,z⟩
  ·exact .inl l
  ·exact .inr ⟨k,c,e,cellK x c e _ z⟩
 ·obtain⟨v,z⟩:=I.cell x c e
  exact⟨v,cellK x c e v z⟩
 ·obtain⟨m,⟨o,_,_,ho,_⟩,_⟩:=I.loc
  exact free _ o (fun z=>(hch _ z).2.1 rfl) ho I.free
 ·obtain⟨v,o,ho,hd⟩:=I.cell x c e
  exact free c o (fun z=>(hch c z).2.2.1 x c e rfl) ho (I.freeC x c e)
 ·obtain⟨e,n,ne,nf,d⟩:=I.pin p hp
  have nch:p.1∉ch:=fun z=>(hch p.1 z).2.2.2 p hp rfl
  exact⟨keep p.1 p.2 ne nf nch e n,free p.1 p.2 nch e n,ne,nf,d⟩
theorem Inv.un{t':Nat}(I:Inv X pins σ H s)(u:Un X.fs [] H H' s.heap h')(hok:HOk X.prog X.w H' h'):Inv X pins σ H' { s with heap:=h',toks:=t' }:=by
 obtain⟨m,⟨o,es,ep,ho,r⟩,_⟩:=id I.loc
 obtain⟨sl,hL⟩:=u.any ho I.free (by simp)
 exact I.step (g':=s.gens) (d':=s.drawn) (ch:=[]) (fun _ z=>nomatch z) (fun b o _ hb _ e n=>u.keep b o e n hb (by simp)) (fun b o _ hb _ e n=>u.slot b o e n hb (by simp)) (fun b o _ e n=>u.free b o e n (by simp)) (fun b o _ e=>u.there b o e (by simp)) u.tups u.frzs u.tbls (fun m' hm=>by
  obtain⟨o',es',ep',ho',r'⟩:=hm
  rw[ho] at ho';cases ho'
  exact⟨_,es',ep',hL,r'⟩) hok I.bare
theorem Inv.call{g':Array GenState}{t':Nat}{d':Drawn}{ch:List Addr}(I:Inv X pins σ H s)(u:Un (frs X.stack) ch H H' s.heap h')(hok:HOk X.prog X.w H' h')(hg:AllBare g')
  (hch:∀b∈ch,(b∈X.ex\/X.s₀.heap.objs.size<=b)/\b≠X.env.locals/\(∀x c,X.env.cells.lookup x=some c->c≠b)/\∀p∈X.pn++pins,p.1≠b) :
  Inv X pins σ H' { s with heap:=h',gens:=g',drawn:=d',toks:=t' }:=by
 obtain⟨m,⟨o,es,ep,ho,r⟩,_⟩:=id I.loc
 obtain⟨sl,hL⟩:=u.any ho I.free fun z=>(hch _ z).2.1 rfl
 exact I.step (ch:=ch) hch (fun b o hL hb hc e n=>u.keep b o e n (fun z=>(zZ.mp (I.stkSub b z)).elim hL hb) hc) (fun b o _ _ hc e n=>u.any e n hc) (fun b o hc e n=>u.free b o e n hc) (fun b o hc e=>u.there b o e hc) u.tups u.frzs u.tbls (fun m' hm=>by
  obtain⟨o',es',ep',ho',r'⟩:=hm
  rw[ho] at ho';cases ho'
  exact⟨_,es',ep',hL,r'⟩) hok hg
theorem Inv.turned{t':Nat}{it:Addr}(I:Inv X pins σ H s)(k:∀b o,b≠it->s.heap.get? b=some o->h'.get? b=some o)(hn:H it=none)(hL:it≠X.env.locals)
  (h1:it∈X.ex\/X.s₀.heap.objs.size<=it) (h2:∀x c,X.env.cells.lookup x=some c->c≠it) (h3:∀p∈X.pn++pins,p.1≠it):Inv X pins σ H { s with heap:=h',toks:=t' }:=by
 have nit:∀b u,H b=some u->b≠it:=fun b u e z=>by rw[z,hn] at e;cases e
 refine I.step (g':=s.gens) (d':=s.drawn) (ch:=[it]) (fun b hb=>?_) (fun b o _ _ hc e _=>k b o (fun z=>hc (by simp[z])) e) (fun b o _ _ hc e _=>⟨o.slots,k b o (fun z=>hc (by simp[z])) e⟩) (fun _ _ _ _ n=>n)
  (fun b o hc e=>⟨o,k b o (fun z=>hc (by simp[z])) e⟩) (fun _ _ e=>e) (fun _ _ _ e=>e) (fun b ps e=>⟨#[],by rw[e];simp⟩) (fun m hm=>?_) (fun b u e=>?_) I.bare
 ·have e:b=it:=by simpa using hb
  subst e
  exact⟨h1,hL,h2,h3⟩
 ·obtain⟨o,es,ep,ho,r⟩:=hm
  exact⟨o,es,ep,k _ o (qy hL) ho,r⟩
 ·refine(I.hok b u e).stay (fun c v hc q=>k c v ?_ q) (fun _ q=>q) fun _ _ q=>q
  rcases hc with z | z
  ·rw[z];exact nit b u e
  ·exact nit c _ z
theorem Inv.tok(I:Inv X pins σ H s)(t:Nat):Inv X pins σ H { s with toks:=t }:=I.un (h':=s.heap) (t':=t) Un.refl I.hok
theorem Inv.kept{t':Nat}(I:Inv X pins σ H s)(k:∀b u,s.heap.get? b=some u->h'.get? b=some u):Inv X pins σ H { s with heap:=h',toks:=t' }:=I.un (Un.kept k) (I.hok.kept k)
theorem Inv.laid{a:Addr}{o:HO}{t':Nat}(I:Inv X pins σ H s)(k:∀b u,s.heap.get? b=some u->h'.get? b=some u)(hp:s.heap.objs.size<=a)(new:ObjOk X.prog X.w (upd H a o) h' a o) :
  Inv X pins σ (upd H a o) { s with heap:=h',toks:=t' }:=I.un (Un.laid k hp (I.hok.fresh hp)) (I.hok.laid k hp new)
theorem Inv.write{x e:Addr}{o:HO}{t':Nat}(I:Inv X pins σ H s)(mu:Mut (H x))(he:e=x\/H e=some (.own x))(k:∀b u,b≠e->s.heap.get? b=some u->h'.get? b=some u)(heo:∃u,h'.get? e=some u)
  (new:ObjOk X.prog X.w (upd H x o) h' x o):Inv X pins σ (upd H x o) { s with heap:=h',toks:=t' }:=I.un (Un.write mu he k heo) (I.hok.write mu he k heo new)
theorem Inv.weak{σ':List (Option V)}(I:Inv X pins σ H s)(hl:σ'.length=σ.length)(w:∀(i:Nat) v,σ'[i]? =some (some v)->σ[i]? =some (some v)):Inv X pins σ' H s:=
 ⟨I.ok,I.os,I.bare,I.base,let ⟨m,hn,hl'⟩:=I.loc;⟨m,hn,fun i x v e1 e2 e3=>hl' i x v e1 (w i v e2) e3⟩,I.cell,I.free,I.freeC,I.pin,I.hok,hl.trans I.len⟩
theorem Inv.pins_of{pins':List (Addr×Obj)}(I:Inv X pins σ H s)(h:∀p∈pins',s.heap.get? p.1=some p.2/\H p.1=none/\p.1≠X.env.locals/\p.1∉X.fs/\∀v,p.2.data≠.cell v):Inv X pins' σ H s:=
 ⟨I.ok,I.os,I.bare,I.base,I.loc,I.cell,I.free,I.freeC,fun p hp=>(qT.mp hp).elim (fun z=>I.pin p (vw _ z)) (h p),I.hok,I.len⟩
theorem VU{N:List Str}(hN:N.Nodup){i j:Nat}{x:Str}(a:N[i]? =some x)(b:N[j]? =some x):i=j:=by
 obtain⟨h1,e1⟩:=zW.mp a
 obtain⟨h2,e2⟩:=zW.mp b
 exact(Q3 hN).mp (e1.trans e2.symm)
theorem zbu{M:Model}{A:Around}{E:Value->Shared->Prop}{i:Nat}{x:Str}{v:V}{u:Value}{Q:Unit->Shared->Prop}(I:Inv X pins σ H s)(hN:X.N.Nodup)(hi:X.N[i]? =some x)(hx:Loc X.env.scope x)(r:RelV v u)
  (h:∀s',Inv X pins (σ.set i (some v)) H s'->(∃a,Heap.SameBut a s.heap s'.heap/\(a=X.env.locals\/X.env.cells.lookup x=some a))->Q () s') (hf:X.fn x=true\/X.env.scope.names.lookup x=some .local:=by first| exact .inl rfl | exact .inr rfl | assumption):wpAny M A (storeName X.env x u) Q E s:=by
 obtain⟨m,hn,hl⟩:=id I.loc
 have hcls:(X.env.scope.kind==.class||(X.env.scope.kind==.module&&X.env.locals != X.env.globals))=false:=by rw[I.ok.kind];rfl
 have hiσ:i<σ.length:=by rw[I.len];exact(zW.mp hi).1
 have cne:=I.cne
 have tracked:∀{a:Addr} {h':Heap},(∃o,s.heap.get? a=some o/\H a=none)->Heap.SameBut a s.heap h'->HOk X.prog X.w H h':=fun {a h'} ha hs b ob e=>by
  obtain⟨_,_,hfree⟩:=ha
  refine(I.hok b ob e).stay (fun c w' hc q=>(hs.2 c ?_).trans q) (fun _ q=>q) fun _ _ q=>q
  rintro rfl
  rcases hc with rfl | hc
  ·rw[hfree] at e;cases e
  ·rw[hfree] at hc;cases hc
 rcases hx with hk | hk
 ·refine wpAny_storeName_local hk hn (fun h' hn' hs=>?_) hcls
  obtain⟨oL,_,_,hoL,_⟩:=id hn
  refine h _ ⟨I.ok,I.os,I.bare,⟨fun b o e n hb hx=>?_,fun b o e n hb hx=>?_,I.base.free,fun b o e hx=>?_,I.base.tups,I.base.frzs,I.base.tbls⟩,⟨_,hn',fun j y v' e1 e2 e3=>?_⟩,fun y c e=>?_,I.free,I.freeC,fun p hp=>?_,tracked ⟨oL,hoL,I.free⟩ hs,by simpa using I.len⟩ ⟨_,hs,.inl rfl⟩
  ·exact(hs.2 b (qm (j9 (zR e) I.ok.above))).trans (I.base.keep b o e n hb hx)
  ·obtain⟨sl,e1⟩:=I.base.slot b o e n hb hx
   exact⟨sl,(hs.2 b (qm (j9 (zR e) I.ok.above))).trans e1⟩
  ·obtain⟨o',e1⟩:=I.base.there b o e hx
   exact⟨o',(hs.2 b (qm (j9 (zR e) I.ok.above))).trans e1⟩
  ·by_cases hj:j=i
   ·subst hj
    rw[hi] at e1;cases e1
    rw[List.getElem?_set_self hiσ] at e2
    cases e2
    exact⟨u,r,.inl ⟨hk,by simp⟩⟩
   ·rw[List.getElem?_set_ne (qy hj)] at e2
    obtain⟨u',r',q⟩:=hl j y v' e1 e2 e3
    refine⟨u',r',?_⟩
    rcases q with ⟨k,e⟩ | ⟨k,c,e,z⟩
    ·refine .inl ⟨k,?_⟩
     have:y≠x:=fun e=>hj (VU hN e1 (e▸hi))
     simp[this,e]
    ·exact .inr ⟨k,c,e,z.sameBut hs (cne y c e)⟩
  ·obtain⟨w',z⟩:=I.cell y c e
   exact⟨w',z.sameBut hs (cne y c e)⟩
  ·obtain⟨e,n,ne,nf,d⟩:=I.pin p hp
   exact⟨(hs.2 p.1 ne).trans e,n,ne,nf,d⟩
 ·have hfn:X.fn x=true:=by
   rcases hf with z | z
   ·exact z
   ·rw[z] at hk;cases hk
  obtain⟨c,hc⟩:=I.ok.has x (.inl hk)
  obtain⟨w',z⟩:=I.cell x c hc
  refine wpAny_storeName_cell I.ok.kind hk hc z (fun h' hc' hs=>?_)
  obtain⟨oc,hoc,hocd⟩:=id z
  refine h { s with heap:=h' } ⟨I.ok,I.os,I.bare,⟨fun b o e n hb hx=>?_,fun b o e n hb hx=>?_,I.base.free,fun b o e hx=>?_,I.base.tups,I.base.frzs,I.base.tbls⟩,⟨m,hn.sameBut hs (qy (cne x c hc)),fun j y v' e1 e2 e3=>?_⟩,fun y c' e=>?_,I.free,I.freeC,fun p hp=>?_,tracked ⟨oc,hoc,I.freeC x c hc⟩ hs,by simpa using I.len⟩ ⟨c,hs,.inr hc⟩
  ·exact(hs.2 b (qm (j9 (zR e) (I.ok.cab x c hfn hc)))).trans (I.base.keep b o e n hb hx)
  ·obtain⟨sl,e1⟩:=I.base.slot b o e n hb hx
   exact⟨sl,(hs.2 b (qm (j9 (zR e) (I.ok.cab x c hfn hc)))).trans e1⟩
  ·obtain⟨o',e1⟩:=I.base.there b o e hx
   exact⟨o',(hs.2 b (qm (j9 (zR e) (I.ok.cab x c hfn hc)))).trans e1⟩
  ·by_cases hj:j=i
   ·subst hj
    rw[hi] at e1;cases e1
    rw[List.getElem?_set_self hiσ] at e2
    cases e2
    exact⟨u,r,.inr ⟨.inl hk,c,hc,hc'⟩⟩
   ·rw[List.getElem?_set_ne (qy hj)] at e2
    obtain⟨u',r',q⟩:=hl j y v' e1 e2 e3
    refine⟨u',r',?_⟩
    rcases q with q | ⟨k,c',e,z'⟩
    ·exact .inl q
    ·refine .inr ⟨k,c',e,z'.sameBut hs ?_⟩
     rintro rfl
     exact hj (VU hN e1 (I.ok.inj _ _ _ e hc▸hi))
  ·by_cases hcc:c'=c
   ·subst hcc;exact⟨_,hc'⟩
   ·obtain⟨w2,z2⟩:=I.cell y c' e
    exact⟨w2,z2.sameBut hs hcc⟩
  ·obtain⟨e,n,ne,nf,d⟩:=I.pin p hp
   refine⟨(hs.2 p.1 ?_).trans e,n,ne,nf,d⟩
   intro q
   rw[q,hoc] at e
   have q':oc=p.2:=jT e
   exact d w' (by rw[<- q'];exact hocd)
theorem wa{M:Model}{A:Around}{E:Value->Shared->Prop}{i:Nat}{x:Str}{v:V}{u:Value}{Q:Unit->Shared->Prop}(I:Inv X pins σ H s)(hN:X.N.Nodup)(hi:X.N[i]? =some x)(hx:Loc X.env.scope x)(r:RelV v u)
  (h:∀s',Inv X pins (σ.set i (some v)) H s'->Q () s') (hf:X.fn x=true\/X.env.scope.names.lookup x=some .local:=by first| exact .inl rfl | exact .inr rfl | assumption):wpAny M A (storeName X.env x u) Q E s:=
 zbu I hN hi hx r (fun s' I' _=>h s' I') hf
theorem Inv.call'{s':Shared}{ch:List Addr}(I:Inv X pins σ H s)(ho:s'.os=s.os)(u:Un (frs X.stack) ch H H' s.heap s'.heap)(hok:HOk X.prog X.w H' s'.heap)(hg:AllBare s'.gens)
  (hch:∀b∈ch,(b∈X.ex\/X.s₀.heap.objs.size<=b)/\b≠X.env.locals/\(∀x c,X.env.cells.lookup x=some c->c≠b)/\∀p∈X.pn++pins,p.1≠b):Inv X pins σ H' s':=by
 obtain⟨h',g',d',t',o'⟩:=s'
 have e:o'=s.os:=ho
 subst e
 exact I.call (g':=g') (t':=t') (d':=d') u hok hg hch
end
abbrev XK:=Value->Option Addr->Hp->Prop
abbrev St:=List (Option V)
abbrev VK:=V->Hp->Prop
abbrev TE:=St->Hp->VK->Prop
abbrev TT:=St->Hp->(Bool->Hp->Prop)->Prop
abbrev TA:=St->Hp->(List V->Hp->Prop)->Prop
structure Vi where
 nx:St->Hp->Prop
 rt:VK
 bk:St->Hp->Prop:=fun _ _=>False
 ct:St->Hp->Prop:=fun _ _=>False
abbrev TS:=Vi->St->Hp->Prop
def EP(X:Cx)(pins:List (Addr×Obj))(σ:St)(Q:VK)(u:Value)(s':Shared):Prop:=∃v H',Inv X pins σ H' s'/\RelV v u/\Q v H'
def TP(X:Cx)(pins:List (Addr×Obj))(σ:St)(Q:Bool->Hp->Prop)(b:Bool)(s':Shared):Prop:=∃H',Inv X pins σ H' s'/\Q b H'
def AP(X:Cx)(pins:List (Addr×Obj))(σ:St)(Q:List V->Hp->Prop)(us:List Value)(s':Shared):Prop:=∃vs H',Inv X pins σ H' s'/\Vals vs us/\Q vs H'
def SP(X:Cx)(pins:List (Addr×Obj))(D:Vi)(f:Flow)(s':Shared):Prop:=
 match f with
 | .next=>∃σ' H',Inv X pins σ' H' s'/\D.nx σ' H'
 | .brk=>∃σ' H',Inv X pins σ' H' s'/\D.bk σ' H'
 | .cont=>∃σ' H',Inv X pins σ' H' s'/\D.ct σ' H'
 | .ret u=>∃v σ' H',Inv X pins σ' H' s'/\RelV v u/\D.rt v H'
def PE(X:Cx)(e:Expr)(t:TE):Prop:=
 ∀(pins:List (Addr×Obj)) (s:Shared) (σ:St) (H:Hp) (Q:VK),Inv X pins σ H s->t σ H Q->wpAny (model X.prog X.w) X.A (eval e X.env) (EP X pins σ Q) X.xe s
def PT(X:Cx)(e:Expr)(t:TT):Prop:=
 ∀(pins:List (Addr×Obj)) (s:Shared) (σ:St) (H:Hp) (Q:Bool->Hp->Prop),Inv X pins σ H s->t σ H Q->wpAny (model X.prog X.w) X.A (isTrue e X.env (eval e X.env)) (TP X pins σ Q) X.xe s
def PW(X:Cx)(e:Expr)(t:TT):Prop:=
 ∀(whole:Sem Value) (pins:List (Addr×Obj)) (s:Shared) (σ:St) (H:Hp) (Q:Bool->Hp->Prop),Inv X pins σ H s->t σ H Q->wpAny (model X.prog X.w) X.A (isTrue e X.env whole) (TP X pins σ Q) X.xe s
theorem PW.pt{X:Cx}{e:Expr}{t:TT}(h:PW X e t):PT X e t:=h _
def PA(X:Cx)(es:List Expr)(t:TA):Prop:=
 ∀(pos:Pos) (pins:List (Addr×Obj)) (s:Shared) (σ:St) (H:Hp) (Q:List V->Hp->Prop),Inv X pins σ H s->t σ H Q->wpAny (model X.prog X.w) X.A (spliced (backTo pos (starEach es X.env))) (AP X pins σ Q) X.xe s
def PS(X:Cx)(st:Stmt)(t:TS):Prop:=
 ∀(pins:List (Addr×Obj)) (s:Shared) (σ:St) (H:Hp) (D:Vi),Inv X pins σ H s->t D σ H->wpAny (model X.prog X.w) X.A (exec st X.env) (SP X pins D) X.xe s
def PSs(X:Cx)(st:List Stmt)(t:TS):Prop:=
 ∀(pins:List (Addr×Obj)) (s:Shared) (σ:St) (H:Hp) (D:Vi),Inv X pins σ H s->t D σ H->wpAny (model X.prog X.w) X.A (execs st X.env) (SP X pins D) X.xe s
theorem thn{α:Type}{t:Sem α}{Q Q':α->Shared->Prop}{M:Model}{A:Around}{E:Value->Shared->Prop}{s:Shared}(h:wpAny M A t Q E s)(hQ:∀a s,Q a s->Q' a s):wpAny M A t Q' E s:=xZ h hQ fun _ _ x=>x
section
variable{X:Cx}
inductive IsB(x:V)(H:Hp)(Q:Bool->Hp->Prop):Prop
 | mk (c:Bool) (h:x=.bl c) (q:Q c H):IsB x H Q
inductive IsI(x:V)(H:Hp)(Q:Int->Hp->Prop):Prop
 | mk (i:Int) (h:x=.int i) (q:Q i H):IsI x H Q
inductive zh4(vs:List V)(H:Hp)(Q:V->V->Hp->Prop):Prop
 | mk (v w:V) (h:vs=[v,w]) (q:Q v w H):zh4 vs H Q
inductive zfP(i:Nat)(σ:St)(H:Hp)(Q:VK):Prop
 | mk (v:_) (_:σ[i]? =some (some v)) (_:Q v H):zfP i σ H Q
def tC(v:V):TE:=fun _ H Q=>Q v H
theorem zgc{i:Nat}{x:Str}{pos:Pos}(hN:X.N[i]? =some x)(hv:Vis X.env.scope x)(hd:(x==("__debug__" : Str))=false:=by decide)(hcd:(x==("__classdict__" : Str))=false:=by decide):PE X (.Name x pos) (zfP i):=by
 intro pins s σ H Q I h
 obtain⟨v,e,h⟩:=h
 obtain⟨m,hn,hl⟩:=I.loc
 obtain⟨u,r,l⟩:=hl i x v hN e hv
 have fin:EP X pins σ Q u s:=⟨v,H,I,r,h⟩
 rcases l with ⟨hk,hm⟩ | ⟨hk,c,hc,hcell⟩
 ·exact wpAny_Name (wpAny_loadName_local I.ok.kind hk hn hm fin) hd
 ·rcases hk with hk | hk
  ·exact wpAny_Name (wpAny_loadName_cell I.ok.kind hk hc hcell fin) hd
  ·exact wpAny_Name (wpAny_loadName_free I.ok.kind hk hc hcell fin hcd) hd
theorem zf{i j pos}:PE X (.Constant (.int i) j pos) (tC (.int i)):=fun _ _ _ H _ I h=>wpAny_Constant_int ⟨.int i,H,I.tok _,⟨_,rfl⟩,h⟩
theorem yI{b j pos}:PE X (.Constant (.bool b) j pos) (tC (.bl b)):=fun _ _ _ H _ I h=>Constant_bool ⟨.bl b,H,I,rfl,h⟩
theorem Xq{j pos}:PE X (.Constant .none j pos) (tC .non):=fun _ _ _ H _ I h=>Constant_none ⟨.non,H,I,rfl,h⟩
theorem zP{x j pos}:PE X (.Constant (.str x) j pos) (tC (.str x)):=fun _ _ _ H _ I h=>Calls.Constant_str ⟨.str x,H,I.tok _,⟨_,rfl⟩,h⟩
def Gl(X:Cx)(x:Str):Prop:=X.env.kindOf x=some .globalImplicit
theorem zaC{E:Value->Shared->Prop}{pins:List (Addr×Obj)}{s:Shared}{σ:St}{H:Hp}{x:Str}{u:Value}{pos:Pos}{Q:Value->Shared->Prop}(I:Inv X pins σ H s)(hg:Gl X x)(hm:X.mg x=some u)(h:Q u s)
  (hd:(x==("__debug__" : Str))=false:=by decide):wpAny (model X.prog X.w) X.A (eval (.Name x pos) X.env) Q E s:=
 zdN I.ok.kind hg (Calls.loadGlobal_global (by rw[I.ok.glob];exact I.mod.glob.keeps I.bk) hm h) hd
theorem vC{E:Value->Shared->Prop}{pins:List (Addr×Obj)}{s:Shared}{σ:St}{H:Hp}{x:Str}{u:Value}{pos:Pos}{Q:Value->Shared->Prop}(I:Inv X pins σ H s)(hg:Gl X x)(hm:X.mg x=none)(hv:bootBuiltins x=some u)(h:Q u s)
  (hn:x ≠ "__name__" :=by decide) (hd:(x==("__debug__" : Str))=false:=by decide):wpAny (model X.prog X.w) X.A (eval (.Name x pos) X.env) Q E s:=by
 obtain⟨mb,h1,h2⟩:=I.mod.blt
 exact zdN I.ok.kind hg (Calls.loadGlobal_builtin (by rw[I.ok.glob];exact I.mod.glob.keeps I.bk) hm (by rw[I.ok.blt];exact h1.keeps I.bk) ((h2 x hn).trans hv) h) hd
theorem yH{x:Str}{v:V}{u:Value}{pos:Pos}(hg:Gl X x)(hm:X.mg x=some u)(r:RelV v u)(hd:(x==("__debug__" : Str))=false:=by decide):PE X (.Name x pos) (tC v):=
 fun _ _ _ H _ I h=>zaC I hg hm ⟨v,H,I,r,h⟩ hd
theorem qu{x:Str}{v:V}{u:Value}{pos:Pos}(hg:Gl X x)(hm:X.mg x=none)(hv:bootBuiltins x=some u)(r:RelV v u)(hn:x ≠ "__name__" :=by decide)(hd:(x==("__debug__" : Str))=false:=by decide):PE X (.Name x pos) (tC v):=
 fun _ _ _ H _ I h=>vC I hg hm hv ⟨v,H,I,r,h⟩ hn hd
variable{a b:Expr}{ta tb:TE}{pos:Pos}
def PC(X:Cx)(op:CmpOp)(a b:Expr)(t:TE):Prop:=
 ∀(pins:List (Addr×Obj)) (s:Shared) (σ:St) (H:Hp) (Q:VK),Inv X pins σ H s->t σ H Q ->
  wpAny (model X.prog X.w) X.A (eval a X.env) (fun v s₁=>wpAny (model X.prog X.w) X.A (eval b X.env) (fun u s₂=>wpAny (model X.prog X.w) X.A (compareOp op v u) (EP X pins σ Q) X.xe s₂) X.xe s₁) X.xe s
theorem zda(b:Expr){op:CmpOp}(h:op≠.In)(h2:op≠.NotIn):behindInMarks op b=false:=by
 have e1:(op==CmpOp.In)=false:=by cases op<;>first| rfl | exact absurd rfl h
 have e2:(op==CmpOp.NotIn)=false:=by cases op<;>first| rfl | exact absurd rfl h2
 cases b<;>simp[behindInMarks,e1,e2]
def tB(t:TE):TT:=fun σ H Q=>t σ H fun x H1=>IsB x H1 Q
theorem zf5{op:CmpOp}{t:TE}(h:PC X op a b t)(h1:behindInMarks op b=false:=by first| exact zda _ (by decide) (by decide) | rfl):PT X (.Compare a [op] [b] pos) (tB t):=by
 intro pins s σ H Q I hw
 refine wpAny_isTrue_Compare1 (thn (h pins s σ H _ I hw) fun v s1 h1=>thn h1 fun u s2 h2=>thn h2 fun c s3 ⟨x,H1,I1,r1,q1⟩=>?_) h1
 obtain⟨d,rfl,q⟩:=q1
 cases r1
 exact yY ⟨H1,I1,q⟩
theorem jD{e:Expr}{t:TE}(h:PE X e t)(he:∀whole,isTrue e X.env whole=(do let v<-whole;standAt e.pos;holding [v] (truthy v)):=by intro _;rfl):PT X e (tB t):=by
 intro pins s σ H Q I hw
 refine isTrue_plain (thn (h pins s σ H _ I hw) fun v s1 ⟨x,H1,I1,r1,q1⟩=>?_) (he _)
 obtain⟨d,rfl,q⟩:=q1
 cases r1
 exact yY ⟨H1,I1,q⟩
variable{tA tB':TT}{rest:List Expr}
def zil(t u:TT):TT:=fun σ H Q=>t σ H fun c H1=>if c=true then u σ H1 Q else Q false H1
def tOr(t u:TT):TT:=fun σ H Q=>t σ H fun c H1=>if c=true then Q true H1 else u σ H1 Q
def zie(t:TT):TT:=fun σ H Q=>t σ H fun c H1=>Q (!c) H1
theorem Z5(ha:PT X a tA):PW X (.BoolOp .And [a] pos) tA:=by
 intro wh pins s σ H Q I h
 refine isTrue_and (thn (ha pins s σ H Q I h) fun c s1 e=>?_)
 cases c with
 | true=>exact isTrue_and_nil e
 | false=>exact e
theorem Zf(ha:PT X a tA):PW X (.BoolOp .Or [a] pos) tA:=by
 intro wh pins s σ H Q I h
 refine isTrue_or (thn (ha pins s σ H Q I h) fun c s1 e=>?_)
 cases c with
 | false=>exact isTrue_or_nil e
 | true=>exact e
theorem Xl(ha:PT X a tA)(hb:PW X (.BoolOp .And (b::rest) pos) tB'):PW X (.BoolOp .And (a::b::rest) pos) (zil tA tB'):=by
 intro wh pins s σ H Q I h
 refine isTrue_and (thn (ha pins s σ H _ I h) fun c s1 ⟨H1,I1,q1⟩=>?_)
 cases c with
 | true=>exact hb wh pins s1 σ H1 Q I1 q1
 | false=>exact⟨H1,I1,q1⟩
theorem Qn(ha:PT X a tA)(hb:PW X (.BoolOp .Or (b::rest) pos) tB'):PW X (.BoolOp .Or (a::b::rest) pos) (tOr tA tB'):=by
 intro wh pins s σ H Q I h
 refine isTrue_or (thn (ha pins s σ H _ I h) fun c s1 ⟨H1,I1,q1⟩=>?_)
 cases c with
 | true=>exact⟨H1,I1,q1⟩
 | false=>exact hb wh pins s1 σ H1 Q I1 q1
theorem Xm(ha:PT X a tA):PT X (.UnaryOp .Not a pos) (zie tA):=by
 intro pins s σ H Q I h
 exact isTrue_not (ha pins s σ H (fun c H1=>Q (!c) H1) I h)
def zhb(ta tb:TE):TE:=fun σ H Q=>ta σ H fun x H1=>IsB x H1 fun c H1=>if c=true then tb σ H1 Q else Q (.bl false) H1
def zid(ta tb:TE):TE:=fun σ H Q=>ta σ H fun x H1=>IsB x H1 fun c H1=>if c=true then Q (.bl true) H1 else tb σ H1 Q
def zg5(ta:TE):TE:=fun σ H Q=>ta σ H fun x H1=>IsB x H1 fun c H1=>Q (.bl (!c)) H1
theorem x9{op}{t:TE}(h:PE X a t):PE X (.BoolOp op [a] pos) t:=fun pins s σ H Q I hw=>BoolOp_one (h pins s σ H Q I hw)
theorem vB(ha:PE X a ta)(hb:PE X (.BoolOp .And (b::rest) pos) tb):PE X (.BoolOp .And (a::b::rest) pos) (zhb ta tb):=by
 intro pins s σ H Q I h
 refine BoolOp_and (thn (ha pins s σ H _ I h) fun v s1 ⟨x,H1,I1,r1,q1⟩=>?_)
 obtain⟨c,rfl,q1⟩:=q1
 cases r1
 refine yY ?_
 cases c with
 | true=>exact hb pins s1 σ H1 Q I1 q1
 | false=>exact⟨.bl false,H1,I1,rfl,q1⟩
theorem zfB(ha:PE X a ta)(hb:PE X (.BoolOp .Or (b::rest) pos) tb):PE X (.BoolOp .Or (a::b::rest) pos) (zid ta tb):=by
 intro pins s σ H Q I h
 refine BoolOp_or (thn (ha pins s σ H _ I h) fun v s1 ⟨x,H1,I1,r1,q1⟩=>?_)
 obtain⟨c,rfl,q1⟩:=q1
 cases r1
 refine yY ?_
 cases c with
 | false=>exact hb pins s1 σ H1 Q I1 q1
 | true=>exact⟨.bl true,H1,I1,rfl,q1⟩
theorem zgd(ha:PE X a ta):PE X (.UnaryOp .Not a pos) (zg5 ta):=by
 intro pins s σ H Q I h
 refine UnaryOp_ (thn (ha pins s σ H _ I h) fun v s1 ⟨x,H1,I1,r1,q1⟩=>?_)
 obtain⟨c,rfl,q1⟩:=q1
 cases r1
 exact not_of (yY ⟨.bl (!c),H1,I1,rfl,q1⟩)
def tIf(t:TT)(ta tb:TE):TE:=fun σ H Q=>t σ H fun c H1=>if c=true then ta σ H1 Q else tb σ H1 Q
theorem jX{c:Expr}(hc:PT X c tA)(ha:PE X a ta)(hb:PE X b tb):PE X (.IfExp c a b pos) (tIf tA ta tb):=by
 intro pins s σ H Q I h
 refine wpAny_IfExp (thn (hc pins s σ H _ I h) fun d s1 ⟨H1,I1,q1⟩=>?_)
 cases d with
 | true=>exact ha pins s1 σ H1 Q I1 q1
 | false=>exact hb pins s1 σ H1 Q I1 q1
end
def SqL(K:PySem.W.Frag)(H:Hp)(a:Addr)(xs:List V):Prop:=
 Rd H a (.lst xs) \/
  ∃(o:Obj) (its:Array Value) (n:Nat),K.lookup a=some o/\o.cls=.type "list" /\ o.dict=none/\o.data=.seq its n/\its.size<=sizeLine/\Vals xs its.toList
def SqT(K:PySem.W.Frag)(H:Hp)(a:Addr)(xs:List V):Prop:=
 Rd H a (.tup xs) \/
  ∃(o:Obj) (its:Array Value) (n:Nat),K.lookup a=some o/\o.cls=.type "tuple" /\ o.data=.seq its n/\its.size<=sizeLine/\Vals xs its.toList
def zit:Value->Option V
 | .none=>some .non
 | .bool b=>some (.bl b)
 | .int i _=>some (.int i)
 | .str x _=>some (.str x)
 | .bytes b _=>some (.byt b)
 | .float b _=>some (.flt b)
 | .ref a=>some (.ref a)
 | .type n=>some (.ty n)
 | _=>none
theorem RelV.abs{x:V}{u:Value}(r:RelV x u):zit u=some x:=by
 cases x with
 | non=>cases r;rfl
 | bl _=>cases r;rfl
 | int _=>obtain⟨t,rfl⟩:=r;rfl
 | str _=>obtain⟨t,rfl⟩:=r;rfl
 | byt _=>obtain⟨t,rfl⟩:=r;rfl
 | flt _=>obtain⟨t,rfl⟩:=r;rfl
 | ref _=>cases r;rfl
 | ty _=>cases r;rfl
theorem RelV.inj{x y:V}{u:Value}(r:RelV x u)(q:RelV y u):x=y:=jT (r.abs.symm.trans q.abs)
theorem Vals.inj:∀{xs ys:List V} {us:List Value},Vals xs us->Vals ys us->xs=ys
 | _,_,_,.nil,.nil=>rfl
 | _,_,_,.cons r t,.cons r' t'=>by rw[r.inj r',Vals.inj t t']
section
variable{X:Cx}{pins:List (Addr×Obj)}{σ:St}{H:Hp}{s:Shared}{a:Addr}{xs ys:List V}
theorem SqL.of{K:PySem.W.Frag}(h:H a=some (.lst xs)):SqL K H a xs:=.inl (.inl h)
theorem SqT.of{K:PySem.W.Frag}(h:H a=some (.tup xs)):SqT K H a xs:=.inl (.inl h)
theorem Inv.list(I:Inv X pins σ H s)(h:SqL X.K H a xs):∃its:List Value,Vals xs its/\PlainL s.heap a its.toArray/\xs.length<=sizeLine:=by
 rcases h with h | ⟨o,its,n,hk,hc,hd,hs,hz,r⟩
 ·obtain⟨z,its,n,r,e⟩:=h.ok I.hok
  exact⟨its,r,⟨_,n,e,rfl,rfl,rfl⟩,z⟩
 ·refine⟨its.toList,r,⟨o,n,I.kIn a o hk,hc,hd,by simpa using hs⟩,?_⟩
  have e:=r.length
  simp only[J9] at e
  omega
theorem Inv.tuple(I:Inv X pins σ H s)(h:SqT X.K H a xs):∃its:List Value,Vals xs its/\IsTup s.heap a its.toArray/\xs.length<=sizeLine:=by
 rcases h with h | ⟨o,its,n,hk,hc,hs,hz,r⟩
 ·obtain⟨z,its,r,p⟩:=h.ok I.hok
  exact⟨its,r,p.1,z⟩
 ·refine⟨its.toList,r,⟨o,I.kIn a o hk,hc,n,by simpa using hs⟩,?_⟩
  have e:=r.length
  simp only[J9] at e
  omega
theorem Inv.list_inj(I:Inv X pins σ H s)(h:SqL X.K H a xs)(h':SqL X.K H a ys):xs=ys:=by
 obtain⟨its,r,⟨o,n,e,_,_,d⟩,_⟩:=I.list h
 obtain⟨its',r',⟨o',n',e',_,_,d'⟩,_⟩:=I.list h'
 rw[e] at e';cases e'
 rw[d] at d'
 injection d' with d1 _
 have:its=its':=by simpa using congrArg Array.toList d1
 subst this
 exact r.inj r'
theorem Inv.tuple_inj(I:Inv X pins σ H s)(h:SqT X.K H a xs)(h':SqT X.K H a ys):xs=ys:=by
 obtain⟨its,r,⟨o,e,_,n,d⟩,_⟩:=I.tuple h
 obtain⟨its',r',⟨o',e',_,n',d'⟩,_⟩:=I.tuple h'
 rw[e] at e';cases e'
 rw[d] at d'
 injection d' with d1 _
 have:its=its':=by simpa using congrArg Array.toList d1
 subst this
 exact r.inj r'
end
abbrev Cx.wish(X:Cx)(E:Value->Shared->Prop):Cx:={ X with xe:=E }
abbrev Cx.nox(X:Cx):Cx:=X.wish fun _ _=>False
theorem Cx.Ok.wish{X:Cx}(ok:X.Ok)(E:Value->Shared->Prop):(X.wish E).Ok:=
 ⟨ok.mod,ok.kind,ok.glob,ok.blt,ok.above,ok.inj,ok.has,ok.cab,ok.hd,ok.frames,ok.stk,ok.exf,ok.bs,ok.bsz,ok.noex,ok.exfs,ok.funs,ok.frf⟩
theorem Cx.Ok.unwish{X:Cx}{E:Value->Shared->Prop}(ok:(X.wish E).Ok):X.Ok:=
 ⟨ok.mod,ok.kind,ok.glob,ok.blt,ok.above,ok.inj,ok.has,ok.cab,ok.hd,ok.frames,ok.stk,ok.exf,ok.bs,ok.bsz,ok.noex,ok.exfs,ok.funs,ok.frf⟩
section
variable{X:Cx}{pins:List (Addr×Obj)}{σ:St}{H:Hp}{s:Shared}{E:Value->Shared->Prop}
theorem Inv.wish(I:Inv X pins σ H s)(E:Value->Shared->Prop):Inv (X.wish E) pins σ H s:=⟨I.ok.wish E,I.os,I.bare,I.base,I.loc,I.cell,I.free,I.freeC,I.pin,I.hok,I.len⟩
theorem Inv.unwish(I:Inv (X.wish E) pins σ H s):Inv X pins σ H s:=⟨I.ok.unwish,I.os,I.bare,I.base,I.loc,I.cell,I.free,I.freeC,I.pin,I.hok,I.len⟩
theorem SP.unwish{D:Vi}{f:Flow}{s':Shared}(h:SP (X.wish E) pins D f s'):SP X pins D f s':=by
 cases f with
 | next=>obtain⟨σ',H',I,q⟩:=h;exact⟨σ',H',I.unwish,q⟩
 | brk=>obtain⟨σ',H',I,q⟩:=h;exact⟨σ',H',I.unwish,q⟩
 | cont=>obtain⟨σ',H',I,q⟩:=h;exact⟨σ',H',I.unwish,q⟩
 | ret u=>obtain⟨v,σ',H',I,r,q⟩:=h;exact⟨v,σ',H',I.unwish,r,q⟩
theorem PSs.nox{st:List Stmt}{t:TS}(h:PSs X.nox st t):PSs X st t:=fun pins s σ H D I hw=>
 xZ (h pins s σ H D (I.wish _) hw) (fun _ _ q=>q.unwish) fun _ _ z=>False.elim z
end
section
variable{X:Cx}{st:Stmt}{rest:List Stmt}{t u:TS}{e:Expr}{te:TE}{pos:Pos}
def zg6:TS:=fun D σ H=>D.nx σ H
def zia(t u:TS):TS:=fun D σ H=>t { D with nx:=u D } σ H
theorem qI:PSs X [] zg6:=fun _ _ σ H _ I h=>wpAny_execs_nil ⟨σ,H,I,h⟩
theorem zg(h1:PS X st t)(h2:PSs X rest u):PSs X (st::rest) (zia t u):=by
 intro pins s σ H D I h
 refine wpAny_execs_cons (thn (h1 pins s σ H { D with nx:=u D } I h) fun f s1 q=>?_)
 cases f with
 | next=>
  obtain⟨σ',H',I',q⟩:=q
  exact h2 pins s1 σ' H' D I' q
 | ret v=>exact q
 | brk=>exact q
 | cont=>exact q
theorem zo(h1:PS X st t):PSs X [st] t:=by
 intro pins s σ H D I h
 refine wpAny_execs_cons (thn (h1 pins s σ H D I h) fun f s1 q=>?_)
 cases f with
 | next=>exact wpAny_execs_nil q
 | ret v=>exact q
 | brk=>exact q
 | cont=>exact q
theorem Inv.quiet{pins:List (Addr×Obj)}{σ:St}{H:Hp}{s:Shared}(I:Inv X pins σ H s):interactive X.env=false:=by simp[interactive,I.ok.kind]
def zg7(te:TE):TS:=fun D σ H=>te σ H fun _ H1=>D.nx σ H1
theorem z7(he:PE X e te)(hs:swapsWith e none pos.line X.env=pure false:=by rfl):PS X (.Expr e pos) (zg7 te):=by
 intro pins s σ H D I h
 exact wpAny_Expr_any (thn (he pins s σ H _ I h) fun v s1 ⟨x,H1,I1,r1,q1⟩=>⟨σ,H1,I1,q1⟩) I.quiet hs
def zib(te:TE):TS:=fun D σ H=>te σ H D.rt
theorem zE(he:PE X e te):PS X (.Return (some e) pos) (zib te):=by
 intro pins s σ H D I h
 exact wpAny_Return_some (thn (he pins s σ H _ I h) fun v s1 ⟨x,H1,I1,r1,q1⟩=>⟨x,σ,H1,I1,r1,q1⟩)
def zig(c:TT)(t u:TS):TS:=fun D σ H=>c σ H fun b H1=>if b=true then t D σ H1 else u D σ H1
theorem je{c:Expr}{a b:List Stmt}{tc:TT}(hc:PT X c tc)(ha:PSs X a t)(hb:PSs X b u):PS X (.If c a b pos) (zig tc t u):=by
 intro pins s σ H D I h
 refine wpAny_If (thn (hc pins s σ H _ I h) fun d s1 ⟨H1,I1,q1⟩=>?_)
 cases d with
 | true=>exact ha pins s1 σ H1 D I1 q1
 | false=>exact hb pins s1 σ H1 D I1 q1
end
abbrev TG:=V->St->Hp->(St->Hp->Prop)->Prop
abbrev TGs:=List V->St->Hp->(St->Hp->Prop)->Prop
def PG(X:Cx)(target:Expr)(t:TG):Prop:=
 ∀(pins:List (Addr×Obj)) (s:Shared) (σ:St) (H:Hp) (v:V) (u:Value) (Q:St->Hp->Prop),Inv X pins σ H s->RelV v u->t v σ H Q ->
  wpAny (model X.prog X.w) X.A (assign target X.env u) (fun _ s'=>∃σ' H',Inv X pins σ' H' s'/\Q σ' H') X.xe s
def PGs(X:Cx)(ts:List Expr)(t:TGs):Prop:=
 ∀(pins:List (Addr×Obj)) (s:Shared) (σ:St) (H:Hp) (vs:List V) (us:List Value) (Q:St->Hp->Prop),Inv X pins σ H s->Vals vs us->t vs σ H Q ->
  wpAny (model X.prog X.w) X.A (assignInOrder ((assignEach ts X.env).map (·.2)) us) (fun _ s'=>∃σ' H',Inv X pins σ' H' s'/\Q σ' H') X.xe s
abbrev zgX:=V->V->V->Hp->(Hp->Prop)->Prop
def zhZ(X:Cx)(t:zgX):Prop:=
 ∀(pins:List (Addr×Obj)) (s:Shared) (σ:St) (H:Hp) (o i v:V) (ov iv u:Value) (Q:Hp->Prop),Inv X pins σ H s->RelV o ov->RelV i iv->RelV v u->t o i v H Q ->
  wpAny (model X.prog X.w) X.A (setItem ov iv u) (fun _ s'=>∃H',Inv X pins σ H' s'/\Q H') X.xe s
abbrev TIp:=V->V->Hp->VK->Prop
def PIp(X:Cx)(op:Operator)(t:TIp):Prop:=
 ∀(pins:List (Addr×Obj)) (s:Shared) (σ:St) (H:Hp) (x y:V) (v u:Value) (Q:VK),Inv X pins σ H s->RelV x v->RelV y u->t x y H Q ->
  wpAny (model X.prog X.w) X.A (inplaceOp op v u) (EP X pins σ Q) X.xe s
section
variable{X:Cx}{pos:Pos}
def vY(i:Nat):TG:=fun v σ H Q=>Q (σ.set i (some v)) H
theorem zy{i:Nat}{x:Str}(hN:X.N.Nodup)(hi:X.N[i]? =some x)(hx:Loc X.env.scope x)(hf:X.fn x=true\/X.env.scope.names.lookup x=some .local:=by first| exact .inl rfl | exact .inr rfl | assumption):PG X (.Name x pos) (vY i):=by
 intro pins s σ H v u Q I r h
 exact wpAny_assign_Name (wa I hN hi hx r (fun s' I'=>⟨_,H,I',h⟩) hf)
def zeO:TGs:=fun vs σ H Q=>vs=[]/\Q σ H
inductive ZD(t:TG)(u:TGs)(vs:List V)(σ:St)(H:Hp)(Q:St->Hp->Prop):Prop
 | mk (v r:_) (_:vs=v::r) (_:t v σ H fun σ' H'=>u r σ' H' Q):ZD t u vs σ H Q
theorem jN:PGs X [] zeO:=by
 intro pins s σ H vs us Q I r h
 obtain⟨e,h⟩:=h
 subst e
 cases r
 exact assignInOrder_nil ⟨σ,H,I,h⟩
theorem zT{e:Expr}{es:List Expr}{t:TG}{u:TGs}(h1:PG X e t)(h2:PGs X es u)
  (hs:(assignEach (e::es) X.env).map (·.2)=assign e X.env::(assignEach es X.env).map (·.2):=by rfl):PGs X (e::es) (ZD t u):=by
 intro pins s σ H vs us Q I r h
 obtain⟨v,vr,e1,h⟩:=h
 subst e1
 cases r with
 | cons r rr=>
  rw[hs]
  refine assignInOrder_cons (thn (h1 pins s σ H _ _ _ I r h) fun _ s1 ⟨σ1,H1,I1,q1⟩=>?_)
  exact h2 pins s1 σ1 H1 _ _ Q I1 rr q1
inductive zds(K:PySem.W.Frag)(n:Nat)(t:TGs)(v:V)(σ:St)(H:Hp)(Q:St->Hp->Prop):Prop
 | mk (a xs:_) (_:v=.ref a) (_:SqT K H a xs) (_:xs.length=n) (_:t xs σ H Q):zds K n t v σ H Q
theorem xm{es:List Expr}{k:Nat}{t:TGs}{n:Nat}(hc:X.calm=true)(h:PGs X es t)
  (hn:(assignEach es X.env).length=n:=by rfl) (hst:(assignEach es X.env).findIdx? (·.1)=none:=by rfl):PG X (.Tuple es k pos) (zds X.K n t):=by
 intro pins s σ H v u Q I r hw
 obtain⟨a,xs,e1,hq,hl,hw⟩:=hw
 subst e1
 cases r
 obtain⟨its,rv,ht,hz⟩:=I.tuple hq
 refine assign_Tuple_tuple (I.ok.hd hc) ht (by simp[hn,<- hl,rv.length]) hst fun h' hx=>?_
 have I1:Inv X pins σ H { s with heap:=h' }:=I.kept (t':=s.toks) fun b o e=>hx b o (qm (zR e)) e
 exact h pins _ σ H xs _ Q I1 (by simpa using rv) hw
def zir(to ti:TE)(t:zgX):TG:=fun v σ H Q=>to σ H fun o H1=>ti σ H1 fun i H2=>t o i v H2 fun H3=>Q σ H3
theorem Zh{o i:Expr}{to ti:TE}{t:zgX}(ho:PE X o to)(hi:PE X i ti)(hs:zhZ X t)
  (ha:∀v,assign (.Subscript o i pos) X.env v=(do
   let ov<-holding [v] (eval o X.env)
   let iv<-holding [v,ov] (eval i X.env)
   standAt pos
   holding [v,ov,iv] (setItem ov iv v)
   release [v,ov,iv] []):=by intro _;rfl):PG X (.Subscript o i pos) (zir to ti t):=by
 intro pins s σ H v u Q I r h
 rw[ha]
 refine zr (w6 (thn (ho pins s σ H _ I h) fun ov s1 ⟨x,H1,I1,r1,q1⟩=>?_))
 refine zr (w6 (thn (hi pins s1 σ H1 _ I1 q1) fun iv s2 ⟨y,H2,I2,r2,q2⟩=>?_))
 refine zr (wpAny_standAt (zr (w6 (thn (hs pins s2 σ H2 x y v ov iv u _ I2 r1 r2 r q2) fun _ s3 ⟨H3,I3,q3⟩=>?_))))
 exact wpAny_release ⟨σ,H3,I3,q3⟩
def WA(te:TE)(g:TG):TS:=fun D σ H=>te σ H fun x H1=>g x σ H1 D.nx
theorem xj{tg e:Expr}{te:TE}{g:TG}(he:PE X e te)(hg:PG X tg g)(hs:swapsWithSole [tg] e pos.line X.env=pure false:=by rfl)(hw:swappedStores [tg] e X.env=pure none:=by rfl)
  (h1:(assignEach [tg] X.env).map (·.2)=[assign tg X.env]:=by rfl):PS X (.Assign [tg] e pos) (WA te g):=by
 intro pins s σ H D I h
 refine wpAny_Assign_stores (thn (he pins s σ H _ I h) fun v s1 ⟨x,H1,I1,r1,q1⟩=>?_) hs hw
 rw[h1]
 exact thn (hg pins s1 σ H1 x v _ I1 r1 q1) fun _ s2 q=>q
theorem zC{i:Nat}{x:Str}{e:Expr}{te:TE}{pos':Pos}(hN:X.N.Nodup)(hi:X.N[i]? =some x)(hx:Loc X.env.scope x)(he:PE X e te)(hs:swapsWith e (some (.Name x pos')) pos.line X.env=pure false:=by rfl)(hf:X.fn x=true\/X.env.scope.names.lookup x=some .local:=by first| exact .inl rfl | exact .inr rfl | assumption) :
  PS X (.Assign [.Name x pos'] e pos) (WA te (vY i)):=by
 intro pins s σ H D I h
 refine wpAny_Assign_Name (thn (he pins s σ H _ I h) fun v s1 ⟨y,H1,I1,r1,q1⟩=>?_) hs
 exact wa I1 hN hi hx r1 (fun s2 I2=>⟨_,H1,I2,q1⟩) hf
def zic(i j:Nat)(ta:TA):TS:=fun D σ H=>ta σ H fun vs H1=>zh4 vs H1 fun v w H1=>D.nx ((σ.set i (some v)).set j (some w)) H1
theorem Qo{i j:Nat}{x y:Str}{a b:Expr}{ta:TA}{px py pt:Pos}{kt k2 pt2}(hc:X.calm=true)(hN:X.N.Nodup)(hi:X.N[i]? =some x)(hj:X.N[j]? =some y)(hij:i≠j)
  (hx:X.env.scope.names.lookup x=some .local) (hy:X.env.scope.names.lookup y=some .local) (ha:PA X [a,b] ta)
  (hw:swappedStores [.Tuple [.Name x px,.Name y py] kt pt] (.Tuple [a,b] k2 pt2) X.env=pure (some [x,y]))
  (hs:swapsWithSole [.Tuple [.Name x px,.Name y py] kt pt] (.Tuple [a,b] k2 pt2) pos.line X.env=pure false:=by rfl) :
  PS X (.Assign [.Tuple [.Name x px,.Name y py] kt pt] (.Tuple [a,b] k2 pt2) pos) (zic i j ta):=by
 intro pins s σ H D I h
 rw[exec_Assign_arm]
 refine zr (wpAny_standAt ?_)
 rw[hs]
 refine zr (zD ?_)
 rw[zx (by decide)]
 refine zr (Tuple_ (thn (ha _ pins s σ H _ I h) fun us s1 ⟨vs,H1,I1,r1,q1⟩=>?_))
 obtain⟨v,w,e1,q1⟩:=q1
 subst e1
 obtain⟨u1,u2,rfl,rv,rw'⟩:∃u1 u2,us=[u1,u2]/\RelV v u1/\RelV w u2:=by
  cases r1 with
  | cons p q=>
   cases q with
   | cons p' q'=>
    cases q'
    exact⟨_,_,rfl,p,p'⟩
 refine wx ?_ (by show 2<=sizeLine;decide)
 have I2:Inv X pins σ H1 { s1 with heap:=s1.heap.push { cls:=.type "tuple",data:=.seq [u1,u2].toArray } }:=I1.kept (t':=s1.toks) fun b o e=>qx _ e
 rw[hw]
 refine zr (zD ?_)
 show wpAny (model X.prog X.w) X.A (do rule "assign.swapped-stores";let items<-unpackItems (.ref s1.heap.objs.size) 2 none;assignInOrder [fun v=>bindName X.env y v,fun v=>bindName X.env x v] items.reverse;pure Flow.next) _ _ _
 refine zr (vW (zr (unpackItems_tuple (items:=#[u1,u2]) (I.ok.hd hc) (IsTup.new s1.heap _) fun h' hx'=>?_)))
 have I3:=I2.kept (h':=h') (t':=s1.toks) fun b o e=>hx' b o (qm (zR e)) e
 show wpAny _ _ (assignInOrder [fun v=>bindName X.env y v,fun v=>bindName X.env x v] [u2,u1] >>= fun _=>pure Flow.next) _ _ _
 refine zr (assignInOrder_cons (wpAny_bindName (wa I3 hN hj (.inl hy) rw' (fun s2 I4=>?_) (.inr hy))))
 refine assignInOrder_cons (wpAny_bindName (wa I4 hN hi (.inl hx) rv (fun s3 I5=>assignInOrder_nil (zD ?_)) (.inr hx)))
 rw[List.set_comm _ _ (qy hij)] at I5
 exact⟨_,H1,I5,q1⟩
def zik(i:Nat)(te:TE)(ti:TIp):TS:=fun D σ H=>∃x,σ[i]? =some (some x)/\te σ H fun y H1=>ti x y H1 fun z H2=>D.nx (σ.set i (some z)) H2
theorem zf9{i:Nat}{x:Str}{e:Expr}{te:TE}{op:Operator}{ti:TIp}{pos':Pos}(hN:X.N.Nodup)(hi:X.N[i]? =some x)(hx:Loc X.env.scope x)(he:PE X e te)(ho:PIp X op ti)(hf:X.fn x=true\/X.env.scope.names.lookup x=some .local:=by first| exact .inl rfl | exact .inr rfl | assumption) :
  PS X (.AugAssign (.Name x pos') op e pos) (zik i te ti):=by
 intro pins s σ H D I h
 obtain⟨v,e1,h⟩:=h
 obtain⟨m,hn,hl⟩:=I.loc
 have vis:Vis X.env.scope x:=by rcases hx with k | k;exact .inl k;exact .inr (.inl k)
 obtain⟨u,r,l⟩:=hl i x v hi e1 vis
 refine wpAny_AugAssign_Name ?_
 have go:wpAny (model X.prog X.w) X.A (eval e X.env) (fun w s₂=>wpAny (model X.prog X.w) X.A (inplaceOp op u w) (fun r s₃=>wpAny (model X.prog X.w) X.A (storeName X.env x r) (fun _=>SP X pins D .next) X.xe s₃) X.xe s₂) X.xe s:=by
  refine thn (he pins s σ H _ I h) fun w s1 ⟨y,H1,I1,r1,q1⟩=>?_
  refine thn (ho pins s1 σ H1 v y u w _ I1 r r1 q1) fun z s2 ⟨zv,H2,I2,r2,q2⟩=>?_
  exact wa I2 hN hi hx r2 (fun s3 I3=>⟨_,H2,I3,q2⟩) hf
 rcases l with ⟨hk,hm⟩ | ⟨hk,c,hc,hcell⟩
 ·exact wpAny_loadName_local I.ok.kind hk hn hm go
 ·rcases hk with hk | hk
  ·exact wpAny_loadName_cell I.ok.kind hk hc hcell go
  ·rcases hx with k | k
   ·have:X.env.scope.names.lookup x=some .free:=hk
    rw[k] at this;cases this
   ·have:X.env.scope.names.lookup x=some .free:=hk
    rw[k] at this;cases this
inductive ipI(f:Int->Int->Int)(x:V)(y:V)(H:Hp)(Q:VK):Prop
 | mk (i j:_) (_:x=.int i) (_:y=.int j) (_:Q (.int (f i j)) H):ipI f x y H Q
theorem zgI:PIp X .Add (ipI fun i j=>i+j):=by
 intro pins s σ H x y v u Q I r1 r2 h
 obtain⟨i,j,e1,e2,q⟩:=h
 subst e1;subst e2
 obtain⟨t,rfl⟩:=r1
 obtain⟨t',rfl⟩:=r2
 exact iadd_int ⟨.int _,H,I.tok _,⟨_,rfl⟩,q⟩
def zfO(c:TT)(tb:TS):TS:=fun D σ H=>∃W:Nat->St->Hp->Prop,(∃m,W m σ H)/\∀m σ H,W m σ H ->
 c σ H fun b H1=>if b=true then ∃N:St->Hp->Prop,(∀σ' H',N σ' H'->∃m',m'<m/\W m' σ' H')/\tb { D with nx:=N,ct:=N,bk:=D.nx } σ H1 else D.nx σ H1
theorem VP{c:Expr}{body:List Stmt}{tc:TT}{tb:TS}(hp:PassesOwn (model X.prog X.w) X.A X.env X.xe)(hc:PT X c tc)(hb:PSs X body tb):PS X (.While c body [] pos) (zfO tc tb):=by
 intro pins s σ H D I h
 obtain⟨W,⟨m0,w0⟩,turn⟩:=h
 refine wpAny_While (codeAny_whileLoop (fun n s'=>∃σ' H',Inv X pins σ' H' s'/\W n σ' H') ?_ m0 ⟨σ,H,I,w0⟩)
 rintro n s1 ⟨σ1,H1,I1,w1⟩
 refine yu hp (thn (hc pins s1 σ1 H1 _ I1 (turn n σ1 H1 w1)) fun b s2 ⟨H2,I2,q2⟩=>?_)
 cases b with
 | true=>
  obtain⟨N,hN,q2⟩:=q2
  rw[zH rfl]
  refine yu hp (thn (hb pins s2 σ1 H2 _ I2 q2) fun f s3 q3=>?_)
  cases f with
  | next=>
   obtain⟨σ3,H3,I3,n3⟩:=q3
   obtain⟨m',hm,w3⟩:=hN σ3 H3 n3
   exact⟨m',hm,σ3,H3,I3,w3⟩
  | cont=>
   obtain⟨σ3,H3,I3,n3⟩:=q3
   obtain⟨m',hm,w3⟩:=hN σ3 H3 n3
   exact⟨m',hm,σ3,H3,I3,w3⟩
  | brk=>exact q3
  | ret v=>exact q3
 | false=>
  rw[zx qC]
  exact wpAny_execs_nil ⟨σ1,H2,I2,q2⟩
end
structure It where
 go:Nat->Hp->Prop
 yld:Nat->Hp->V->Hp->Prop
 stop:Nat->Hp->Prop
def vm(X:Cx)(pins:List (Addr×Obj))(H:Hp)(b:Addr):Prop:=
 H b=none/\b≠X.env.locals/\b∉X.fs/\(b∈X.ex\/X.s₀.heap.objs.size<=b)/\(∀x c,X.env.cells.lookup x=some c->c≠b)/\∀p∈X.pn++pins,p.1≠b
theorem Inv.fpOk{X:Cx}{pins:List (Addr×Obj)}{σ:St}{H H':Hp}{s:Shared}{b:Addr}(I:Inv X pins σ H s)(hb:s.heap.objs.size<=b)(hn:H' b=none):vm X pins H' b:=by
 refine⟨hn,vc (j9 I.lt hb),I.nofs hb,.inr (ja I.sz hb),fun x c e z=>?_,fun p hp z=>?_⟩
 ·obtain⟨v,q⟩:=I.cell x c e
  exact absurd (j9 q.lt (by rw[z];exact hb)) (vv _)
 ·exact absurd (j9 (zR (I.pin p hp).1) (by rw[z];exact hb)) (vv _)
structure Jb(P:Program)(w:World)(K:PySem.W.Frag)(tg:Expr)(J:It)(fp:List Addr)(it:Addr)(tn:Nat->Heap->Prop):Prop where
 mem:it∈fp
 obj:∀i h,tn i h->∀b∈fp,∃o,h.get? b=some o/\∀v,o.data≠.cell v
 keep:∀i h h',tn i h->(∀b∈fp,∀o,h.get? b=some o->h'.get? b=some o)->tn i h'
 item:∀(X:Cx),X.prog=P->X.w=w->X.K=K->X.calm=true->∀(i:Nat) (pins:List (Addr×Obj)) (s:Shared) (σ:St) (H:Hp) (E:Value->Shared->Prop),Inv X pins σ H s->(∀b∈fp,vm X pins H b)->tn i s.heap->J.go i H ->
  wpAny (model P w) X.A (pyNext (.ref it)) (fun r s1=>∃u,r=some u /\
   wpAny (model P w) X.A (letOwnedTupleGo tg (.ref it) u) (fun _ s2=>∃x H',Inv X pins σ H' s2/\RelV x u/\J.yld i H x H'/\tn (i+1) s2.heap/\∀b∈fp,H' b=none) E s1) E s
 done:∀(X:Cx),X.prog=P->X.w=w->X.K=K->X.calm=true->∀(i:Nat) (pins:List (Addr×Obj)) (s:Shared) (σ:St) (H:Hp) (E:Value->Shared->Prop),Inv X pins σ H s->(∀b∈fp,vm X pins H b)->tn i s.heap->J.stop i H ->
  wpAny (model P w) X.A (pyNext (.ref it)) (fun r s1=>r=none/\Inv X pins σ H s1) E s
 self:∀(A:Around) (i:Nat) (s:Shared) (Q:Value->Shared->Prop) (E:Value->Shared->Prop),tn i s.heap->Q (.ref it) s->wpAny (model P w) A (pyIter (.ref it)) Q E s
abbrev TI:=St->Hp->(It->Hp->Prop)->Prop
def PIE(X:Cx)(pins:List (Addr×Obj))(σ:St)(tg:Expr)(R:It->Hp->Prop)(itv:Value)(s2:Shared):Prop:=
 ∃(it:Addr) (fp:List Addr) (tn:Nat->Heap->Prop) (J:It) (H':Hp),itv=.ref it/\Inv X pins σ H' s2/\Jb X.prog X.w X.K tg J fp it tn/\tn 0 s2.heap/\(∀b∈fp,vm X pins H' b)/\R J H'
def PI(X:Cx)(tg iter:Expr)(wi:TI):Prop:=
 ∀(pins:List (Addr×Obj)) (s:Shared) (σ:St) (H:Hp) (R:It->Hp->Prop),Inv X pins σ H s->wi σ H R ->
  wpAny (model X.prog X.w) X.A (eval iter X.env) (fun v s1=>wpAny (model X.prog X.w) X.A (pyIter v) (PIE X pins σ tg R) X.xe s1) X.xe s
theorem zaN{M:Model}{A:Around}{E:Value->Shared->Prop}{s:Shared}{tg:Expr}{it:Addr}{u:Value}{o:Obj}{n:String}{vs:Array Value}{Q:Unit->Shared->Prop}(ho:s.heap.get? it=some o)(hc:o.cls=.type n)(hd:o.data=.fields vs)
  (hn:["enumerate", "zip", "dict_itemiterator", "dict_reverseitemiterator", "odict_iterator", "itertools.zip_longest", "itertools.pairwise"].contains n=false) (hQ:Q () s):wpAny M A (letOwnedTupleGo tg (.ref it) u) Q E s:=by
 unfold letOwnedTupleGo
 cases tg<;>first
  | exact zD hQ
  | (cases u<;>first
    | exact zD hQ
    | (refine zr (wpAny_load ho ?_)
       rw[hc,hd]
       show wpAny M A (if(["enumerate", "zip", "dict_itemiterator", "dict_reverseitemiterator", "odict_iterator", "itertools.zip_longest", "itertools.pairwise"].contains n&&vs[0]? ==some (rawInt _))=true then _ else _) Q E s
       rw[zx (by intro h;rw[hn,Bool.false_and] at h;cases h)]
       exact zD hQ))
def Itl(K:PySem.W.Frag)(a:Addr):It:=
 ⟨fun i H=>∃xs x,SqL K H a xs/\xs[i]? =some x,fun i H x H'=>H'=H/\∀xs,SqL K H a xs->xs[i]? =some x,fun i H=>∃xs,SqL K H a xs/\xs.length<=i⟩
def Itt(K:PySem.W.Frag)(a:Addr):It:=
 ⟨fun i H=>∃xs x,SqT K H a xs/\xs[i]? =some x,fun i H x H'=>H'=H/\∀xs,SqT K H a xs->xs[i]? =some x,fun i H=>∃xs,SqT K H a xs/\xs.length<=i⟩
def Itr(lo:Int)(n:Nat):It:=⟨fun i _=>i<n,fun i H x H'=>H'=H/\x=.int (lo+i),fun i _=>n<=i⟩
theorem Js{P:Program}{w:World}{K:PySem.W.Frag}{tg:Expr}(a it:Addr):Jb P w K tg (Itl K a) [it] it (fun i h=>h.IsListIter it a i) where
 mem:=by simp
 obj:=fun i h st b hb=>by
  have e:b=it:=by simpa using hb
  subst e
  obtain⟨o,e,c,d⟩:=st
  exact⟨o,e,fun v z=>by rw[d] at z;cases z⟩
 keep:=fun i h h' st k=>st.at fun o e=>k it (by simp) o e
 item:=by
  intro X hP hw hK hc i pins s σ H E I hf st hg
  subst hP hw hK
  obtain⟨xs,x,hq,hx⟩:=hg
  obtain⟨its,rv,p,hz⟩:=I.list hq
  obtain⟨u,hu,ru⟩:=rv.get hx
  obtain⟨f0,f1,f2,f3,f4,f5⟩:=hf it (by simp)
  refine wpAny_pyNext_list_item st p.isList (x:=u) (by simpa using hu) fun h' st' sb=>?_
  have I1:Inv X pins σ H { s with heap:=h' }:=I.turned (t':=s.toks) (fun b o hb e=>(sb.2 b hb).trans e) f0 f1 f3 f4 f5
  obtain⟨o,e,c,d⟩:=id st'
  exact⟨u,rfl,zaN (s:={ s with heap:=h' }) e c d (by decide) ⟨x,H,I1,ru,⟨rfl,fun ys hy=>by rw[I.list_inj hy hq];exact hx⟩,st',fun b hb=>(hf b hb).1⟩⟩
 done:=by
  intro X hP hw hK hc i pins s σ H E I hf st hg
  subst hP hw hK
  obtain⟨xs,hq,hx⟩:=hg
  obtain⟨its,rv,p,hz⟩:=I.list hq
  obtain⟨f0,f1,f2,f3,f4,f5⟩:=hf it (by simp)
  have hl:=rv.length
  exact wpAny_pyNext_list_end (I.ok.hd hc) st p.isList (by simp;omega) fun h' eb=>⟨rfl,I.turned (t':=s.toks) (fun b o hb e=>eb b o hb e) f0 f1 f3 f4 f5⟩
 self:=fun _ _ _ _ _ st h=>wpAny_pyIter_listiter st h
theorem Qi{P:Program}{w:World}{K:PySem.W.Frag}{tg:Expr}(a it:Addr):Jb P w K tg (Itt K a) [it] it (fun i h=>h.IsTupleIter it a i) where
 mem:=by simp
 obj:=fun i h st b hb=>by
  have e:b=it:=by simpa using hb
  subst e
  obtain⟨o,e,c,d⟩:=st
  exact⟨o,e,fun v z=>by rw[d] at z;cases z⟩
 keep:=fun i h h' st k=>st.at fun o e=>k it (by simp) o e
 item:=by
  intro X hP hw hK hc i pins s σ H E I hf st hg
  subst hP hw hK
  obtain⟨xs,x,hq,hx⟩:=hg
  obtain⟨its,rv,p,hz⟩:=I.tuple hq
  obtain⟨u,hu,ru⟩:=rv.get hx
  obtain⟨f0,f1,f2,f3,f4,f5⟩:=hf it (by simp)
  refine wpAny_pyNext_tuple_item st (show s.heap.IsTuple a its.toArray from p) (x:=u) (by simpa using hu) fun h' st' sb=>?_
  have I1:Inv X pins σ H { s with heap:=h' }:=I.turned (t':=s.toks) (fun b o hb e=>(sb.2 b hb).trans e) f0 f1 f3 f4 f5
  obtain⟨o,e,c,d⟩:=id st'
  exact⟨u,rfl,zaN (s:={ s with heap:=h' }) e c d (by decide) ⟨x,H,I1,ru,⟨rfl,fun ys hy=>by rw[I.tuple_inj hy hq];exact hx⟩,st',fun b hb=>(hf b hb).1⟩⟩
 done:=by
  intro X hP hw hK hc i pins s σ H E I hf st hg
  subst hP hw hK
  obtain⟨xs,hq,hx⟩:=hg
  obtain⟨its,rv,p,hz⟩:=I.tuple hq
  obtain⟨f0,f1,f2,f3,f4,f5⟩:=hf it (by simp)
  have hl:=rv.length
  exact wpAny_pyNext_tuple_end (I.ok.hd hc) st (show s.heap.IsTuple a its.toArray from p) (by simp;omega) fun h' eb=>⟨rfl,I.turned (t':=s.toks) (fun b o hb e=>eb b o hb e) f0 f1 f3 f4 f5⟩
 self:=fun _ _ _ _ _ st h=>wpAny_pyIter_tupleiter st h
theorem Wv{P:Program}{w:World}{K:PySem.W.Frag}{tg:Expr}(it:Addr)(lo:Int)(n:Nat):Jb P w K tg (Itr lo n) [it] it (fun i h=>IsRangeIter h it (lo+(i:Nat)*1) ((n:Int)-(i:Nat)) 1) where
 mem:=by simp
 obj:=fun i h st b hb=>by
  have e:b=it:=by simpa using hb
  subst e
  exact⟨_,st,fun v z=>by
   have z':Data.fields _=Data.cell v:=z
   cases z'⟩
 keep:=fun i h h' st k=>k it (by simp) _ st
 item:=by
  intro X hP hw hK hc i pins s σ H E I hf st hg
  subst hP hw hK
  obtain⟨f0,f1,f2,f3,f4,f5⟩:=hf it (by simp)
  have W:=Walks.range (prog:=X.prog) (w:=X.w) (I.ok.hd hc) it lo 1 n
  refine W.item i s _ _ hg st fun v h' tk hv st' kk=>?_
  obtain⟨t,rfl⟩:=hv
  have I1:Inv X pins σ H { s with heap:=h',toks:=tk }:=I.turned (fun b o hb e=>kk b o (by simpa using hb) e) f0 f1 f3 f4 f5
  refine⟨_,rfl,zaN (s:={ s with heap:=h',toks:=tk }) (n:= "range_iterator") st' rfl rfl (by decide) ⟨.int (lo+i),H,I1,⟨t,?_⟩,⟨rfl,rfl⟩,st',fun b hb=>(hf b hb).1⟩⟩
  rw[Int.mul_one]
 done:=by
  intro X hP hw hK hc i pins s σ H E I hf st hg
  subst hP hw hK
  obtain⟨f0,f1,f2,f3,f4,f5⟩:=hf it (by simp)
  exact wpAny_pyNext_range_end (I.ok.hd hc) st (by have:n<=i:=hg;omega) fun h' eb=>⟨rfl,I.turned (t':=s.toks) (fun b o hb e=>eb b o hb e) f0 f1 f3 f4 f5⟩
 self:=fun _ _ _ _ _ st h=>wpAny_pyIter_rangeiter st h
section
variable{X:Cx}{tg:Expr}
inductive InL(K:PySem.W.Frag)(x:V)(H:Hp)(R:It->Hp->Prop):Prop
 | mk (a:Addr) (h:x=.ref a) (e:∃xs,SqL K H a xs) (r:R (Itl K a) H):InL K x H R
inductive InT(K:PySem.W.Frag)(x:V)(H:Hp)(R:It->Hp->Prop):Prop
 | mk (a:Addr) (h:x=.ref a) (e:∃xs,SqT K H a xs) (r:R (Itt K a) H):InT K x H R
def zhN(K:PySem.W.Frag)(tl:TE):TI:=fun σ H R=>tl σ H fun x H1=>InL K x H1 R
def ziq(K:PySem.W.Frag)(tl:TE):TI:=fun σ H R=>tl σ H fun x H1=>InT K x H1 R
theorem qJ{l:Expr}{tl:TE}(hl:PE X l tl):PI X tg l (zhN X.K tl):=by
 intro pins s σ H R I h
 refine thn (hl pins s σ H _ I h) fun v s1 ⟨x,H1,I1,r1,q1⟩=>?_
 obtain⟨a,e,⟨xs,hq⟩,q⟩:=q1
 subst e
 cases r1
 obtain⟨its,rv,p,hz⟩:=I1.list hq
 refine wpAny_pyIter_list p.isList ?_
 refine⟨s1.heap.objs.size,[s1.heap.objs.size],_,_,H1,rfl,I1.kept (t':=s1.toks) fun b o e=>qx _ e,Js a _,⟨_,qD _ rfl,rfl,rfl⟩,fun b hb=>?_,q⟩
 have e:b=s1.heap.objs.size:=by simpa using hb
 subst e
 exact I1.fpOk (zJ _) (I1.hok.fresh (zJ _))
theorem vz{l:Expr}{tl:TE}(hl:PE X l tl):PI X tg l (ziq X.K tl):=by
 intro pins s σ H R I h
 refine thn (hl pins s σ H _ I h) fun v s1 ⟨x,H1,I1,r1,q1⟩=>?_
 obtain⟨a,e,⟨xs,hq⟩,q⟩:=q1
 subst e
 cases r1
 obtain⟨its,rv,p,hz⟩:=I1.tuple hq
 refine wpAny_pyIter_tuple (show s1.heap.IsTuple a its.toArray from p) ?_
 refine⟨s1.heap.objs.size,[s1.heap.objs.size],_,_,H1,rfl,I1.kept (t':=s1.toks) fun b o e=>qx _ e,Qi a _,⟨_,qD _ rfl,rfl,rfl⟩,fun b hb=>?_,q⟩
 have e:b=s1.heap.objs.size:=by simpa using hb
 subst e
 exact I1.fpOk (zJ _) (I1.hok.fresh (zJ _))
theorem zcN{pins:List (Addr×Obj)}{σ:St}{H:Hp}{s:Shared}{R:It->Hp->Prop}{E:Value->Shared->Prop}{lo hi:Int}{t u v:Tok}{tk:Nat}(I:Inv X pins σ H s)(h1:-(2^62)<=lo)(h2:lo<2^62)(h3:-(2^62)<=hi)(h4:hi<2^62)
  (q:R (Itr lo (hi-lo).toNat) H):wpAny (model X.prog X.w) X.A (pyIter (.ref s.heap.objs.size)) (PIE X pins σ tg R) E { s with heap:=s.heap.push { cls:=.type "range",data:=.fields #[.int lo t,.int hi u,.int 1 v] },toks:=tk }:=by
 refine wpAny_pyIter_range (IsRange.new ..) (small_one h1 h2 h3 h4) ?_
 have I1:Inv X pins σ H { s with heap:=s.heap.push { cls:=.type "range",data:=.fields #[.int lo t,.int hi u,.int 1 v] },toks:=tk }:=I.kept fun b o e=>qx _ e
 refine⟨(s.heap.push { cls:=.type "range",data:=.fields #[.int lo t,.int hi u,.int 1 v] }).objs.size,[(s.heap.push { cls:=.type "range",data:=.fields #[.int lo t,.int hi u,.int 1 v] }).objs.size],_,_,H,rfl,
  I1.kept (t':=tk) fun b o e=>qx _ e,Wv _ lo (hi-lo).toNat,?_,fun b hb=>?_,q⟩
 ·have e1:lo+((0:Nat):Int)*1=lo:=by simp
  have e2:(((hi-lo).toNat:Nat):Int)-((0:Nat):Int)=Builtin.Range.rangeSize lo hi 1:=by rw[rangeSize_one];split<;>omega
  show IsRangeIter _ _ (lo+((0:Nat):Int)*1) ((((hi-lo).toNat:Nat):Int)-((0:Nat):Int)) 1
  rw[e1,e2]
  exact qD _ rfl
 ·have e:b=(s.heap.push { cls:=.type "range",data:=.fields #[.int lo t,.int hi u,.int 1 v] }).objs.size:=by simpa using hb
  subst e
  exact I1.fpOk (zJ _) (I1.hok.fresh (zJ _))
inductive zh5(vs:List V)(H:Hp)(R:It->Hp->Prop):Prop
 | mk (j:Int) (h:vs=[.int j]) (h1:-(2^62)<=j) (h2:j<2^62) (r:R (Itr 0 j.toNat) H):zh5 vs H R
def zhM(ta:TA):TI:=fun σ H R=>ta σ H fun vs H1=>zh5 vs H1 R
theorem qz{a:Expr}{ta:TA}{p pos:Pos}(hg:Gl X "range")(hm:X.mg "range" = none)(ha:PA X [a] ta)(hs:starEach [a] X.env=[(false,eval a X.env)]:=by rfl):PI X tg (.Call (.Name "range" p) [a] [] pos) (zhM ta):=by
 intro pins s σ H R I h
 refine Call_ (vC I hg hm boot_range (QW (thn (ha pos pins s σ H _ I h) fun us s1 ⟨vs,H1,I1,r1,q1⟩=>?_) hs rfl))
 obtain⟨j,e,q1,q2,q⟩:=q1
 subst e
 cases r1 with
 | cons r rr=>
  cases rr
  obtain⟨t,rfl⟩:=r
  exact call_range_1 (zcN I1 (by omega) (by omega) q1 q2 (by simpa using q))
def zih(wi:TI)(g:TG)(tb:TS):TS:=fun D σ H=>wi σ H fun J H1=>∃W:Nat->Nat->St->Hp->Prop,(∃m,W 0 m σ H1)/\∀i m σ H,W i m σ H ->
 (J.stop i H/\D.nx σ H)\/(J.go i H/\∃N:St->Hp->Prop,(∀σ' H',N σ' H'->∃m',m'<m/\W (i+1) m' σ' H')/\∀x H',J.yld i H x H'->g x σ H' fun σ2 H2=>tb { D with nx:=N,ct:=N,bk:=D.nx } σ2 H2)
def jk(fp:List Addr)(h:Heap):List (Addr×Obj):=fp.filterMap fun b=>(h.get? b).map fun o=>(b,o)
theorem jY{fp:List Addr}{h:Heap}{b:Addr}{o:Obj}(hb:b∈fp)(e:h.get? b=some o):(b,o)∈jk fp h:=Yl.mpr ⟨b,hb,by rw[e];rfl⟩
theorem Zl{fp:List Addr}{h:Heap}{p:Addr×Obj}(hp:p∈jk fp h):p.1∈fp/\h.get? p.1=some p.2:=by
 obtain⟨b,hb,e⟩:=Yl.mp hp
 cases q:h.get? b with
 | none=>rw[q] at e;cases e
 | some o=>
  rw[q] at e
  have e':(b,o)=p:=jT e
  subst e'
  exact⟨hb,q⟩
theorem Inv.pinned{pins:List (Addr×Obj)}{σ:St}{H:Hp}{s:Shared}{fp:List Addr}(I:Inv X pins σ H s)(hf:∀b∈fp,vm X pins H b)(ho:∀b∈fp,∃o,s.heap.get? b=some o/\∀v,o.data≠.cell v):Inv X (pins++jk fp s.heap) σ H s:=
 I.pins_of fun p hp=>(qT.mp hp).elim (fun z=>I.pin p (jL _ z)) fun z=>by
  obtain⟨hb,e⟩:=Zl z
  obtain⟨f0,f1,f2,_⟩:=hf p.1 hb
  obtain⟨o,e',d⟩:=ho p.1 hb
  rw[e] at e';cases e'
  exact⟨e,f0,f1,f2,d⟩
theorem Inv.unpinned{pins pl:List (Addr×Obj)}{σ:St}{H:Hp}{s:Shared}(I:Inv X (pins++pl) σ H s):Inv X pins σ H s:=I.pins_of fun p hp=>I.pin p (jL _ (vw _ hp))
theorem qW{iter:Expr}{body:List Stmt}{wi:TI}{g:TG}{tb:TS}{pos:Pos}(hp:PassesOwn (model X.prog X.w) X.A X.env X.xe)(hc:X.calm=true)(hi:PI X tg iter wi)(hg:PG X tg g)(hb:PSs X body tb)
  (hs:∀x,foldedSetIterable iter X.env x=pure x:=by intro _;rfl):PS X (.For tg iter body [] pos) (zih wi g tb):=by
 intro pins s σ H D I h
 refine wpAny_For (thn (hi pins s σ H _ I h) fun v s1 h1=>thn h1 fun itv s2 h2=>?_) hs
 obtain⟨it,fp,tn,J,H2,e,I2,T,st2,f2,W,⟨m0,w0⟩,turn⟩:=h2
 subst e
 have stat:∀{H':Hp},(∀b∈fp,H' b=none)->∀b∈fp,vm X pins H' b:=fun hn b hb=>⟨hn b hb,(f2 b hb).2⟩
 refine codeAny_forLoop_any (fun n s'=>∃i σ' H',Inv X pins σ' H' s'/\tn i s'.heap/\(∀b∈fp,H' b=none)/\W i n σ' H') ?_ m0 ⟨0,σ,H2,I2,st2,fun b hb=>(f2 b hb).1,w0⟩
 rintro n s3 ⟨i,σ3,H3,I3,st3,fr3,w3⟩
 rcases turn i n σ3 H3 w3 with ⟨stop,qn⟩ | ⟨go,N,hN,step⟩
 ·refine yu hp (thn (T.done X rfl rfl rfl hc i pins s3 σ3 H3 X.xe I3 (stat fr3) st3 stop) fun r s4 ⟨hr,I4⟩=>?_)
  subst hr
  exact wpAny_execs_nil ⟨σ3,H3,I4,qn⟩
 ·refine yu hp (thn (T.item X rfl rfl rfl hc i pins s3 σ3 H3 X.xe I3 (stat fr3) st3 go) fun r s4 ⟨u,hr,h4⟩=>?_)
  subst hr
  refine yu hp (thn h4 fun _ s5 ⟨x,H5,I5,r5,y5,st5,fr5⟩=>?_)
  have I5':=I5.pinned (stat fr5) (T.obj _ _ st5)
  refine yu hp (thn (hg _ s5 σ3 H5 x u _ I5' r5 (step x H5 y5)) fun _ s6 ⟨σ6,H6,I6,q6⟩=>?_)
  refine yu hp (thn (hb _ s6 σ6 H6 _ I6 q6) fun f s7 q7=>?_)
  have again:∀{σ7:St} {H7:Hp},Inv X (pins++jk fp s5.heap) σ7 H7 s7->N σ7 H7->∃m,m<n/\∃i σ' H',Inv X pins σ' H' s7/\tn i s7.heap/\(∀b∈fp,H' b=none)/\W i m σ' H':=fun {σ7 H7} I7 n7=>by
   obtain⟨m',hm,w7⟩:=hN σ7 H7 n7
   refine⟨m',hm,i+1,σ7,H7,I7.unpinned,T.keep _ _ _ st5 fun b hb o e=>(I7.pin (b,o) (jL _ (jL _ (jY hb e)))).1,fun b hb=>?_,w7⟩
   obtain⟨o,e,d⟩:=T.obj _ _ st5 b hb
   exact(I7.pin (b,o) (jL _ (jL _ (jY hb e)))).2.1
  cases f with
  | next=>obtain⟨σ7,H7,I7,n7⟩:=q7;exact again I7 n7
  | cont=>obtain⟨σ7,H7,I7,n7⟩:=q7;exact again I7 n7
  | brk=>obtain⟨σ7,H7,I7,q7⟩:=q7;exact⟨σ7,H7,I7.unpinned,q7⟩
  | ret v=>obtain⟨x7,σ7,H7,I7,r7,q7⟩:=q7;exact⟨x7,σ7,H7,I7.unpinned,r7,q7⟩
end
theorem xc{K:PySem.W.Frag}{a:Addr}{xs:List V}{g:TG}{tb:TS}{D:Vi}{σ:St}{H:Hp}(Pv:Nat->St->Hp->Prop)(h0:Pv 0 σ H)(hl:∀i σ H,i<=xs.length->Pv i σ H->SqL K H a xs)
  (hs:∀i x σ H,xs[i]? =some x->Pv i σ H->g x σ H fun σ2 H2=>tb { D with nx:=Pv (i+1),ct:=Pv (i+1),bk:=D.nx } σ2 H2) (hd:∀σ H,Pv xs.length σ H->D.nx σ H) :
  ∃W:Nat->Nat->St->Hp->Prop,(∃m,W 0 m σ H)/\∀i m σ H,W i m σ H ->
   ((Itl K a).stop i H/\D.nx σ H)\/((Itl K a).go i H/\∃N:St->Hp->Prop,(∀σ' H',N σ' H'->∃m',m'<m/\W (i+1) m' σ' H')/\∀x H',(Itl K a).yld i H x H'->g x σ H' fun σ2 H2=>tb { D with nx:=N,ct:=N,bk:=D.nx } σ2 H2):=by
 refine⟨fun i m σ H=>m=xs.length-i/\i<=xs.length/\Pv i σ H,⟨xs.length,by simp,qe _,h0⟩,?_⟩
 rintro i m σ H ⟨rfl,hi,p⟩
 have q:=hl i σ H hi p
 by_cases hlt:i<xs.length
 ·refine .inr ⟨⟨xs,xs[i],q,by simp[hlt]⟩,Pv (i+1),fun σ' H' p'=>⟨xs.length-(i+1),by omega,rfl,hlt,p'⟩,fun x H' y=>?_⟩
  obtain⟨e,y⟩:=y
  subst e
  exact hs i x σ _ (y xs q) p
 ·have e:i=xs.length:=by omega
  subst e
  exact .inl ⟨⟨xs,q,zJ _⟩,hd σ H p⟩
theorem Z9{K:PySem.W.Frag}{a:Addr}{xs:List V}{g:TG}{tb:TS}{D:Vi}{σ:St}{H:Hp}(Pv:Nat->St->Hp->Prop)(h0:Pv 0 σ H)(hl:∀i σ H,i<=xs.length->Pv i σ H->SqT K H a xs)
  (hs:∀i x σ H,xs[i]? =some x->Pv i σ H->g x σ H fun σ2 H2=>tb { D with nx:=Pv (i+1),ct:=Pv (i+1),bk:=D.nx } σ2 H2) (hd:∀σ H,Pv xs.length σ H->D.nx σ H) :
  ∃W:Nat->Nat->St->Hp->Prop,(∃m,W 0 m σ H)/\∀i m σ H,W i m σ H ->
   ((Itt K a).stop i H/\D.nx σ H)\/((Itt K a).go i H/\∃N:St->Hp->Prop,(∀σ' H',N σ' H'->∃m',m'<m/\W (i+1) m' σ' H')/\∀x H',(Itt K a).yld i H x H'->g x σ H' fun σ2 H2=>tb { D with nx:=N,ct:=N,bk:=D.nx } σ2 H2):=by
 refine⟨fun i m σ H=>m=xs.length-i/\i<=xs.length/\Pv i σ H,⟨xs.length,by simp,qe _,h0⟩,?_⟩
 rintro i m σ H ⟨rfl,hi,p⟩
 have q:=hl i σ H hi p
 by_cases hlt:i<xs.length
 ·refine .inr ⟨⟨xs,xs[i],q,by simp[hlt]⟩,Pv (i+1),fun σ' H' p'=>⟨xs.length-(i+1),by omega,rfl,hlt,p'⟩,fun x H' y=>?_⟩
  obtain⟨e,y⟩:=y
  subst e
  exact hs i x σ _ (y xs q) p
 ·have e:i=xs.length:=by omega
  subst e
  exact .inl ⟨⟨xs,q,zJ _⟩,hd σ H p⟩
theorem jc{lo:Int}{n:Nat}{g:TG}{tb:TS}{D:Vi}{σ:St}{H:Hp}(Pv:Nat->St->Hp->Prop)(h0:Pv 0 σ H)
  (hs:∀i σ H,i<n->Pv i σ H->g (.int (lo+i)) σ H fun σ2 H2=>tb { D with nx:=Pv (i+1),ct:=Pv (i+1),bk:=D.nx } σ2 H2) (hd:∀σ H,Pv n σ H->D.nx σ H) :
  ∃W:Nat->Nat->St->Hp->Prop,(∃m,W 0 m σ H)/\∀i m σ H,W i m σ H ->
   ((Itr lo n).stop i H/\D.nx σ H)\/((Itr lo n).go i H/\∃N:St->Hp->Prop,(∀σ' H',N σ' H'->∃m',m'<m/\W (i+1) m' σ' H')/\∀x H',(Itr lo n).yld i H x H'->g x σ H' fun σ2 H2=>tb { D with nx:=N,ct:=N,bk:=D.nx } σ2 H2):=by
 refine⟨fun i m σ H=>m=n-i/\i<=n/\Pv i σ H,⟨n,by simp,qe _,h0⟩,?_⟩
 rintro i m σ H ⟨rfl,hi,p⟩
 by_cases hlt:i<n
 ·refine .inr ⟨hlt,Pv (i+1),fun σ' H' p'=>⟨n-(i+1),by omega,rfl,hlt,p'⟩,fun x H' y=>?_⟩
  obtain⟨e,y⟩:=y
  subst e y
  exact hs i σ _ hlt p
 ·have e:i=n:=by omega
  subst e
  exact .inl ⟨zJ _,hd σ H p⟩
abbrev R2:=V->V->Hp->VK->Prop
def OpR(X:Cx)(f:Value->Value->Sem Value)(r:R2):Prop:=
 ∀(pins:List (Addr×Obj)) (s:Shared) (σ:St) (H:Hp) (x y:V) (v u:Value) (Q:VK),Inv X pins σ H s->RelV x v->RelV y u->r x y H Q ->
  wpAny (model X.prog X.w) X.A (f v u) (EP X pins σ Q) X.xe s
def UnR(X:Cx)(f:Value->Sem Value)(r:V->Hp->VK->Prop):Prop:=
 ∀(pins:List (Addr×Obj)) (s:Shared) (σ:St) (H:Hp) (x:V) (v:Value) (Q:VK),Inv X pins σ H s->RelV x v->r x H Q ->
  wpAny (model X.prog X.w) X.A (f v) (EP X pins σ Q) X.xe s
def CallR(X:Cx)(f:Value)(r:List V->Hp->VK->Prop):Prop:=
 ∀(pins:List (Addr×Obj)) (s:Shared) (σ:St) (H:Hp) (xs:List V) (us:List Value) (Q:VK),Inv X pins σ H s->Vals xs us->r xs H Q ->
  wpAny (model X.prog X.w) X.A (call f us) (EP X pins σ Q) X.xe s
def tOp(r:R2)(ta tb:TE):TE:=fun σ H Q=>ta σ H fun x H1=>tb σ H1 fun y H2=>r x y H2 Q
def tUn(r:V->Hp->VK->Prop)(ta:TE):TE:=fun σ H Q=>ta σ H fun x H1=>r x H1 Q
inductive rI(C:Int->Int->Prop)(g:Int->Int->V)(x:V)(y:V)(H:Hp)(Q:VK):Prop
 | mk (i j:_) (_:x=.int i) (_:y=.int j) (_:C i j) (_:Q (g i j) H):rI C g x y H Q
inductive rI0(g:Int->Int->V)(x:V)(y:V)(H:Hp)(Q:VK):Prop
 | mk (i j:_) (_:x=.int i) (_:y=.int j) (_:Q (g i j) H):rI0 g x y H Q
inductive rU(g:Int->V)(x:V)(H:Hp)(Q:VK):Prop
 | mk (i:_) (_:x=.int i) (_:Q (g i) H):rU g x H Q
section
variable{X:Cx}{a b c:Expr}{ta tb tc:TE}{pos:Pos}
theorem zgV(ha:PE X a ta)(hb:PE X b tb){pins:List (Addr×Obj)}{s:Shared}{σ:St}{H:Hp}{R:V->V->Hp->Prop}(I:Inv X pins σ H s)
  (h:ta σ H fun x H1=>tb σ H1 fun y H2=>R x y H2) {Q:Value->Shared->Prop} {f:Value->Value->Sem Value}
  (hf:∀v u s2 x y H2,Inv X pins σ H2 s2->RelV x v->RelV y u->R x y H2->wpAny (model X.prog X.w) X.A (f v u) Q X.xe s2) :
  wpAny (model X.prog X.w) X.A (eval a X.env) (fun v s₁=>wpAny (model X.prog X.w) X.A (eval b X.env) (fun u s₂=>wpAny (model X.prog X.w) X.A (f v u) Q X.xe s₂) X.xe s₁) X.xe s:=by
 refine thn (ha pins s σ H _ I h) fun v s1 ⟨x,H1,I1,r1,q1⟩=>?_
 refine thn (hb pins s1 σ H1 _ I1 q1) fun u s2 ⟨y,H2,I2,r2,q2⟩=>?_
 exact hf v u s2 x y H2 I2 r1 r2 q2
theorem zA{op:Operator}{r:R2}(ho:OpR X (binaryOp op) r)(ha:PE X a ta)(hb:PE X b tb):PE X (.BinOp a op b pos) (tOp r ta tb):=by
 intro pins s σ H Q I h
 exact wpAny_BinOp (zgV ha hb I h fun v u s2 x y H2 I2 rx ry q=>ho pins s2 σ H2 x y v u Q I2 rx ry q)
theorem zcT{op:UnaryOp}{r:V->Hp->VK->Prop}(ho:UnR X (unaryOp op) r)(ha:PE X a ta):PE X (.UnaryOp op a pos) (tUn r ta):=by
 intro pins s σ H Q I h
 exact UnaryOp_ (thn (ha pins s σ H _ I h) fun v s1 ⟨x,H1,I1,r1,q1⟩=>ho pins s1 σ H1 x v Q I1 r1 q1)
theorem opI{f:Value->Value->Sem Value}{C:Int->Int->Prop}{g:Int->Int->Int}
  (rule:∀(i j:Int) (t u:Tok) (s:Shared) (Q:Value->Shared->Prop) (E:Value->Shared->Prop),C i j->Q (.int (g i j) s.toks) { s with toks:=s.toks+1 }->wpAny (model X.prog X.w) X.A (f (.int i t) (.int j u)) Q E s) :
  OpR X f (rI C fun i j=>.int (g i j)):=by
 intro pins s σ H x y v u Q I rx ry h
 obtain⟨i,j,rfl,rfl,hc,q⟩:=h
 obtain⟨t,rfl⟩:=rx
 obtain⟨t',rfl⟩:=ry
 exact rule i j t t' s _ _ hc ⟨.int (g i j),H,I.tok _,⟨_,rfl⟩,q⟩
theorem zhw{f:Value->Value->Sem Value}{g:Int->Int->Int}
  (rule:∀(i j:Int) (t u:Tok) (s:Shared) (Q:Value->Shared->Prop) (E:Value->Shared->Prop),Q (.int (g i j) s.toks) { s with toks:=s.toks+1 }->wpAny (model X.prog X.w) X.A (f (.int i t) (.int j u)) Q E s) :
  OpR X f (rI0 fun i j=>.int (g i j)):=by
 intro pins s σ H x y v u Q I rx ry h
 obtain⟨i,j,rfl,rfl,q⟩:=h
 obtain⟨t,rfl⟩:=rx
 obtain⟨t',rfl⟩:=ry
 exact rule i j t t' s _ _ ⟨.int (g i j),H,I.tok _,⟨_,rfl⟩,q⟩
theorem zen{f:Value->Value->Sem Value}{g:Int->Int->Bool}
  (rule:∀(i j:Int) (t u:Tok) (s:Shared) (Q:Value->Shared->Prop) (E:Value->Shared->Prop),Q (.bool (g i j)) s->wpAny (model X.prog X.w) X.A (f (.int i t) (.int j u)) Q E s) :
  OpR X f (rI0 fun i j=>.bl (g i j)):=by
 intro pins s σ H x y v u Q I rx ry h
 obtain⟨i,j,rfl,rfl,q⟩:=h
 obtain⟨t,rfl⟩:=rx
 obtain⟨t',rfl⟩:=ry
 exact rule i j t t' s _ _ ⟨.bl (g i j),H,I,rfl,q⟩
def zh7(i j:Int):Prop:=0<j/\j<1073741824
def ziv(i j:Int):Prop:=0<=j/\j<=1000000/\i.natAbs<2^64
def CMul(i j:Int):Prop:=(-(2^64)<i/\i<2^64)\/(-(2^64)<j/\j<2^64)
theorem CMul.ok{i j:Int}(h:CMul i j):IntMulOk i j:=by
 rcases h with ⟨h1,h2⟩ | ⟨h1,h2⟩
 ·exact .of_left (intBits_le_64 h1 h2)
 ·exact .of_right (intBits_le_64 h1 h2)
theorem qw:OpR X (binaryOp .Add) (rI0 fun i j=>.int (i+j)):=zhw fun _ _ _ _ _ _ _ q=>add_int q
theorem xz:OpR X (binaryOp .Sub) (rI0 fun i j=>.int (i-j)):=zhw fun _ _ _ _ _ _ _ q=>sub_int q
theorem va:OpR X (binaryOp .Mult) (rI CMul fun i j=>.int (i*j)):=opI fun _ _ _ _ _ _ _ hc q=>mul_int q hc.ok
theorem zax:OpR X (binaryOp .FloorDiv) (rI zh7 fun i j=>.int (i/j)):=opI fun i j _ _ _ _ _ hc q=>by
 have h1:(0:Int)<j:=hc.1
 have h2:j<1073741824:=hc.2
 exact floordiv_int (by omega) (by rw[zdM i (by omega)];exact q) (.inl (PyProof.noPylong_small (by omega)))
theorem xY:OpR X (binaryOp .Mod) (rI (fun _ j=>0<j) fun i j=>.int (i % j)):=opI fun i j _ _ _ _ _ hc q=>by
 have h1:(0:Int)<j:=hc
 exact mod_int' (by omega) (by rw[zdL i (by omega)];exact q)
theorem zcX:OpR X (binaryOp .Pow) (rI ziv fun i j=>.int (i^j.toNat)):=opI fun _ _ _ _ _ _ _ hc q=>pow_int_small hc.1 hc.2.1 hc.2.2 q
theorem unI{f:Value->Sem Value}{g:Int->Int}
  (rule:∀(i:Int) (t:Tok) (s:Shared) (Q:Value->Shared->Prop) (E:Value->Shared->Prop),Q (.int (g i) s.toks) { s with toks:=s.toks+1 }->wpAny (model X.prog X.w) X.A (f (.int i t)) Q E s) :
  UnR X f (rU fun i=>.int (g i)):=by
 intro pins s σ H x v Q I rx h
 obtain⟨i,rfl,q⟩:=h
 obtain⟨t,rfl⟩:=rx
 exact rule i t s _ _ ⟨.int (g i),H,I.tok _,⟨_,rfl⟩,q⟩
theorem Wt:UnR X (unaryOp .USub) (rU fun i=>.int (-i)):=unI fun _ _ _ _ _ q=>neg_int q
end
def zhf:V->V->Bool
 | .non,.non=>true | .non,.int _=>true | .int _,.non=>true | .non,.bl _=>true | .bl _,.non=>true | .non,.str _=>true | .str _,.non=>true
 | .int _,.int _=>true | .bl _,.bl _=>true | .str _,.str _=>true | .byt _,.byt _=>true
 | .int _,.str _=>true | .str _,.int _=>true | .bl _,.str _=>true | .str _,.bl _=>true
 | _,_=>false
def rEq:R2:=fun x y H Q=>zhf x y=true/\Q (.bl (decide (x=y))) H
def rNe:R2:=fun x y H Q=>zhf x y=true/\Q (.bl (!decide (x=y))) H
theorem zaU{i j:Int}:decide (V.int i=V.int j)=(i==j):=by
 rw[ww]
 simp
theorem zdA{i j:Bool}:decide (V.bl i=V.bl j)=(i==j):=by
 rw[ww]
 simp
theorem zaT{i j:Str}:decide (V.str i=V.str j)=(i==j):=by
 rw[ww]
 simp
theorem zaV{i j:Array UInt8}:decide (V.byt i=V.byt j)=(i.toList==j.toList):=by
 rw[ww]
 cases i
 cases j
 simp
section
variable{X:Cx}{a b c:Expr}{ta tb tc:TE}{pos:Pos}
theorem qE{pins:List (Addr×Obj)}{σ:St}{H:Hp}{s:Shared}{Q:VK}{k k':Bool}(I:Inv X pins σ H s)(q:Q (.bl k) H)(e:k=k'):EP X pins σ Q (.bool k') s:=by
 subst e
 exact⟨.bl k,H,I,rfl,q⟩
theorem jt:OpR X (compareOp .Eq) rEq:=by
 intro pins s σ H x y v u Q I rx ry h
 obtain⟨hs,q⟩:=h
 cases x with
 | non=>
  cases rx
  cases y with
  | non=>cases ry;exact PySem.EqNone.eq_none_none (qE I q (by simp))
  | bl j=>cases ry;exact PySem.EqNone.eq_none_bool (qE I q (by simp))
  | int j=>obtain⟨t',rfl⟩:=ry;exact PySem.EqNone.eq_none_int (qE I q (by simp))
  | str j=>obtain⟨t',rfl⟩:=ry;exact PySem.EqNone.eq_none_str (qE I q (by simp))
  | _=>exact absurd (show false=true from hs) qC
 | bl i=>
  cases rx
  cases y with
  | non=>cases ry;exact PySem.EqNone.eq_bool_none (qE I q (by simp))
  | bl j=>cases ry;exact eq_bool (qE I q zdA)
  | str j=>obtain⟨t',rfl⟩:=ry;exact PySem.EqMixed.eq_bool_str (qE I q (by simp))
  | _=>exact absurd (show false=true from hs) qC
 | int i=>
  obtain⟨t,rfl⟩:=rx
  cases y with
  | non=>cases ry;exact PySem.EqNone.eq_int_none (qE I q (by simp))
  | int j=>obtain⟨t',rfl⟩:=ry;exact eq_int (qE I q zaU)
  | str j=>obtain⟨t',rfl⟩:=ry;exact PySem.EqMixed.eq_int_str (qE I q (by simp))
  | _=>exact absurd (show false=true from hs) qC
 | str i=>
  obtain⟨t,rfl⟩:=rx
  cases y with
  | non=>cases ry;exact PySem.EqNone.eq_str_none (qE I q (by simp))
  | bl j=>cases ry;exact PySem.EqMixed.eq_str_bool (qE I q (by simp))
  | int j=>obtain⟨t',rfl⟩:=ry;exact PySem.EqMixed.eq_str_int (qE I q (by simp))
  | str j=>obtain⟨t',rfl⟩:=ry;exact eq_str (qE I q zaT)
  | _=>exact absurd (show false=true from hs) qC
 | byt i=>
  obtain⟨t,rfl⟩:=rx
  cases y with
  | byt j=>obtain⟨t',rfl⟩:=ry;exact PySem.W.eq_bytes (qE I q zaV)
  | _=>exact absurd (show false=true from hs) qC
 | _=>cases y<;>exact absurd (show false=true from hs) qC
theorem zcY:OpR X (compareOp .NotEq) rNe:=by
 intro pins s σ H x y v u Q I rx ry h
 obtain⟨hs,q⟩:=h
 cases x with
 | non=>
  cases rx
  cases y with
  | non=>cases ry;exact PySem.EqNone.ne_none_none (qE I q (by simp))
  | bl j=>cases ry;exact PySem.EqNone.ne_none_bool (qE I q (by simp))
  | int j=>obtain⟨t',rfl⟩:=ry;exact PySem.EqNone.ne_none_int (qE I q (by simp))
  | str j=>obtain⟨t',rfl⟩:=ry;exact PySem.EqNone.ne_none_str (qE I q (by simp))
  | _=>exact absurd (show false=true from hs) qC
 | bl i=>
  cases rx
  cases y with
  | non=>cases ry;exact PySem.EqNone.ne_bool_none (qE I q (by simp))
  | bl j=>cases ry;exact ne_bool (qE I q (congrArg not zdA))
  | str j=>obtain⟨t',rfl⟩:=ry;exact PySem.EqMixed.ne_bool_str (qE I q (by simp))
  | _=>exact absurd (show false=true from hs) qC
 | int i=>
  obtain⟨t,rfl⟩:=rx
  cases y with
  | non=>cases ry;exact PySem.EqNone.ne_int_none (qE I q (by simp))
  | int j=>obtain⟨t',rfl⟩:=ry;exact ne_int (qE I q (congrArg not zaU))
  | str j=>obtain⟨t',rfl⟩:=ry;exact PySem.EqMixed.ne_int_str (qE I q (by simp))
  | _=>exact absurd (show false=true from hs) qC
 | str i=>
  obtain⟨t,rfl⟩:=rx
  cases y with
  | non=>cases ry;exact PySem.EqNone.ne_str_none (qE I q (by simp))
  | bl j=>cases ry;exact PySem.EqMixed.ne_str_bool (qE I q (by simp))
  | int j=>obtain⟨t',rfl⟩:=ry;exact PySem.EqMixed.ne_str_int (qE I q (by simp))
  | str j=>obtain⟨t',rfl⟩:=ry;exact ne_str (qE I q (congrArg not zaT))
  | _=>exact absurd (show false=true from hs) qC
 | byt i=>
  obtain⟨t,rfl⟩:=rx
  cases y with
  | byt j=>obtain⟨t',rfl⟩:=ry;exact PySem.W.ne_bytes (qE I q (congrArg not zaV))
  | _=>exact absurd (show false=true from hs) qC
 | _=>cases y<;>exact absurd (show false=true from hs) qC
theorem zcZ:OpR X (compareOp .Lt) (rI0 fun i j=>.bl (decide (i<j))):=zen fun _ _ _ _ _ _ _ q=>lt_int q
theorem zhv:OpR X (compareOp .LtE) (rI0 fun i j=>.bl (decide (i<=j))):=zen fun _ _ _ _ _ _ _ q=>le_int q
theorem Qt:OpR X (compareOp .Gt) (rI0 fun i j=>.bl (decide (j<i))):=zen fun _ _ _ _ _ _ _ q=>gt_int q
theorem zfD:OpR X (compareOp .GtE) (rI0 fun i j=>.bl (decide (j<=i))):=zen fun _ _ _ _ _ _ _ q=>ge_int q
theorem zc0:OpR X (compareOp .Is) (fun x y H Q=>y=.non/\Q (.bl (decide (x=.non))) H):=by
 intro pins s σ H x y v u Q I rx ry h
 obtain⟨rfl,q⟩:=h
 cases ry
 refine is_none_gen (qE I q ?_)
 cases x<;>first
  | (cases rx;rfl)
  | (obtain⟨t,rfl⟩:=rx;rfl)
theorem OpR.or{f:Value->Value->Sem Value}{r r':R2}(h:OpR X f r)(h':OpR X f r'):OpR X f (fun x y H Q=>r x y H Q\/r' x y H Q):=by
 intro pins s σ H x y v u Q I rx ry q
 rcases q with q | q
 ·exact h pins s σ H x y v u Q I rx ry q
 ·exact h' pins s σ H x y v u Q I rx ry q
theorem zQ(b:Expr){op:CmpOp}(h:op≠.In:=by decide)(h2:op≠.NotIn:=by decide):behindInMarks op b=false:=by
 have e1:(op==CmpOp.In)=false:=by cases op<;>first| rfl | exact absurd rfl h
 have e2:(op==CmpOp.NotIn)=false:=by cases op<;>first| rfl | exact absurd rfl h2
 cases b<;>simp[behindInMarks,e1,e2]
theorem qM{op:CmpOp}{r:R2}(ho:OpR X (compareOp op) r)(ha:PE X a ta)(hb:PE X b tb)(hm:behindInMarks op b=false):PE X (.Compare a [op] [b] pos) (tOp r ta tb):=by
 intro pins s σ H Q I h
 exact wpAny_Compare1 (zgV ha hb I h fun v u s2 x y H2 I2 rx ry q=>ho pins s2 σ H2 x y v u Q I2 rx ry q) hm
def zg3(t:TE):TT:=fun σ H Q=>t σ H fun x H'=>IsB x H' Q
theorem zO{op:CmpOp}{r:R2}(ho:OpR X (compareOp op) r)(ha:PE X a ta)(hb:PE X b tb)(hm:behindInMarks op b=false):PT X (.Compare a [op] [b] pos) (zg3 (tOp r ta tb)):=by
 intro pins s σ H Q I h
 refine wpAny_isTrue_Compare1 (thn (ha pins s σ H _ I h) fun v s1 ⟨x,H1,I1,r1,q1⟩=>thn (hb pins s1 σ H1 _ I1 q1) fun u s2 ⟨y,H2,I2,r2,q2⟩=>
  thn (ho pins s2 σ H2 x y v u _ I2 r1 r2 q2) fun c s3 ⟨z,H3,I3,r3,k,e,q3⟩=>?_) hm
 subst e
 cases r3
 exact yY ⟨H3,I3,q3⟩
theorem Qw:(sizeLine:Nat)<2^63:=by rw[sizeLine_eq];decide
inductive y6(x:V)(y:V)(H:Hp)(Q:VK):Prop
 | mk (i j:_) (_:x=.str i) (_:y=.str j) (_:i.length+j.length<=sizeLine) (_:Q (.str (i++j)) H):y6 x y H Q
theorem WK:OpR X (binaryOp .Add) (y6):=by
 intro pins s σ H x y v u Q I rx ry h
 obtain⟨i,j,rfl,rfl,hz,q⟩:=h
 obtain⟨t,rfl⟩:=rx
 obtain⟨t',rfl⟩:=ry
 exact add_str (fun t' tk=>⟨.str (i++j),H,I.tok _,⟨_,rfl⟩,q⟩) hz
theorem vn{x:V}{us:List Value}(r:Vals [x] us):∃u,us=[u]/\RelV x u:=by
 cases r with
 | cons r1 r2=>cases r2;exact⟨_,rfl,r1⟩
theorem Jp{x y:V}{us:List Value}(r:Vals [x,y] us):∃u w',us=[u,w']/\RelV x u/\RelV y w':=by
 cases r with
 | cons r1 r2=>
  cases r2 with
  | cons r3 r4=>cases r4;exact⟨_,_,rfl,r1,r3⟩
inductive Jf(xs:List V)(H:Hp)(Q:VK):Prop
 | mk (i:_) (_:xs=[.int i]) (_:Q (.int (if i<0 then -i else i)) H):Jf xs H Q
theorem vK:CallR X (.builtin "abs") (Jf):=by
 intro pins s σ H xs us Q I r h
 obtain⟨i,rfl,q⟩:=h
 obtain⟨u,rfl,t,rfl⟩:=vn r
 exact call_abs_int fun u tk=>⟨.int (if i<0 then -i else i),H,I.tok _,⟨_,rfl⟩,q⟩
inductive ZQ(xs:List V)(H:Hp)(Q:VK):Prop
 | mk (i j:_) (_:xs=[.int i,.int j]) (_:Q (.int (if j>i then j else i)) H):ZQ xs H Q
theorem Zq(hc:X.calm=true):CallR X (.builtin "max") (ZQ):=by
 intro pins s σ H xs us Q I r h
 obtain⟨i,j,rfl,q⟩:=h
 obtain⟨u,w',rfl,⟨t,rfl⟩,⟨t',rfl⟩⟩:=Jp r
 refine max_two_ints (I.ok.hd hc) fun h' tk k=>⟨_,H,I.kept k,?_,q⟩
 by_cases hj:j>i
 ·rw[zH hj,zH hj];exact⟨_,rfl⟩
 ·rw[zx hj,zx hj];exact⟨_,rfl⟩
theorem wR:CallR X (.type "int") (fun xs H Q=>(∃i,xs=[.int i]/\Q (.int i) H)\/∃k,xs=[.bl k]/\Q (.int (if k then 1 else 0)) H):=by
 intro pins s σ H xs us Q I r h
 rcases h with ⟨i,rfl,q⟩ | ⟨k,rfl,q⟩
 ·obtain⟨u,rfl,t,rfl⟩:=vn r
  exact call_int_int ⟨.int i,H,I,⟨_,rfl⟩,q⟩
 ·obtain⟨u,rfl,r1⟩:=vn r
  cases r1
  exact call_int_bool ⟨.int (if k then 1 else 0),H,I.tok _,⟨_,rfl⟩,q⟩
inductive wD(xs:List V)(H:Hp)(Q:VK):Prop
 | mk (i:_) (_:xs=[.int i]) (_:i.natAbs.log2<1920) (_:Q (.str (toString i)) H):wD xs H Q
theorem XM:CallR X (.type "str") (wD):=by
 intro pins s σ H xs us Q I r h
 obtain⟨i,rfl,hz,q⟩:=h
 obtain⟨u,rfl,t,rfl⟩:=vn r
 exact PySem.P.str_of_int hz ⟨.str _,H,I.tok _,⟨_,rfl⟩,q⟩
inductive ye(xs:List V)(H:Hp)(Q:VK):Prop
 | mk (i j:_) (_:xs=[.int i,.int j]) (_:zh7 i j) (_:∀p,H p=none->Q (.ref p) (upd H p (.tup [.int (i/j),.int (i % j)]))):ye xs H Q
theorem Wm:CallR X (.builtin "divmod") (ye):=by
 intro pins s σ H xs us Q I r h
 obtain⟨i,j,rfl,⟨h1,h2⟩,q⟩:=h
 obtain⟨u,w',rfl,⟨t,rfl⟩,⟨t',rfl⟩⟩:=Jp r
 refine divmod_int (by omega) ?_ (.inl (PyProof.noPylong_small (by omega)))
 rw[zdM i (by omega),zdL i (by omega)]
 have hn:H s.heap.objs.size=none:=I.hok.fresh (zJ _)
 refine⟨.ref s.heap.objs.size,_,?_,rfl,q _ hn⟩
 refine I.laid (fun b o e=>qx _ e) (zJ _) ⟨by simp only[xU,X1];rw[sizeLine_eq];decide,[.int (i/j) s.toks,.int (i % j) (s.toks+1)],.cons ⟨_,rfl⟩ (.cons ⟨_,rfl⟩ .nil),?_⟩
 exact⟨⟨_,qD s.heap rfl,rfl,0,rfl⟩,_,qD s.heap rfl,rfl⟩
end
structure ObjM(h:Heap)(x dx C:Addr)(mA:Str->Option Value):Prop where
 obj:h.get? x=some (PySem.W.instObj C dx)
 ns:h.Ns1 dx mA
 ne:dx≠x
section
variable{prog:Program}{w:World}{A:Around}{E:Value->Shared->Prop}{s:Shared}{K:PySem.W.Frag}{x dx C f:Addr}{mA:Str->Option Value}{name:Str}{v:Value}
end
def putF(f:Str)(v:V):List (Str×V)->List (Str×V)
 | []=>[(f,v)]
 | (g,x)::r=>if g=f then(g,v)::r else(g,x)::putF f v r
theorem RelO.some_of{v:V}{o:Option Value}(r:RelO (some v) o):∃u,o=some u/\RelV v u:=by
 cases o with
 | none=>exact(show False from r).elim
 | some u=>exact⟨u,rfl,r⟩
section
variable{P:Program}{w:World}{H H':Hp}{h h':Heap}{a C dx:Addr}{fs fs':List (Str×V)}
end
structure Cls(K:PySem.W.Frag)(C:Addr):Prop where
 pg:PySem.W.plainGet K C Str.empty=true
 hd:PySem.W.hasDictIn K C=true
 po:PySem.W.plainOver K C=true
 sa:PySem.W.findIn K (.ref C) "__setattr__" = some (some (.builtin "object.__setattr__"))
structure Con(K:PySem.W.Frag)(C:Addr)(f:Str)(v:V)(u:Value):Prop where
 at_:PySem.W.findIn K (.ref C) f=some (some u)
 rel:RelV v u
 get:PySem.W.specialIn K u "__get__" = some none
 cp:PySem.W.copiedNames.contains f=false
structure Meth(K:PySem.W.Frag)(C:Addr)(m:Str)(f:Addr):Prop where
 at_:PySem.W.findIn K (.ref C) m=some (some (.ref f))
 fn:PySem.W.isFn K (.ref f)=true
 kp:PySem.W.keepIn K (.ref f)=true
section
variable{X:Cx}{pins:List (Addr×Obj)}{σ:St}{H:Hp}{s:Shared}{a C dx:Addr}{fs:List (Str×V)}{f:Str}{v:V}{A:Around}{E:Value->Shared->Prop}
end
section
variable{X:Cx}{o e value:Expr}{f:Str}{pos pos' tpos:Pos}{ta tv:TE}
end
section
variable{X:Cx}{pins:List (Addr×Obj)}{σ:St}{H:Hp}{s:Shared}{A:Around}{E:Value->Shared->Prop}{Q:Value->Shared->Prop}{c:Value}{b:Bool}
inductive Ja(K:PySem.W.Frag)(H:Hp):V->Value->Prop where
 | non:Ja K H .non (.type "NoneType")
 | bl (x:Bool):Ja K H (.bl x) (.type "bool")
 | int (i:Int):Ja K H (.int i) (.type "int")
 | str (x:Str):Ja K H (.str x) (.type "str")
 | flt (x:UInt64):Ja K H (.flt x) (.type "float")
 | lst {a:Addr} {xs:List V} (e:H a=some (.lst xs)):Ja K H (.ref a) (.type "list")
 | frz {a:Addr} {o:Obj} {xs:List V} (e:H a=some (.frz o (.lst xs))):Ja K H (.ref a) (.type "list")
 | tup {a:Addr} {xs:List V} (e:H a=some (.tup xs)):Ja K H (.ref a) (.type "tuple")
 | dK {a:Addr} {kvs:List (Key×V)} (e:H a=some (.dK kvs)):Ja K H (.ref a) (.type "dict")
 | dT {a:Addr} {kvs:List (List Key×V)} (e:H a=some (.dT kvs)):Ja K H (.ref a) (.type "dict")
 | ins {a C dx:Addr} {fs:List (Str×V)} (e:H a=some (.ins C dx fs)) (cl:Cls K C) (ha:PySem.W.findIn K (.ref C) "__class__" = some (some (.builtin "object.__class__")))
   (hn:PySem.W.specialIn K (.builtin "object.__class__") "__get__" = some (some (.builtin "getset_descriptor.__get__"))) (htk:PySem.W.takesIn K (.builtin "object.__class__")=some true)
   (hm:PySem.W.mroIn K C (.type "object")=some true):Ja K H (.ref a) (.ref C)
end
structure Room(k:Nat)(A:Around):Prop where
 hd:A.handled=none
 dp:A.depth+3*k+5<recursionLimit
 un:A.units+16*k+200<cLine
 gd:A.guards=some []
theorem Room.mono{j k:Nat}{A:Around}(r:Room k A)(h:j<=k):Room j A:=⟨r.hd,by have:=r.dp;omega,by have:=r.un;omega,r.gd⟩
theorem Room.deeper{k:Nat}{A:Around}(r:Room (k+1) A)(env:Env):Room k (A.deeper env):=
 ⟨r.hd,by have:=r.dp;show A.depth+1+3*k+5<_;omega,by have:=r.un;show A.units+3+16*k+200<_;omega,r.gd⟩
theorem Room.depth{k:Nat}{A:Around}(r:Room k A):A.depth<recursionLimit:=by have:=r.dp;omega
theorem Room.units{k:Nat}{A:Around}(r:Room k A):A.units+64<cLine:=by have:=r.un;omega
theorem Room.units0{k:Nat}{A:Around}(r:Room k A):A.units<cLine:=by have:=r.un;omega
def zd1:TA:=fun _ H Q=>Q [] H
def jy(ta:TE)(tr:TA):TA:=fun σ H Q=>ta σ H fun x H1=>tr σ H1 fun xs H2=>Q (x::xs) H2
section
variable{X:Cx}{e:Expr}{es:List Expr}{te:TE}{t:TA}{pos:Pos}
theorem ze:PA X [] zd1:=fun _ _ _ _ H Q I h=>Q4 ⟨[],H,I,.nil,h⟩
theorem za(ha:PE X e te)(hr:PA X es t)(hs:starEach (e::es) X.env=(false,eval e X.env)::starEach es X.env:=by rfl):PA X (e::es) (jy te t):=by
 intro pos pins s σ H Q I h
 rw[hs]
 show wpAny _ _ (spliced ((false,eval e X.env)::backTo pos (starEach es X.env))) _ _ s
 refine QT (thn (ha pins s σ H _ I h) fun u s1 ⟨x,H1,I1,r1,q1⟩=>?_)
 exact thn (hr pos pins s1 σ H1 _ I1 q1) fun us s2 ⟨xs,H2,I2,r2,q2⟩=>⟨x::xs,H2,I2,.cons r1 r2,q2⟩
def zh9(t:TA):TE:=fun σ H Q=>t σ H fun xs H1=>xs.length<=sizeLine/\∀p,H1 p=none->Q (.ref p) (upd H1 p (.tup xs))
def zif(t:TA):TE:=fun σ H Q=>t σ H fun xs H1=>xs.length<=sizeLine/\∀p,H1 p=none->Q (.ref p) (upd H1 p (.lst xs))
theorem zY{x1}(h:PA X es t):PE X (.Tuple es x1 pos) (zh9 t):=by
 intro pins s σ H Q I hq
 refine wpAny_Tuple_spliced (thn (h pos pins s σ H _ I hq) fun us s1 ⟨xs,H1,I1,r,z,q⟩=>⟨by rw[<- r.length];exact z,?_⟩)
 have hf:H1 s1.heap.objs.size=none:=I1.hok.fresh (zJ _)
 refine⟨.ref s1.heap.objs.size,upd H1 s1.heap.objs.size (.tup xs),I1.laid (t':=s1.toks) (fun b u e=>qx _ e) (zJ _) ?_,rfl,q _ hf⟩
 exact⟨z,us,r,⟨_,qD _ rfl,rfl,_,rfl⟩,_,qD _ rfl,rfl⟩
theorem zN(h:PA X es t):PE X (.List es pos) (zif t):=by
 intro pins s σ H Q I hq
 refine wpAny_List_spliced (thn (h pos pins s σ H _ I hq) fun us s1 ⟨xs,H1,I1,r,z,q⟩=>⟨by rw[<- r.length];exact z,?_⟩)
 have hf:H1 s1.heap.objs.size=none:=I1.hok.fresh (zJ _)
 refine⟨.ref s1.heap.objs.size,upd H1 s1.heap.objs.size (.lst xs),I1.laid (t':=s1.toks) (fun b u e=>qx _ e) (zJ _) ?_,rfl,q _ hf⟩
 exact⟨z,us,0,r,qD _ rfl⟩
end
abbrev Sp:=List V->Hp->VK->XK->Prop
abbrev CXT:=List Env->Hp->Shared->XK->Value->Shared->Prop
structure ze3(P:Program)(w:World)(K:PySem.W.Frag)(mg:Str->Option Value)(base:Heap)(A:Around)(outer:List Env)(s:Shared)(H:Hp):Prop where
 frames:A.frames=some outer
 mod:Mod K mg base
 bs:∀b o,base.get? b=some o->s.heap.get? b=some o/\H b=none
 bsz:base.objs.size<=s.heap.objs.size
 funs:s.heap.FunFrames base outer
 frf:∀b∈frs outer,H b=none
 hok:HOk P w H s.heap
 bare:AllBare s.gens
def CE(outer:List Env)(P:Program)(w:World)(H:Hp)(s:Shared)(Q:VK)(u:Value)(s':Shared):Prop:=
 ∃v H',s'.os=s.os/\AllBare s'.gens/\Un (frs outer) [] H H' s.heap s'.heap/\HOk P w H' s'.heap/\RelV v u/\Q v H'
def CR(CX:CXT)(outer:List Env)(P:Program)(w:World)(H:Hp)(s:Shared)(Q:VK)(E:XK)(r:Result)(s':Shared):Prop:=
 match r with
 | .ok (.ret u)=>CE outer P w H s Q u s'
 | .ok _=>False
 | .error e=>CX outer H s E e s'
structure qH(P:Program)(w:World)(K:PySem.W.Frag)(mg:Str->Option Value)(base:Heap)(CX:CXT)(k:Nat)(f:Addr)(fd:FuncData)(ps:List Str)(sp:Sp):Prop where
 len:∀vs H Q E,sp vs H Q E->vs.length=ps.length
 run:∀(A:Around) (outer:List Env) (s:Shared) (H:Hp) (args:Args) (us:List Value) (vs:List V) (Q:VK) (E:XK),Room k A->ze3 P w K mg base A outer s H->BindsTo s fd args (ps.zip us)->Vals vs us->sp vs H Q E ->
  codeAny (model P w) A (.call (.ref f) args) (CR CX outer P w H s Q E) s
section
variable{X:Cx}{pins:List (Addr×Obj)}{σ:St}{H:Hp}{s s':Shared}
theorem Inv.env0(I:Inv X pins σ H s):ze3 X.prog X.w X.K X.mg X.base X.A X.stack s H:=
 ⟨I.ok.frames,I.ok.mod,I.bs,ja I.ok.bsz I.sz,I.stack,I.stkFree,I.hok,I.bare⟩
theorem Inv.after{Q:VK}{u:Value}(I:Inv X pins σ H s)(h:CE X.stack X.prog X.w H s Q u s'):EP X pins σ Q u s':=by
 obtain⟨v,H',os,bare,un,hok,r,q⟩:=h
 obtain⟨hh,g,d,t,os'⟩:=s'
 obtain rfl:os'=s.os:=os
 exact⟨v,H',I.call (h':=hh) (g':=g) (d':=d) (t':=t) (ch:=[]) un hok bare (fun b z=>absurd z (by simp)),r,q⟩
end
def ze5(sp:Sp)(dvs:List V)(E:XK)(t:TA):TE:=fun σ H Q=>t σ H fun vs H1=>sp (vs++dvs) H1 Q E
def Binds(K:PySem.W.Frag)(fd:FuncData)(ps:List Str)(ds:List Value):Prop:=
 ∀(s:Shared) (us:List Value),K.In s.heap->(us++ds).length=ps.length->BindsTo s fd ⟨us,[]⟩ (ps.zip (us++ds))
theorem Binds.all{K:PySem.W.Frag}{fd:FuncData}{ps:List Str}(h:∀us:List Value,us.length=ps.length->bindArgs fd ⟨us,[]⟩=pure (ps.zip us)):Binds K fd ps []:=fun s us _ hl=>by
 rw[qK] at hl ⊢
 exact .of_eq (h us hl)
def YD(CX:CXT)(X:Cx)(E:XK):Prop:=∀(pins:List (Addr×Obj)) (σ:St) (H:Hp) (s:Shared) (e:Value) (s':Shared),Inv X pins σ H s->CX X.stack H s E e s'->X.xe e s'
section
variable{X:Cx}{CX:CXT}{k:Nat}{f C:Addr}{fd:FuncData}{ps:List Str}{sp:Sp}{dvs:List V}{ds:List Value}{E:XK}{x m:Str}{p pos apos:Pos}{e o:Expr}{es:List Expr}{ta:TE}{t:TA}
theorem zfX{pins:List (Addr×Obj)}{σ:St}{H:Hp}{s:Shared}{Q:VK}{us:List Value}{vs:List V}(F:qH X.prog X.w X.K X.mg X.base CX k f fd ps sp)(hr:Room k X.A)(hb:Binds X.K fd ps ds)(hd:Vals dvs ds)(hx:YD CX X E)
  (I:Inv X pins σ H s) (r:Vals vs us) (h:sp (vs++dvs) H Q E):wpAny (model X.prog X.w) X.A (call (.ref f) us) (EP X pins σ Q) X.xe s:=by
 have r2:Vals (vs++dvs) (us++ds):=r.append hd
 have hl:(us++ds).length=ps.length:=by rw[<- r2.length];exact F.len _ _ _ _ h
 refine wpAny_call (codeAny_mono (F.run X.A X.stack s H ⟨us,[]⟩ (us++ds) (vs++dvs) Q E hr I.env0 (hb s us I.kIn hl) r2 h) fun r s' hq=>?_)
 cases r with
 | error e=>exact hx pins σ H s e s' I hq
 | ok fl=>
  cases fl with
  | ret u=>exact I.after hq
  | next=>exact False.elim hq
  | brk=>exact False.elim hq
  | cont=>exact False.elim hq
theorem zej(F:qH X.prog X.w X.K X.mg X.base CX k f fd ps sp)(hr:Room k X.A)(hg:Gl X x)(hm:X.mg x=some (.ref f))(hk:PySem.W.keepIn X.K (.ref f)=true)(hb:Binds X.K fd ps ds)(hd:Vals dvs ds)(hx:YD CX X E)
  (ha:PA X (e::es) t) (hdb:(x==("__debug__" : Str))=false:=by decide) (he:starEach (e::es) X.env=(false,eval e X.env)::starEach es X.env:=by rfl) (hpl:(backTo pos (starEach es X.env)).any (·.1)=false:=by rfl) :
  PE X (.Call (.Name x p) (e::es) [] pos) (ze5 sp dvs E t):=by
 intro pins s σ H Q I h
 refine wpAny_Call_Name_kw (zaC I hg hm ?_ hdb)
 refine PySem.W.callWith_K (h₀:=X.base) I.ok.mod.kin hk (thn (ha pos pins s σ H _ I h) fun us s1 ⟨vs,H1,I1,r,q⟩=>⟨I1.kIn,?_⟩) he hpl
 exact zfX F hr hb hd hx I1 r q
structure Mk(K:PySem.W.Frag)(C f:Addr):Prop where
 makes:PySem.W.makesIn K C=true
 init:PySem.W.findIn K (.ref C) "__init__" = some (some (.ref f))
 fn:PySem.W.isFn K (.ref f)=true
 kp:PySem.W.keepIn K (.ref C)=true
end
section
variable{X:Cx}{CX:CXT}{k:Nat}{f C:Addr}{fd:FuncData}{ps ks:List Str}{sp:Sp}{E:XK}{x m:Str}{p pos apos kpos:Pos}{e o:Expr}{es:List Expr}{kws:List Keyword}{te ta:TE}{t tk:TA}{nm:Option Str}
structure KBinds(K:PySem.W.Frag)(fd:FuncData)(ps ks:List Str)(g:List Value->List Value->List Value)(gV:List V->List V->List V):Prop where
 to:∀(s:Shared) (us ws:List Value),K.In s.heap->(g us ws).length=ps.length->BindsTo s fd ⟨us,ks.zip ws⟩ (ps.zip (g us ws))
 rel:∀{vs:List V} {us:List Value} {zs:List V} {ws:List Value},Vals vs us->Vals zs ws->Vals (gV vs zs) (g us ws)
variable{g:List Value->List Value->List Value}{gV:List V->List V->List V}
end
structure zF(N P:List Str)(sc:Scope):Prop where
 kind:sc.kind=.function
 co:sc.isCoroutine=false
 gen:sc.isGenerator=false
 nd:N.Nodup
 pre:N.take P.length=P
 par:∀x∈P,sc.names.lookup x=some .local\/sc.names.lookup x=some .cell
 nofree:∀y∈sc.names,y.2≠.free
theorem J3{kindOf:Str->Option NameKind}{x:Str}:∀{binds:List (Str×Value)} {m:Str->Option Value},(∀v,(x,v)∉binds)->bindL kindOf binds m x=m x
 | [],_,_=>rfl
 | (n,v)::r,m,h=>by
  unfold bindL
  rw[J3 fun w hw=>h w (jv _ hw)]
  split
  ·have:x≠n:=by rintro rfl;exact h v j8
   simp[this]
  ·rfl
theorem J5{kindOf:Str->Option NameKind}{x:Str}:∀{binds:List (Str×Value)} {m:Str->Option Value},(∀v,(x,v)∉binds)->bindC kindOf binds m x=m x
 | [],_,_=>rfl
 | (n,v)::r,m,h=>by
  unfold bindC
  rw[J5 fun w hw=>h w (jv _ hw)]
  split
  ·rfl
  ·have:x≠n:=by rintro rfl;exact h v j8
   simp[this]
theorem J4{kindOf:Str->Option NameKind}{x:Str}{v:Value}:∀{P:List Str} {vs:List Value} {i:Nat} {m:Str->Option Value},P.Nodup->P[i]? =some x->vs[i]? =some v->kindOf x=some .local ->
  bindL kindOf (P.zip vs) m x=some v
 | [],_,_,_,_,h,_,_=>by simp at h
 | _::_,[],_,_,_,_,h,_=>by simp at h
 | p::P,w::vs,0,m,nd,h1,h2,hk=>by
  simp at h1 h2;subst h1;subst h2
  show bindL kindOf ((p,w)::P.zip vs) m p=_
  unfold bindL
  rw[J3 fun v hv=>(yr.mp nd).1 (Yg hv).1,zH hk]
  simp
 | p::P,w::vs,i+1,m,nd,h1,h2,hk=>by
  show bindL kindOf ((p,w)::P.zip vs) m x=_
  unfold bindL
  exact J4 (i:=i) (yr.mp nd).2 (by simpa using h1) (by simpa using h2) hk
theorem J6{kindOf:Str->Option NameKind}{x:Str}{v:Value}:∀{P:List Str} {vs:List Value} {i:Nat} {m:Str->Option Value},P.Nodup->P[i]? =some x->vs[i]? =some v->kindOf x≠some .local ->
  bindC kindOf (P.zip vs) m x=some v
 | [],_,_,_,_,h,_,_=>by simp at h
 | _::_,[],_,_,_,_,h,_=>by simp at h
 | p::P,w::vs,0,m,nd,h1,h2,hk=>by
  simp at h1 h2;subst h1;subst h2
  show bindC kindOf ((p,w)::P.zip vs) m p=_
  unfold bindC
  rw[J5 fun v hv=>(yr.mp nd).1 (Yg hv).1,zx hk]
  simp
 | p::P,w::vs,i+1,m,nd,h1,h2,hk=>by
  show bindC kindOf ((p,w)::P.zip vs) m x=_
  unfold bindC
  exact J6 (i:=i) (yr.mp nd).2 (by simpa using h1) (by simpa using h2) hk
def ZA(N:List Str)(vs:List V):St:=vs.map some++List.replicate (N.length-vs.length) none
def Wg(CX:CXT)(P:Program)(w:World)(K:PySem.W.Frag)(mg:Str->Option Value)(base:Heap)(N:List Str)(qual:Str)(scope:Scope)(f:Addr)(cd:Value)(A:Around)(outer:List Env)(s:Shared)(H:Hp)(E:XK):Cx where
 prog:=P
 w:=w
 K:=K
 mg:=mg
 base:=base
 A:=A.deeper (envOfC qual scope s.heap.objs.size f cd)
 N:=N
 s₀:=s
 H₀:=H
 env:=envOfC qual scope s.heap.objs.size f cd
 outer:=outer
 stack:=envOfC qual scope s.heap.objs.size f cd::outer
 ex:=[]
 calm:=true
 fn:=fun _=>true
 pn:=[]
 xe:=fun e s'=>wpAny (model P w) (A.deeper (envOfC qual scope s.heap.objs.size f cd)) (leaving (envOfC qual scope s.heap.objs.size f cd) e) (fun _ s''=>CX outer H s E e s'') (fun e' s''=>CX outer H s E e' s'') s'
theorem Wj{sc:Scope}{n:Nat}{x:Str}(h:sc.names.lookup x=some .cell):∃c,(cellsFrom n sc.names []).lookup x=some c:=by
 have q:=PySem.W.cellsFrom_some sc.names n [] (.inl h)
 exact Option.isSome_iff_exists.mp q
theorem zbI{CX:CXT}{P:Program}{w:World}{K:PySem.W.Frag}{mg:Str->Option Value}{base:Heap}{N ps:List Str}{qual:Str}{scope:Scope}{f:Addr}{cd:Value}{A:Around}{outer:List Env}{s s1:Shared}{H:Hp}{E:XK}{us:List Value}{vs:List V}
  (S:zF N ps scope) (hd:A.handled=none) (e0:ze3 P w K mg base A outer s H) (hl:vs.length=ps.length) (r:Vals vs us)
  (x:InCallC s s.heap.objs.size (bindL (envOfC qual scope s.heap.objs.size f cd).kindOf (ps.zip us) fun _=>none) (cellsFrom (s.heap.objs.size+1) scope.names []) (bindC (envOfC qual scope s.heap.objs.size f cd).kindOf (ps.zip us) fun _=>none) s1) :
  Inv (Wg CX P w K mg base N qual scope f cd A outer s H E) [] (ZA N vs) H s1:=by
 have hpl:ps.length<=N.length:=by have:=congrArg List.length S.pre;rw[qR] at this;omega
 obtain⟨h1,tk,rfl,hk⟩:=x.done
 have noA:∀b:Addr,b∉(Wg CX P w K mg base N qual scope f cd A outer s H E).ex:=fun b z=>absurd (show b∈([]:List Addr) from z) (by simp)
 refine⟨⟨e0.mod,S.kind,rfl,rfl,zJ _,fun y z c h1 h2=>?_,fun y hy=>?_,fun y c _ h=>?_,fun _=>hd,Around.frames_deeper e0.frames,.inr ⟨rfl,rfl⟩,fun b z=>absurd z (noA b),e0.bs,e0.bsz,fun b _ _=>noA b,fun b z=>absurd z (noA b),e0.funs,e0.frf⟩,
  rfl,e0.bare,Un.kept hk,⟨_,x.toInCall.ns,fun i y v h1 h2 h3=>?_⟩,fun y c h=>⟨_,x.cell y c h⟩,e0.hok.fresh (zJ _),fun y c h=>?_,fun p hp=>absurd (show p∈([]:List (Addr×Obj)) from hp) (by simp),e0.hok.kept hk,?_⟩
 ·exact name_of_addr x.apart (ya h1) (ya h2)
 ·have hy:scope.names.lookup y=some .cell\/scope.names.lookup y=some .free:=hy
  rcases hy with hy | hy
  ·exact Wj hy
  ·exact absurd rfl (S.nofree _ (ya hy))
 ·exact yo (x.above y c (ya h))
 ·have hi:i<vs.length:=by
   unfold ZA at h2
   by_cases hi:i<vs.length
   ·exact hi
   ·rw[wA (by simpa using hi)] at h2
    rw[List.getElem?_replicate] at h2
    split at h2<;>cases h2
  have ha:vs[i]? =some v:=by
   unfold ZA at h2
   rw[wz (by simpa using hi),qr] at h2
   cases e:vs[i]? with
   | none=>rw[e] at h2;cases h2
   | some a=>rw[e] at h2;cases h2;rfl
  obtain⟨u,hu,rv⟩:=r.get ha
  have hp:ps[i]? =some y:=by
   rw[<- S.pre,List.getElem?_take_of_lt (by omega)];exact h1
  have ndP:ps.Nodup:=by rw[<- S.pre];exact S.nd.sublist (List.take_sublist _ _)
  refine⟨u,rv,?_⟩
  rcases S.par y (qU hp) with k | k
  ·exact .inl ⟨k,J4 ndP hp hu k⟩
  ·obtain⟨c,e⟩:=Wj (n:=s.heap.objs.size+1) k
   refine .inr ⟨.inl k,c,e,?_⟩
   have q:=x.cell y c e
   rw[J6 ndP hp hu (by show scope.names.lookup y≠_;rw[k];decide)] at q
   exact q
 ·exact e0.hok.fresh (yo (x.above y c (ya h)))
 ·unfold ZA
  show _=N.length
  rw[zV,zq,Vc]
  omega
theorem zhR{CX:CXT}{P:Program}{w:World}{K:PySem.W.Frag}{mg:Str->Option Value}{base:Heap}{k:Nat}{f:Addr}{name qual:Str}{params:Arguments}{body:List Stmt}{scope:Scope}{dV kV doc pm cdv ct oc:Value}{an od:Option Addr}
  {osl:Array (Option Value)} {N ps:List Str} {sp:Sp} (lk:K.lookup f=some ⟨oc,od,.func (PySem.W.fnOf name qual params body scope dV kV doc pm an cdv ct),osl⟩) (hcd:PySem.W.codeIn K cdv qual=true) (S:zF N ps scope)
  (len:∀vs H Q E,sp vs H Q E->vs.length=ps.length)
  (hbody:∀(A:Around) (outer:List Env) (s:Shared) (H:Hp) (vs:List V) (Q:VK) (E:XK),Room k (A.deeper (envOfC qual scope s.heap.objs.size f cdv))->sp vs H Q E ->
   ∃t,PSs (Wg CX P w K mg base N qual scope f cdv A outer s H E) body t/\t { nx:=fun _ H'=>Q .non H',rt:=Q } (ZA N vs) H) :
  qH P w K mg base CX (k+1) f (PySem.W.fnOf name qual params body scope dV kV doc pm an cdv ct) ps sp:=by
 refine⟨len,fun A outer s H args us vs Q E hr e0 hb r hsp=>?_⟩
 have hl:=len _ _ _ _ hsp
 have KX:K.In s.heap:=e0.mod.kin.keeps fun b o e=>(e0.bs b o e).1
 have lim:s.heap.NoLimit:=e0.mod.nolimit.keeps fun b o e=>(e0.bs b o e).1
 have hkind:∀y∈ps.zip us,scope.names.lookup y.1=some .local\/(scope.names.lookup y.1=some .cell/\((cellsFrom (s.heap.objs.size+1) scope.names []).lookup y.1).isSome=true):=fun ⟨n,v⟩ hy=>by
  rcases S.par n (Yg hy).1 with q | q
  ·exact .inl q
  ·exact .inr ⟨q,PySem.W.cellsFrom_some _ _ _ (.inl q)⟩
 refine codeAny_call_function hr.depth (KX _ _ lk) rfl S.co S.gen rfl (PySem.W.codeRec_of KX hcd) (hb _ _ _ _ ?_)
 refine wpAny_newFunctionEnv_cells S.kind hkind fun env he s1 x=>?_
 subst he
 refine⟨lim.keeps x.toInCall.keep,codeAny_func ?_⟩
 obtain⟨t,ht,hq⟩:=hbody A outer s H vs Q E (hr.deeper _) hsp
 have I:Inv (Wg CX P w K mg base N qual scope f cdv A outer s H E) [] (ZA N vs) H s1:=zbI S hr.hd e0 hl r x
 refine xZ (ht [] s1 (ZA N vs) H _ I hq) (fun fl s' hs=>?_) fun e s' hs=>hs
 have fin:∀{σ':St} {H':Hp} {v:V} {u:Value},Inv (Wg CX P w K mg base N qual scope f cdv A outer s H E) [] σ' H' s'->RelV v u->Q v H'->CE outer P w H s Q u s':=
  fun {σ' H' v u} J rv q=>⟨v,H',J.os,J.bare,J.base,J.hok,rv,q⟩
 cases fl with
 | ret u=>
  obtain⟨v,σ',H',J,rv,q⟩:=hs
  exact fin J rv q
 | next=>
  obtain⟨σ',H',J,q⟩:=hs
  exact fin (v:=V.non) (u:=Value.none) J rfl q
 | brk=>
  obtain⟨_,_,_,q⟩:=hs
  exact False.elim q
 | cont=>
  obtain⟨_,_,_,q⟩:=hs
  exact False.elim q
section
variable{X:Cx}{x:Str}{p pos:Pos}{e:Expr}{es:List Expr}{t:TA}{id T:String}{r:List V->Hp->VK->Prop}
def tCB(r:List V->Hp->VK->Prop)(t:TA):TE:=fun σ H Q=>t σ H fun vs H1=>r vs H1 Q
theorem zp(hc:CallR X (.builtin id) r)(hg:Gl X x)(hm:X.mg x=none)(hv:bootBuiltins x=some (.builtin id))(ha:PA X (e::es) t)(hn:x ≠ "__name__" :=by decide)(hdb:(x==("__debug__" : Str))=false:=by decide)
  (he:starEach (e::es) X.env=(false,eval e X.env)::starEach es X.env:=by rfl) (hpl:(backTo pos (starEach es X.env)).any (·.1)=false:=by rfl):PE X (.Call (.Name x p) (e::es) [] pos) (tCB r t):=by
 intro pins s σ H Q I h
 refine wpAny_Call_Name_kw (vC I hg hm hv ?_ hn hdb)
 exact PyProof.Rows.callWith_builtin1 (thn (ha pos pins s σ H _ I h) fun us s1 ⟨vs,H1,I1,r1,q1⟩=>hc pins s1 σ H1 vs us Q I1 r1 q1) he hpl
theorem qA(hc:CallR X (.type T) r)(hg:Gl X x)(hm:X.mg x=none)(hv:bootBuiltins x=some (.type T))(ha:PA X (e::es) t)(hn:x ≠ "__name__" :=by decide)(hdb:(x==("__debug__" : Str))=false:=by decide)
  (he:starEach (e::es) X.env=(false,eval e X.env)::starEach es X.env:=by rfl) (hpl:(backTo pos (starEach es X.env)).any (·.1)=false:=by rfl):PE X (.Call (.Name x p) (e::es) [] pos) (tCB r t):=by
 intro pins s σ H Q I h
 refine wpAny_Call_Name_kw (vC I hg hm hv ?_ hn hdb)
 exact QW (thn (ha pos pins s σ H _ I h) fun us s1 ⟨vs,H1,I1,r1,q1⟩=>hc pins s1 σ H1 vs us Q I1 r1 q1) he hpl
end
end L2
namespace HT
open PySem PyProof.Rows
section
open PySem.SeqAt
open PySem.AutoSeq1 (wpAny_loadPart')
open PySem.MeetsSeq PySem.MeetsSeq2 PySem.MeetsSeq3
end
section
variable{prog:Program}{w:World}{A:Around}{E:Value->Shared->Prop}{s:Shared}
theorem cat_tup{t b:Addr}{vs ws:List Value}{Q:Value->Shared->Prop}(ht:IsTup s.heap t vs.toArray)(hb:IsTup s.heap b ws.toArray)(hv:vs≠[])
  (h1:ws=[]->Q (.ref t) s) (h2:ws≠[]->Q (.ref s.heap.objs.size) { s with heap:=s.heap.push { cls:=.type "tuple",data:=.seq (vs++ws).toArray } })
  (hsz:vs.length+ws.length<=sizeLine):wpAny (model prog w) A (binaryOp .Add (.ref t) (.ref b)) Q E s:=by
 obtain⟨⟨cls,dd,data,sl⟩,ho,hc,n,hd⟩:=id ht
 obtain⟨⟨cls2,dd2,data2,sl2⟩,ho2,hc2,n2,hd2⟩:=id hb
 simp only at hc hd hc2 hd2
 subst hc hd hc2 hd2
 have e:vs.toArray++ws.toArray=(vs++ws).toArray:=by simp
 by_cases hw:ws=[]
 ·exact concat_meets ⟨_,ho,rfl⟩ ⟨_,ho2,rfl⟩ noFill_tuple_add seq_tuple_add PySem.F.slot_tuple_add PySem.F.entry_tuple_add (PySem.F.args_tuple_add_2 _ _)
   (tuple_addW1 t b vs.toArray ws.toArray n n2 dd dd2 sl sl2 (by simpa using hv) (by simp[hw])) ⟨ho,ho2,h1 hw⟩
 ·refine concat_meets ⟨_,ho,rfl⟩ ⟨_,ho2,rfl⟩ noFill_tuple_add seq_tuple_add PySem.F.slot_tuple_add PySem.F.entry_tuple_add (PySem.F.args_tuple_add_2 _ _)
   (tuple_addW2 t b vs.toArray ws.toArray n n2 dd dd2 sl sl2 (by simpa using hv) (by simpa using hw) (by rw[qv,qv];exact hsz)) ⟨ho,ho2,?_⟩
  rw[e]
  exact h2 hw
def sIx(n d:Nat):Option Int->Nat
 | none=>d
 | some v=>if v<0 then(v+(n:Int)).toNat else min v.toNat n
theorem sIx_none(n d:Nat):sIx n d none=d:=rfl
theorem sIx_nat(n d k:Nat):sIx n d (some (k:Int))=min k n:=by
 show(if(k:Int)<0 then((k:Int)+(n:Int)).toNat else min (k:Int).toNat n)=min k n
 rw[zx (by omega),vf]
end
end HT
namespace L2
open PySem PySem.Spec PyProof.Rows
abbrev TO:=St->Hp->(Option Int->Hp->Prop)->Prop
def PO(X:Cx)(e:Option Expr)(t:TO):Prop:=
 ∀(pins:List (Addr×Obj)) (s:Shared) (σ:St) (H:Hp) (Q:Option Int->Hp->Prop),Inv X pins σ H s->t σ H Q ->
  wpAny (model X.prog X.w) X.A (evalPart e X.env) (fun u s'=>∃o H',Inv X pins σ H' s'/\IsPart u o/\Q o H') X.xe s
def zd0:TO:=fun _ H Q=>Q none H
def zg4(t:TE):TO:=fun σ H Q=>t σ H fun x H1=>IsI x H1 fun i H1=>Q (some i) H1
theorem W0{ns:List Int}:∀{us:List Value},Vals (ns.map V.int) us->IntsAre us ns:=by
 induction ns with
 | nil=>intro us r;rw[XU] at r;cases r;exact .nil
 | cons n ns ih=>
  intro us r
  rw[xx] at r
  cases r with
  | cons r1 r2=>
   obtain⟨t,e⟩:=r1
   subst e
   exact .cons n t (ih r2)
section
variable{X:Cx}{e:Expr}{te:TE}{lo hi:Option Expr}{tl th:TO}{pos p2:Pos}
theorem xK:PO X none zd0:=by
 intro pins s σ H Q I h
 rw[evalPart_none]
 exact zD ⟨none,H,I,.none,h⟩
theorem jz(h:PE X e te):PO X (some e) (zg4 te):=by
 intro pins s σ H Q I hw
 rw[evalPart_some]
 refine thn (h pins s σ H _ I hw) fun u s1 ⟨x,H1,I1,r1,q1⟩=>?_
 obtain⟨i,rfl,q⟩:=q1
 obtain⟨t,rfl⟩:=r1
 exact⟨some i,H1,I1,.int i t,q⟩
def SlR(X:Cx)(r:V->Option Int->Option Int->Hp->VK->Prop):Prop:=
 ∀(pins:List (Addr×Obj)) (s:Shared) (σ:St) (H:Hp) (x:V) (v vl vu:Value) (lo hi:Option Int) (sl:Addr) (Q:VK),Inv X pins σ H s->RelV x v->s.heap.IsSliceOf sl vl vu .none->IsPart vl lo->IsPart vu hi->r x lo hi H Q ->
  ∃T id,typeLookup (.type T) "__getitem__" = pure (some (.builtin id))/\s.TypeIs v T/\wpAny (model X.prog X.w) X.A (getItem v (.ref sl)) (EP X pins σ Q) X.xe s
theorem SlR.or{r r':V->Option Int->Option Int->Hp->VK->Prop}(h:SlR X r)(h':SlR X r'):SlR X (fun x lo hi H Q=>r x lo hi H Q\/r' x lo hi H Q):=by
 intro pins s σ H x v vl vu lo hi sl Q I rx hs pl pu q
 rcases q with q | q
 ·exact h pins s σ H x v vl vu lo hi sl Q I rx hs pl pu q
 ·exact h' pins s σ H x v vl vu lo hi sl Q I rx hs pl pu q
def tSl(r:V->Option Int->Option Int->Hp->VK->Prop)(te:TE)(tl th:TO):TE:=fun σ H Q=>te σ H fun x H1=>tl σ H1 fun l H2=>th σ H2 fun u H3=>r x l u H3 Q
theorem jK{r:V->Option Int->Option Int->Hp->VK->Prop}(hr:SlR X r)(he:PE X e te)(hl:PO X lo tl)(hu:PO X hi th):PE X (.Subscript e (.Slice lo hi none p2) pos) (tSl r te tl th):=by
 intro pins s σ H Q I h
 refine Subscript_ (thn (he pins s σ H _ I h) fun v s1 ⟨x,H1,I1,r1,q1⟩=>?_)
 refine wpAny_Slice (thn (hl pins s1 σ H1 _ I1 q1) fun vl s2 ⟨l,H2,I2,pl,q2⟩=>thn (hu pins s2 σ H2 _ I2 q2) fun vu s3 ⟨u,H3,I3,pu,q3⟩=>?_)
 rw[evalPart_none]
 refine zD ?_
 have I4:Inv X pins σ H3 { s3 with heap:=s3.heap.push { cls:=.type "slice",data:=.fields #[vl,vu,.none] } }:=I3.kept (t':=s3.toks) fun b ob q=>qx _ q
 obtain⟨T,id,hT,ht,hg⟩:=hr pins { s3 with heap:=s3.heap.push { cls:=.type "slice",data:=.fields #[vl,vu,.none] } } σ H3 x v vl vu l u s3.heap.objs.size Q I4 r1 (Heap.IsSliceOf.new ..) pl pu q3
 show wpAny (model X.prog X.w) X.A (subscriptTail e (.Slice lo hi none p2) v (.ref s3.heap.objs.size)) (EP X pins σ Q) X.xe { s3 with heap:=s3.heap.push { cls:=.type "slice",data:=.fields #[vl,vu,.none] } }
 exact tail_any (ops:=[.ref s3.heap.objs.size,v]) ht hT hg (by with_unfolding_all rfl)
def jB(xs:List V)(lo hi:Option Int):List V:=(xs.drop (HT.sIx xs.length 0 lo)).take (HT.sIx xs.length xs.length hi-HT.sIx xs.length 0 lo)
theorem Wi(xs:List V)(lo hi:Option Int):(jB xs lo hi).length<=xs.length:=by
 unfold jB
 rw[qR,yW]
 omega
inductive zfy(K:PySem.W.Frag)(x:V)(y:V)(H:Hp)(Q:VK):Prop
 | mk (a b xs ys:_) (_:x=.ref a) (_:y=.ref b) (_:SqT K H a xs) (_:SqT K H b ys) (_:xs≠[]) (_:xs.length+ys.length<=sizeLine) (_:(ys=[]->Q (.ref a) H)) (_:(ys≠[]->∀p,H p=none->Q (.ref p) (upd H p (.tup (xs++ys))))):zfy K x y H Q
theorem Vals.nil_iff{xs:List V}{us:List Value}(r:Vals xs us):us=[]↔xs=[]:=by
 cases r with
 | nil=>simp
 | cons _ _=>simp
theorem zem:OpR X (binaryOp .Add) (zfy X.K):=by
 intro pins s σ H x y v u Q I rx ry h
 obtain⟨a,b,xs,ys,rfl,rfl,ha,hb,hx,hz,q1,q2⟩:=h
 cases rx
 cases ry
 obtain⟨its,r1,p1,_⟩:=I.tuple ha
 obtain⟨its2,r2,p2,_⟩:=I.tuple hb
 refine HT.cat_tup p1 p2 (fun z=>hx (r1.nil_iff.mp z)) (fun z=>⟨.ref a,H,I,rfl,q1 (r2.nil_iff.mp z)⟩) (fun z=>?_) (by rw[<- r1.length,<- r2.length];exact hz)
 refine⟨.ref s.heap.objs.size,_,I.laid (t':=s.toks) (o:=.tup (xs++ys)) (fun b ob q=>qx _ q) (zJ _) ?_,rfl,q2 (fun w=>z (r2.nil_iff.mpr w)) _ (I.hok.fresh (zJ _))⟩
 exact⟨by rw[zV];exact hz,_,r1.append r2,⟨IsTup.new _ _,_,qD _ rfl,rfl⟩⟩
end
def ixN(n:Nat)(i:Int):Option Nat:=if 0<=i then(if i<n then some i.toNat else none) else if -(n:Int)<=i then some (i+n).toNat else none
def atI{α:Type}(xs:List α)(i:Int):Option α:=(ixN xs.length i).bind fun j=>xs[j]?
theorem zaG{n:Nat}{i:Int}{j:Nat}(h:ixN n i=some j):seqIndex? i n=some j/\j<n/\ -(n:Int)<=i/\i<n:=by
 unfold ixN at h
 by_cases h0:0<=i
 ·rw[zH h0] at h
  by_cases h1:i<n
  ·rw[zH h1] at h
   have e:i.toNat=j:=jT h
   exact⟨by rw[seqIndex_of h0 h1,e],by omega,by omega,h1⟩
  ·rw[zx h1] at h;cases h
 ·rw[zx h0] at h
  by_cases h1:-(n:Int)<=i
  ·rw[zH h1] at h
   have e:(i+n).toNat=j:=jT h
   exact⟨by rw[seqIndex_neg (by omega) h1,e],by omega,h1,by omega⟩
  ·rw[zx h1] at h;cases h
theorem XQ{α:Type}{xs:List α}{i:Int}{v:α}(h:atI xs i=some v):∃j,seqIndex? i xs.length=some j/\xs[j]? =some v/\j<xs.length/\ -(xs.length:Int)<=i/\i<xs.length:=by
 unfold atI at h
 cases e:ixN xs.length i with
 | none=>rw[e] at h;cases h
 | some j=>
  rw[e] at h
  obtain⟨h1,h2,h3,h4⟩:=zaG e
  exact⟨j,h1,h,h2,h3,h4⟩
theorem qk{α:Type}{xs:List α}{j:Nat}{v:α}(h:xs[j]? =some v):atI xs (j:Int)=some v:=by
 have hj:j<xs.length:=(zW.mp h).1
 have e:ixN xs.length (j:Int)=some j:=by
  unfold ixN
  rw[zH (by omega),zH (by omega)];simp
 unfold atI;rw[e];exact h
theorem zdK{α:Type}(xs:List α)(v:α):atI (xs++[v]) (-1)=some v:=by
 have hl:(xs++[v]).length=xs.length+1:=by simp
 have e:ixN (xs++[v]).length (-1)=some xs.length:=by
  unfold ixN
  rw[hl,zx (by decide),zH (by omega)]
  congr 1
  omega
 unfold atI
 rw[e]
 show(xs++[v])[xs.length]? =some v
 simp
def ze1(b:Expr):Prop:=∀o i,subscripted b false o i=operate [o,i] (getItem o i)
def IxR(X:Cx)(r:R2):Prop:=
 ∀(value slice:Expr) (pins:List (Addr×Obj)) (s:Shared) (σ:St) (H:Hp) (x y:V) (v u:Value) (Q:VK),Inv X pins σ H s->RelV x v->RelV y u->r x y H Q ->
  subscripted slice false v u=operate [v,u] (getItem v u)->wpAny (model X.prog X.w) X.A (subscriptTail value slice v u) (EP X pins σ Q) X.xe s
def MtR(X:Cx)(id:String)(r:V->List V->Hp->VK->Prop):Prop:=
 ∀(pins:List (Addr×Obj)) (s:Shared) (σ:St) (H:Hp) (x:V) (xs:List V) (v:Value) (us:List Value) (Q:VK),Inv X pins σ H s->RelV x v->Vals xs us->r x xs H Q ->
  wpAny (model X.prog X.w) X.A (call (.builtin id) (v::us)) (EP X pins σ Q) X.xe s
section
variable{X:Cx}{a b:Expr}{ta tb:TE}{pos:Pos}
theorem IxR.or{r r':R2}(h:IxR X r)(h':IxR X r'):IxR X (fun x y H Q=>r x y H Q\/r' x y H Q):=by
 intro value slice pins s σ H x y v u Q I rx ry q hs
 rcases q with q | q
 ·exact h value slice pins s σ H x y v u Q I rx ry q hs
 ·exact h' value slice pins s σ H x y v u Q I rx ry q hs
theorem MtR.or{id:String}{r r':V->List V->Hp->VK->Prop}(h:MtR X id r)(h':MtR X id r'):MtR X id (fun x xs H Q=>r x xs H Q\/r' x xs H Q):=by
 intro pins s σ H x xs v us Q I rx rs q
 rcases q with q | q
 ·exact h pins s σ H x xs v us Q I rx rs q
 ·exact h' pins s σ H x xs v us Q I rx rs q
theorem zu{r:R2}(hr:IxR X r)(ha:PE X a ta)(hb:PE X b tb)(hs:ze1 b):PE X (.Subscript a b pos) (tOp r ta tb):=by
 intro pins s σ H Q I h
 exact Subscript_ (zgV ha hb I h fun v u s2 x y H2 I2 rx ry q=>hr a b pins s2 σ H2 x y v u Q I2 rx ry q (hs _ _))
inductive zeb(K:PySem.W.Frag)(x:V)(y:V)(H:Hp)(Q:VK):Prop
 | mk (p xs i v:_) (_:x=.ref p) (_:y=.int i) (_:SqL K H p xs) (_:atI xs i=some v) (_:Q v H):zeb K x y H Q
inductive zea(K:PySem.W.Frag)(x:V)(y:V)(H:Hp)(Q:VK):Prop
 | mk (p xs i v:_) (_:x=.ref p) (_:y=.int i) (_:SqT K H p xs) (_:atI xs i=some v) (_:Q v H):zea K x y H Q
inductive zf3(x:V)(y:V)(H:Hp)(Q:VK):Prop
 | mk (z i c:_) (_:x=.str z) (_:y=.int i) (_:z.length<=sizeLine) (_:atI z.cps.toList i=some c) (_:Q (.str ⟨#[c]⟩) H):zf3  x y H Q
theorem zS:IxR X (zeb X.K):=by
 intro value slice pins s σ H x y v u Q I rx ry h hs
 obtain⟨p,xs,i,z,rfl,rfl,hq,he,q⟩:=h
 cases rx
 obtain⟨t,rfl⟩:=ry
 obtain⟨its,r,pl,hz⟩:=I.list hq
 obtain⟨j,h1,h2,h3,h4,h5⟩:=XQ he
 obtain⟨w,ew,rw'⟩:=r.get h2
 have hl:=r.length
 have hn:=Qw
 have fin:EP X pins σ Q w s:=⟨z,H,I,rw',q⟩
 by_cases h0:0<=i
 ·have hj:i.toNat=j:=by
   rw[seqIndex_of h0 h5] at h1
   exact jT h1
  exact item_listR pl.isList h0 (by omega) (by rw[hj];simpa using ew) fin hs
 ·have hj:(i+(its.toArray.size:Int)).toNat=j:=by
   rw[seqIndex_neg (by omega) h4] at h1
   rw[qv,<- hl]
   exact jT h1
  exact subscriptTail_builtinR (x:=w) pl.isList.typeIs slot_list_getitem.lookup
   (wpAny_getItem_list_neg (Q:=fun r s'=>r=w/\EP X pins σ Q r s') pl.isList (by omega) (by rw[qv]<;>omega) (by omega) (by rw[hj];simpa using ew) ⟨rfl,fin⟩) hs
theorem qc:IxR X (zea X.K):=by
 intro value slice pins s σ H x y v u Q I rx ry h hs
 obtain⟨p,xs,i,z,rfl,rfl,hq,he,q⟩:=h
 cases rx
 obtain⟨t,rfl⟩:=ry
 obtain⟨its,r,pl,hz⟩:=I.tuple hq
 obtain⟨j,h1,h2,h3,h4,h5⟩:=XQ he
 obtain⟨w,ew,rw'⟩:=r.get h2
 have hl:=r.length
 have hn:=Qw
 have fin:EP X pins σ Q w s:=⟨z,H,I,rw',q⟩
 exact subscriptTail_builtinR (x:=w) pl.typeIs slot_tuple_getitem.lookup
  (getItem_tuple (j:=j) (Q:=fun r s'=>r=w/\EP X pins σ Q r s') pl (by omega) (by omega) (by rw[qv,<- hl];exact h1) (by simpa using ew) ⟨rfl,fin⟩) hs
theorem zdm:IxR X zf3:=by
 intro value slice pins s σ H x y v u Q I rx ry h hs
 obtain⟨z,i,c,rfl,rfl,hz,he,q⟩:=h
 obtain⟨t,rfl⟩:=rx
 obtain⟨t',rfl⟩:=ry
 obtain⟨j,h1,h2,h3,h4,h5⟩:=XQ he
 have hl:z.cps.toList.length=z.length:=by simp[Str.length]
 rw[hl] at h1 h4 h5
 have hn:=Qw
 exact tail_any (typeIs_str s z t) slot_str_getitem.lookup (getItem_str (c:=c) (by
  have e1:decide (i< -(2^63:Int))=false:=xE (by omega)
  have e2:decide (i≥2^63)=false:=xE (by omega)
  rw[e1,e2,Bool.or_false]) (by rw[h1];simpa using h2) ⟨.str ⟨#[c]⟩,H,I.tok _,⟨_,rfl⟩,q⟩) hs
def rIx(K:PySem.W.Frag):R2:=fun x y H Q=>zeb K x y H Q\/zea K x y H Q\/zf3 x y H Q
theorem zgG:IxR X (rIx X.K):=zS.or (qc.or zdm)
theorem WV(its:List Value)(n j:Nat)(u:Value):Obj.mapSeq (·.setIfInBounds j u) { cls:=.type "list",data:=.seq its.toArray n }={ cls:=.type "list",data:=.seq (its.set j u).toArray n }:=by
 simp[Obj.mapSeq]
theorem Inv.lst{pins:List (Addr×Obj)}{σ:St}{H:Hp}{s:Shared}{p:Addr}{xs:List V}(I:Inv X pins σ H s)(h:H p=some (.lst xs)) :
  ∃(its:List Value) (n:Nat),Vals xs its/\s.heap.get? p=some { cls:=.type "list",data:=.seq its.toArray n }/\xs.length<=sizeLine:=by
 obtain⟨z,its,n,r,e⟩:=I.hok p _ h
 exact⟨its,n,r,e,z⟩
theorem Inv.lstUpd{pins:List (Addr×Obj)}{σ:St}{H:Hp}{s:Shared}{p:Addr}{xs ys:List V}{its its':List Value}{n n':Nat}{f:Obj->Obj}(I:Inv X pins σ H s)(h:H p=some (.lst xs))
  (ho:s.heap.get? p=some { cls:=.type "list",data:=.seq its.toArray n }) (hf:f { cls:=.type "list",data:=.seq its.toArray n }={ cls:=.type "list",data:=.seq its'.toArray n' }) (r:Vals ys its') (hz:ys.length<=sizeLine) (t:Nat) :
  Inv X pins σ (upd H p (.lst ys)) { s with heap:=s.heap.update p f,toks:=t }:=by
 have e:(s.heap.update p f).get? p=some { cls:=.type "list",data:=.seq its'.toArray n' }:=by
  rw[QU f ho (by rw[hf]<;>rfl),hf]
 refine I.write (x:=p) (e:=p) (by rw[h];trivial) (.inl rfl) (fun b u hb q=>(Xa _ _ (qy hb)).trans q) ⟨_,e⟩ ?_
 exact⟨hz,its',n',r,e⟩
inductive zfx(o:V)(i:V)(v:V)(H:Hp)(Q:Hp->Prop):Prop
 | mk (p xs k j:_) (_:o=.ref p) (_:i=.int k) (_:H p=some (.lst xs)) (_:ixN xs.length k=some j) (_:Q (upd H p (.lst (xs.set j v)))):zfx  o i v H Q
theorem vF:zhZ X zfx:=by
 intro pins s σ H o i v ov iv u Q I ro ri rv h
 obtain⟨p,xs,k,j,rfl,rfl,hp,hj,q⟩:=h
 cases ro
 obtain⟨t,rfl⟩:=ri
 obtain⟨its,n,r,ho,hz⟩:=I.lst hp
 obtain⟨h1,h2,h3,h4⟩:=zaG hj
 have hl:=r.length
 have hn:=Qw
 have I':Inv X pins σ (upd H p (.lst (xs.set j v))) { s with heap:=s.heap.update p (Obj.mapSeq (·.setIfInBounds j u)) }:=
  I.lstUpd hp ho (WV its n j u) (r.set rv j) (by rw[Ye];exact hz) s.toks
 by_cases h0:0<=k
 ·have hk:k.toNat=j:=by
   rw[seqIndex_of h0 h4] at h1
   exact jT h1
  exact PySem.W.ki_setAt ho h0 (by omega) (by rw[qv,<- hl];exact h4) (by rw[hk];exact⟨_,I',q⟩)
 ·have hk:(k+(its.toArray.size:Int)).toNat=j:=by
   rw[seqIndex_neg (by omega) h3] at h1
   rw[qv,<- hl]
   exact jT h1
  exact PySem.W.ki_setBack ho (by omega) (by rw[qv,<- hl];exact h3) (by omega) (by rw[hk];exact⟨_,I',q⟩)
theorem Xj(lo hi:Option Int)(n:Nat):(sliceBounds lo hi none n).1=((HT.sIx n 0 lo:Nat):Int)/\(sliceBounds lo hi none n).2.1=((HT.sIx n n hi:Nat):Int)/\(sliceBounds lo hi none n).2.2=1:=by
 refine⟨?_,?_,rfl⟩
 ·cases lo with
  | none=>simp[sliceBounds,HT.sIx]
  | some i=>
   simp only[sliceBounds,HT.sIx,Option.getD_none,show(1:Int)>0 by decide,if_true]
   by_cases h:i<0
   ·simp only[h,if_true]<;>omega
   ·simp only[h,if_false]<;>omega
 ·cases hi with
  | none=>simp[sliceBounds,HT.sIx]
  | some i=>
   simp only[sliceBounds,HT.sIx,Option.getD_none,show(1:Int)>0 by decide,if_true]
   by_cases h:i<0
   ·simp only[h,if_true]<;>omega
   ·simp only[h,if_false]<;>omega
theorem Jj(its:List Value)(lo hi:Option Int):slicePick its.toArray lo hi none=((its.drop (HT.sIx its.length 0 lo)).take (HT.sIx its.length its.length hi-HT.sIx its.length 0 lo)).toArray:=by
 obtain⟨h1,h2,h3⟩:=Xj lo hi its.toArray.size
 unfold slicePick
 rw[h1,h2,h3]
 simp only[sliceRange_one,pick_run,qv]<;>rfl
inductive zhp(K:PySem.W.Frag)(x:V)(lo:Option Int)(hi:Option Int)(H:Hp)(Q:VK):Prop
 | mk (a xs:_) (_:x=.ref a) (_:SqL K H a xs) (_:∀p,H p=none->Q (.ref p) (upd H p (.lst (jB xs lo hi)))):zhp K x lo hi H Q
theorem j5:SlR X (zhp X.K):=by
 intro pins s σ H x v vl vu lo hi sl Q I rx hs pl pu h
 obtain⟨a,xs,rfl,hx,q⟩:=h
 cases rx
 obtain⟨its,r,ht,hz⟩:=I.list hx
 have hlen:=r.length
 refine⟨"list",_,slot_list_getitem.lookup,ht.isList.typeIs,?_⟩
 refine wpAny_getItem_list_slice ht.isList hs pl pu .none (by simp) ?_ (by rw[qv]<;>omega)
 rw[Jj,<- hlen]
 refine⟨.ref s.heap.objs.size,_,I.laid (t':=s.toks) (o:=.lst (jB xs lo hi)) (fun b ob q=>qx _ q) (zJ _) ?_,rfl,q _ (I.hok.fresh (zJ _))⟩
 exact⟨ja (Wi xs lo hi) hz,_,0,(r.drop (HT.sIx xs.length 0 lo)).take (HT.sIx xs.length xs.length hi-HT.sIx xs.length 0 lo),qD _ rfl⟩
def xg:V->Bool
 | .non=>true
 | .bl _=>true
 | .int _=>true
 | .str _=>true
 | _=>false
def eqV:V->V->Bool
 | .non,.non=>true
 | .bl a,.bl b=>a==b
 | .bl a,.int b=>(if a then 1 else 0)==b
 | .int a,.bl b=>a==(if b then 1 else 0)
 | .int a,.int b=>a==b
 | .str a,.str b=>a==b
 | _,_=>false
theorem zdz{A:Around}{s:Shared}{y x:V}{u v:Value}(ry:RelV y u)(rx:RelV x v)(fy:xg y=true)(fx:xg x=true):SeqAt.EqAt A s u v (eqV y x):=by
 cases y with
 | non=>
  cases ry
  cases x with
  | non=>cases rx;exact SeqAt.EqAt.same _
  | bl b=>cases rx;exact SeqAt.EqAt.none_bool b
  | int b=>obtain⟨t,rfl⟩:=rx;exact SeqAt.EqAt.none_int b t
  | str b=>obtain⟨t,rfl⟩:=rx;exact SeqAt.EqAt.none_str b t
  | _=>exact absurd (show false=true from fx) qC
 | bl a=>
  cases ry
  cases x with
  | non=>cases rx;exact SeqAt.EqAt.bool_none a
  | bl b=>cases rx;exact SeqAt.EqAt.bool_bool a b
  | int b=>obtain⟨t,rfl⟩:=rx;exact SeqAt.EqAt.bool_int a b t
  | str b=>obtain⟨t,rfl⟩:=rx;exact SeqAt.EqAt.bool_str a b t
  | _=>exact absurd (show false=true from fx) qC
 | int a=>
  obtain⟨t',rfl⟩:=ry
  cases x with
  | non=>cases rx;exact SeqAt.EqAt.int_none a t'
  | bl b=>cases rx;exact SeqAt.EqAt.int_bool a t' b
  | int b=>obtain⟨t,rfl⟩:=rx;exact SeqAt.EqAt.int_int a t' b t
  | str b=>obtain⟨t,rfl⟩:=rx;exact SeqAt.EqAt.int_str a t' b t
  | _=>exact absurd (show false=true from fx) qC
 | str a=>
  obtain⟨t',rfl⟩:=ry
  cases x with
  | non=>cases rx;exact SeqAt.EqAt.str_none a t'
  | bl b=>cases rx;exact SeqAt.EqAt.str_bool a t' b
  | int b=>obtain⟨t,rfl⟩:=rx;exact SeqAt.EqAt.str_int a t' b t
  | str b=>obtain⟨t,rfl⟩:=rx;exact SeqAt.EqAt.str_str a t' b t
  | _=>exact absurd (show false=true from fx) qC
 | _=>exact absurd (show false=true from fy) qC
def eqU(x:V)(u:Value):Bool:=match u with
 | .none=>eqV .non x
 | .bool b=>eqV (.bl b) x
 | .int i _=>eqV (.int i) x
 | .str z _=>eqV (.str z) x
 | _=>false
theorem zdx{x y:V}{u:Value}(r:RelV y u)(f:xg y=true):eqU x u=eqV y x:=by
 cases y with
 | non=>cases r;rfl
 | bl b=>cases r;rfl
 | int i=>obtain⟨t,rfl⟩:=r;rfl
 | str z=>obtain⟨t,rfl⟩:=r;rfl
 | _=>exact absurd (show false=true from f) qC
theorem yT{x:V}:∀{xs:List V} {us:List Value},Vals xs us->xs.all xg=true->us.any (eqU x)=xs.any fun y=>eqV y x
 | _,_,.nil,_=>rfl
 | y::xs,u::us,.cons r t,f=>by
  rw[List.all_cons,jG] at f
  rw[wZ,wZ,zdx r f.1,yT t f.2]
theorem wm{A:Around}{s:Shared}{x:V}{v:Value}(rx:RelV x v)(fx:xg x=true):∀{xs:List V} {us:List Value},Vals xs us->xs.all xg=true->∀u∈us,SeqAt.EqAt A s u v (eqU x u)
 | _,_,.nil,_=>fun u hu=>by cases hu
 | y::xs,u::us,.cons r t,f=>fun u' hu=>by
  rw[List.all_cons,jG] at f
  rcases zZ.mp hu with rfl | hu
  ·rw[zdx r f.1];exact zdz r rx f.1 fx
  ·exact wm rx fx t f.2 u' hu
def inV(x:V)(xs:List V):Bool:=xs.any fun y=>eqV y x
inductive rIn(K:PySem.W.Frag)(neg:Bool)(x:V)(y:V)(H:Hp)(Q:VK):Prop
 | mk (p xs:_) (_:y=.ref p) (_:(SqL K H p xs\/SqT K H p xs)) (_:xg x=true) (_:xs.all xg=true) (_:Q (.bl (if neg then !inV x xs else inV x xs)) H):rIn K neg x y H Q
theorem wI:OpR X (compareOp .In) (rIn X.K false):=by
 intro pins s σ H x y v u Q I rx ry h
 obtain⟨p,xs,rfl,hq,fx,fs,q⟩:=h
 cases ry
 rcases hq with hq | hq
 ·obtain⟨its,r,pl,hz⟩:=I.list hq
  refine SeqAt.in_listAt (eqU x) pl.isList (fun w hw=>wm rx fx r fs w (by simpa using hw)) ⟨.bl _,H,I,rfl,?_⟩
  rw[show its.toArray.any (eqU x)=its.any (eqU x) by simp,yT r fs]
  exact q
 ·obtain⟨its,r,pl,hz⟩:=I.tuple hq
  refine SeqAt.in_tupleAt (eqU x) pl (fun w hw=>wm rx fx r fs w (by simpa using hw)) ⟨.bl _,H,I,rfl,?_⟩
  rw[show its.toArray.any (eqU x)=its.any (eqU x) by simp,yT r fs]
  exact q
theorem Xu:OpR X (compareOp .NotIn) (rIn X.K true):=by
 intro pins s σ H x y v u Q I rx ry h
 obtain⟨p,xs,rfl,hq,fx,fs,q⟩:=h
 cases ry
 rcases hq with hq | hq
 ·obtain⟨its,r,pl,hz⟩:=I.list hq
  refine SeqAt.notIn_listAt (eqU x) pl.isList (fun w hw=>wm rx fx r fs w (by simpa using hw)) ⟨.bl _,H,I,rfl,?_⟩
  rw[show its.toArray.any (eqU x)=its.any (eqU x) by simp,yT r fs]
  exact q
 ·obtain⟨its,r,pl,hz⟩:=I.tuple hq
  refine SeqAt.notIn_tupleAt (eqU x) pl (fun w hw=>wm rx fx r fs w (by simpa using hw)) ⟨.bl _,H,I,rfl,?_⟩
  rw[show its.toArray.any (eqU x)=its.any (eqU x) by simp,yT r fs]
  exact q
inductive vh(K:PySem.W.Frag)(xs:List V)(H:Hp)(Q:VK):Prop
 | mk (p ys:_) (_:xs=[.ref p]) (_:(SqL K H p ys\/SqT K H p ys)) (_:Q (.int ys.length) H):vh K xs H Q
theorem zL:CallR X (.builtin "len") (vh X.K):=by
 intro pins s σ H xs us Q I r h
 obtain⟨p,ys,rfl,hq,q⟩:=h
 obtain⟨u,rfl,rx⟩:=vn r
 cases rx
 have hn:=Qw
 rcases hq with hq | hq
 ·obtain⟨its,r',pl,hz⟩:=I.list hq
  have hlen:=r'.length
  exact Calls.call_len_list pl.isList (by simp only[qv]<;>omega) ⟨.int ys.length,H,I.tok _,⟨s.toks+1,by rw[qv,hlen]⟩,q⟩
 ·obtain⟨its,r',pl,hz⟩:=I.tuple hq
  have hlen:=r'.length
  exact len_tuple pl (by simp only[qv]<;>omega) ⟨.int ys.length,H,I.tok _,⟨s.toks+1,by rw[qv,hlen]⟩,q⟩
theorem CallR.or{f:Value}{r r':List V->Hp->VK->Prop}(h:CallR X f r)(h':CallR X f r'):CallR X f (fun xs H Q=>r xs H Q\/r' xs H Q):=by
 intro pins s σ H xs us Q I rs q
 rcases q with q | q
 ·exact h pins s σ H xs us Q I rs q
 ·exact h' pins s σ H xs us Q I rs q
inductive wF(K:PySem.W.Frag)(xs:List V)(H:Hp)(Q:VK):Prop
 | mk (p ys:_) (_:xs=[.ref p]) (_:(SqL K H p ys\/SqT K H p ys)) (_:∀l,H l=none->Q (.ref l) (upd H l (.lst ys))):wF K xs H Q
theorem vV:CallR X (.type "list") (wF X.K):=by
 intro pins s σ H xs us Q I r h
 obtain⟨p,ys,rfl,hq,q⟩:=h
 obtain⟨u,rfl,rx⟩:=vn r
 cases rx
 have fin:∀(its:List Value),Vals ys its->ys.length<=sizeLine->∀(h':Heap) (c':Nat),(∀b o',s.heap.get? b=some o'->h'.get? b=some o') ->
   h'.get? s.heap.objs.size=some { cls:=.type "list",dict:=none,data:=.seq its.toArray c',slots:=#[] }->EP X pins σ Q (.ref s.heap.objs.size) { s with heap:=h' }:=fun its r' hz h' c' kp e=>
  ⟨.ref s.heap.objs.size,_,I.laid (t':=s.toks) kp (zJ _) (show ObjOk X.prog X.w _ h' _ (.lst ys) from ⟨hz,its,c',r',e⟩),rfl,q _ (I.hok.fresh (zJ _))⟩
 rcases hq with hq | hq
 ·obtain⟨its,r',pl,hz⟩:=I.list hq
  have hlen:=r'.length
  obtain⟨o,ho,hc,n,hd⟩:=pl.isList
  exact call_list_seq p (.inl rfl) ho hc hd (fun h' c' kp e=>fin its r' hz h' c' kp e) (by simp only[qv]<;>omega)
 ·obtain⟨its,r',pl,hz⟩:=I.tuple hq
  have hlen:=r'.length
  obtain⟨o,ho,hc,n,hd⟩:=pl
  exact call_list_seq p (.inr rfl) ho hc hd (fun h' c' kp e=>fin its r' hz h' c' kp e) (by simp only[qv]<;>omega)
inductive v0(K:PySem.W.Frag)(xs:List V)(H:Hp)(Q:VK):Prop
 | mk (p ys:_) (_:xs=[.ref p]) (_:((SqL K H p ys/\∀l,H l=none->Q (.ref l) (upd H l (.tup ys)))\/(SqT K H p ys/\Q (.ref p) H))):v0 K xs H Q
theorem jg:CallR X (.type "tuple") (v0 X.K):=by
 intro pins s σ H xs us Q I r h
 obtain⟨p,ys,rfl,h⟩:=h
 obtain⟨u,rfl,rx⟩:=vn r
 cases rx
 rcases h with ⟨hq,q⟩ | ⟨hq,q⟩
 ·obtain⟨its,r',pl,hz⟩:=I.list hq
  have hlen:=r'.length
  refine call_tuple_list pl.isList (fun h' kp=>?_) (by simp only[qv]<;>omega)
  have I1:Inv X pins σ H { s with heap:=h' }:=I.kept (t':=s.toks) kp
  have I2:Inv X pins σ (upd H h'.objs.size (.tup ys)) { s with heap:=h'.push { cls:=.type "tuple",data:=.seq its.toArray } }:=
   I1.laid (t':=s.toks) (fun b o e=>qx _ e) (zJ _) (show ObjOk X.prog X.w _ _ _ (.tup ys) from ⟨hz,its,r',⟨IsTup.new _ _,_,qD _ rfl,rfl⟩⟩)
  exact⟨.ref h'.objs.size,_,I2,rfl,q _ (I1.hok.fresh (zJ _))⟩
 ·obtain⟨its,r',pl,hz⟩:=I.tuple hq
  exact call_tuple_same pl ⟨.ref p,H,I,rfl,q⟩
def tyV(K:PySem.W.Frag)(T:String)(x:V)(H:Hp):Prop:=match x with
 | .str _=>T = "str"
 | .int _=>T = "int"
 | .ref p=>(T = "list" /\ ∃xs,SqL K H p xs)\/(T = "tuple" /\ ∃o,K.lookup p=some o/\o.cls=.type "tuple" /\ o.dict=none) \/
   (T = "dict" /\ ((∃kvs,H p=some (.dK kvs))\/∃kvs,H p=some (.dT kvs)))\/(T = "set" /\ ∃S n,H p=some (.set S n))
 | _=>False
theorem zb5{pins:List (Addr×Obj)}{σ:St}{H:Hp}{s:Shared}{T:String}{x:V}{v:Value}(I:Inv X pins σ H s)(r:RelV x v)(ty:tyV X.K T x H) :
  s.TypeIs v T/\∀a,v=.ref a->∃ob,s.heap.get? a=some ob/\ob.dict=none:=by
 cases x with
 | str z=>
  obtain⟨t,rfl⟩:=r
  cases(show T = "str" from ty)
  exact⟨typeIs_str s z t,fun _ e=>nomatch e⟩
 | int i=>
  obtain⟨t,rfl⟩:=r
  cases(show T = "int" from ty)
  exact⟨typeIs_int s i t,fun _ e=>nomatch e⟩
 | ref p=>
  cases r
  rcases ty with ⟨rfl,xs,hq⟩ | ⟨rfl,o,hk,hc,hd⟩ | ⟨rfl,hk⟩ | ⟨rfl,S,n,hk⟩
  ·obtain⟨its,_,pl,_⟩:=I.list hq
   refine⟨pl.isList.typeIs,fun a e=>?_⟩
   cases e
   obtain⟨o,n,e,c,hd,_⟩:=pl
   exact⟨o,e,hd⟩
  ·refine⟨⟨o,I.kIn p o hk,hc⟩,fun a e=>?_⟩
   cases e
   exact⟨o,I.kIn _ o hk,hd⟩
  ·have z:∃o,s.heap.get? p=some o/\o.ExactDict:=by
    rcases hk with ⟨kvs,hk⟩ | ⟨kvs,hk⟩
    ·obtain⟨_,_,_,_,o,_,_,e,ex,_⟩:=I.hok p _ hk
     exact⟨o,e,ex⟩
    ·obtain⟨_,_,_,_,o,_,_,e,ex,_⟩:=I.hok p _ hk
     exact⟨o,e,ex⟩
   obtain⟨o,e,ex⟩:=z
   refine⟨⟨o,e,ex.1⟩,fun a e2=>?_⟩
   cases e2
   exact⟨o,e,ex.2.1⟩
  ·obtain⟨o,_,_,_,e,ex,_⟩:=I.hok p _ hk
   refine⟨⟨o,e,ex.1⟩,fun a e2=>?_⟩
   cases e2
   exact⟨o,e,ex.2.1⟩
 | _=>exact False.elim ty
def zij(K:PySem.W.Frag)(T:String)(r:V->List V->Hp->VK->Prop)(to:TE):TE:=fun σ H Q=>to σ H fun x H1=>tyV K T x H1/\r x [] H1 Q
def tBM(K:PySem.W.Frag)(T:String)(r:V->List V->Hp->VK->Prop)(to:TE)(t:TA):TE:=fun σ H Q=>to σ H fun x H1=>tyV K T x H1/\t σ H1 fun xs H2=>r x xs H2 Q
variable{o e:Expr}{es:List Expr}{to:TE}{t:TA}{name:Str}{apos cpos:Pos}{T id:String}{r:V->List V->Hp->VK->Prop}
theorem zgg(pa:PlainAttrs T)(slot:Slot T name id)(hty:typeOf (.builtin id)=pure (.type "method_descriptor"))(hm:MtR X id r)(ho:PE X o to)
  (hbase:attributeBase o name X.env (eval o X.env)=eval o X.env:=by rfl) (hline:(apos.endLine==cpos.line)=true:=by rfl):PE X (.Call (.Attribute o name apos) [] [] cpos) (zij X.K T r to):=by
 intro pins s σ H Q I h
 refine wpAny_Call_method0_late hbase hline (thn (ho pins s σ H _ I h) fun v s1 ⟨x,H1,I1,r1,ty,q1⟩=>?_)
 obtain⟨h1,h2⟩:=zb5 I1 r1 ty
 exact⟨T,id,pa,slot,hty,h1,h2,Wr rfl (PySem.evalArgs_none (hm pins s1 σ H1 x [] v [] Q I1 r1 .nil q1))⟩
theorem jm(pa:PlainAttrs T)(slot:Slot T name id)(hty:typeOf (.builtin id)=pure (.type "method_descriptor"))(hm:MtR X id r)(ho:PE X o to)(ha:PA X (e::es) t)
  (hbase:attributeBase o name X.env (eval o X.env)=eval o X.env:=by rfl)
  (hfew:((backTo cpos (starEach (e::es) X.env)).all (fun x=>!x.1)&&(backToKw cpos (keywordEach [] X.env)).all (fun x=>x.1.isSome)
   && decide ((e::es).length+([]:List Keyword).length+(if([]:List Keyword).isEmpty then 0 else 1)<30))=true:=by rfl)
  (hline:(apos.endLine==cpos.line)=true:=by rfl) (hs:starEach (e::es) X.env=(false,eval e X.env)::starEach es X.env:=by rfl) (hplain:(backTo cpos (starEach es X.env)).any (·.1)=false:=by rfl) :
  PE X (.Call (.Attribute o name apos) (e::es) [] cpos) (tBM X.K T r to t):=by
 intro pins s σ H Q I h
 refine wpAny_Call_method_late hbase hfew hline rfl (thn (ho pins s σ H _ I h) fun v s1 ⟨x,H1,I1,r1,ty,q1⟩=>?_)
 obtain⟨h1,h2⟩:=zb5 I1 r1 ty
 refine⟨T,id,pa,slot,hty,h1,h2,?_⟩
 have hA:=ha cpos pins s1 σ H1 _ I1 q1
 rw[hs] at hA ⊢
 refine Wr (by show(false||(backTo cpos (starEach es X.env)).any (·.1))=false;rw[hplain]<;>rfl) (Va ?_)
 exact thn hA fun us s2 ⟨vs,H2,I2,r2,q2⟩=>hm pins s2 σ H2 x vs v us Q I2 r1 r2 q2
end
def MtM(X:Cx)(id:String)(r:V->List V->Hp->VK->Prop):Prop:=
 ∀(pins:List (Addr×Obj)) (s:Shared) (σ:St) (H:Hp) (x:V) (xs:List V) (v:Value) (us:List Value) (Q:VK),Inv X pins σ H s->RelV x v->Vals xs us->r x xs H Q ->
  wpAny (model X.prog X.w) X.A (call (.builtin id) (v::us)) (EP X pins σ Q) X.xe s
theorem Vals.one:∀{x:V} {us:List Value},Vals [x] us->∃u,us=[u]/\RelV x u
 | _,_,.cons r .nil=>⟨_,rfl,r⟩
theorem Vals.two:∀{x y:V} {us:List Value},Vals [x,y] us->∃u v,us=[u,v]/\RelV x u/\RelV y v
 | _,_,_,.cons r (.cons q .nil)=>⟨_,_,rfl,r,q⟩
theorem Vals.zero:∀{us:List Value},Vals [] us->us=[]
 | _,.nil=>rfl
theorem Vals.eraseIdx:∀{xs:List V} {us:List Value} (i:Nat),Vals xs us->Vals (xs.eraseIdx i) (us.eraseIdx i)
 | _,_,_,.nil=>.nil
 | _,_,0,.cons _ t=>t
 | _,_,i+1,.cons r t=>.cons r (Vals.eraseIdx i t)
theorem Vals.rep{xs:List V}{us:List Value}(h:Vals xs us):∀k:Nat,Vals (List.replicate k xs).flatten (List.replicate k us).flatten
 | 0=>.nil
 | k+1=>by
  rw[Q7,Q7,X6,X6]
  exact Vals.append h (Vals.rep h k)
theorem JS(its:List Value):∀(k:Nat) (acc:List Value),
  List.foldl (fun x1 x2=>x1++x2) acc.toArray (List.replicate k its.toArray)=(acc++(List.replicate k its).flatten).toArray
 | 0,acc=>by simp
 | k+1,acc=>by
  have e:acc.toArray++its.toArray=(acc++its).toArray:=by simp
  have e2:(acc++its)++(List.replicate k its).flatten=acc++(List.replicate (k+1) its).flatten:=by
   rw[Q7,X6,jC]
  rw[<- e2,<- JS its k (acc++its),<- e,Q7,List.foldl_cons]
section
variable{X:Cx}{pins:List (Addr×Obj)}{σ:St}{H:Hp}{s:Shared}{l b:Addr}{xs ys zs:List V}
theorem Inv.lset{its its':List Value}{n:Nat}{f:Array Value->Array Value}{t':Nat}(I:Inv X pins σ H s)(hH:H l=some (.lst xs))
  (e:s.heap.get? l=some { cls:=.type "list",data:=.seq its.toArray n }) (hf:f its.toArray=its'.toArray) (hv:Vals ys its') (hz:ys.length<=sizeLine) :
  Inv X pins σ (upd H l (.lst ys)) { s with heap:=s.heap.update l (Obj.mapSeq f),toks:=t' }:=by
 have q:=PySem.IsL.update e f
 rw[hf] at q
 refine I.write (x:=l) (e:=l) (by rw[hH];exact trivial) (.inl rfl) (fun b' u hb hu=>(Xa s.heap (Obj.mapSeq f) (qy hb)).trans hu) ⟨_,q⟩ ?_
 exact⟨hz,its',_,hv,q⟩
theorem Inv.lnew{its:List Value}{t':Nat}(I:Inv X pins σ H s)(hv:Vals ys its)(hz:ys.length<=sizeLine) :
  Inv X pins σ (upd H s.heap.objs.size (.lst ys)) { s with heap:=s.heap.push { cls:=.type "list",data:=.seq its.toArray },toks:=t' }:=
 I.laid (fun _ _ q=>qx _ q) (zJ _) ⟨hz,its,0,hv,qD _ rfl⟩
theorem Inv.fresh(I:Inv X pins σ H s):H s.heap.objs.size=none:=I.hok.fresh (zJ _)
theorem Inv.lstM(I:Inv X pins σ H s)(hH:H l=some (.lst xs)):xs.length<=sizeLine/\∃(its:List Value) (n:Nat),Vals xs its/\xs.length=its.length/\s.heap.get? l=some { cls:=.type "list",data:=.seq its.toArray n }:=by
 obtain⟨z,its,n,r,e⟩:=I.hok l _ hH
 exact⟨z,its,n,r,r.length,e⟩
theorem VT{n:Nat}(h:n<=sizeLine):Builtin.List.listTooLong n=false:=by
 unfold Builtin.List.listTooLong
 exact xE (by omega)
end
section
variable{X:Cx}
inductive zat(x:V)(vs:List V)(H:Hp)(Q:VK):Prop
 | mk (l xs y:_) (_:x=.ref l) (_:vs=[y]) (_:H l=some (.lst xs)) (_:xs.length<sizeLine) (_:Q .non (upd H l (.lst (xs++[y])))):zat  x vs H Q
theorem z9:MtM X "list.append" zat:=by
 intro pins s σ H x vs v us Q I rx rv h
 obtain⟨l,xs,y,rfl,rfl,hH,hz,q⟩:=h
 cases rx
 obtain⟨u,rfl,ru⟩:=rv.one
 obtain⟨z,its,n,r,hl,e⟩:=I.lstM hH
 refine call_meets F.slot_list_append ⟨_,e,rfl⟩ F.entry_list_append (F.args_list_append_2 _ _) (PySem.list_append l its.toArray n u (by rw[qv];omega)) ⟨e,?_⟩
 refine⟨.non,_,I.lset (its':=its++[u]) hH e (by simp) (r.append (.cons ru .nil)) ?_,rfl,q⟩
 rw[zV,List.length_singleton]
 omega
inductive zar(x:V)(vs:List V)(H:Hp)(Q:VK):Prop
 | mk (l b xs zs:_) (_:x=.ref l) (_:vs=[.ref b]) (_:H l=some (.lst xs)) (_:H b=some (.lst zs)) (_:xs.length+zs.length<=sizeLine) (_:Q .non (upd H l (.lst (xs++zs)))):zar  x vs H Q
theorem Zm:MtM X "list.extend" zar:=by
 intro pins s σ H x vs v us Q I rx rv h
 obtain⟨l,b,xs,zs,rfl,rfl,hH,hB,hz,q⟩:=h
 cases rx
 obtain⟨u,rfl,ru⟩:=rv.one
 cases ru
 obtain⟨z,its,n,r,hl,e⟩:=I.lstM hH
 obtain⟨z2,its2,n2,r2,hl2,e2⟩:=I.lstM hB
 have hsz:its.toArray.size+its2.toArray.size<=sizeLine:=by rw[qv,qv];omega
 have hlong:¬(!its.toArray.isEmpty&&Builtin.List.listTooLong (its.toArray.size+its2.toArray.size))=true:=by
  rw[VT hsz,Yc]
  exact qC
 refine call_meets F.slot_list_extend ⟨_,e,rfl⟩ F.entry_list_extend (F.args_list_extend_2 _ _)
  (AutoSeq1.list_extend_list_list_0 l its.toArray n b its2.toArray n2 hlong (by rw[qv];omega) (by omega)) ⟨e,e2,?_⟩
 refine⟨.non,_,I.lset (its':=its++its2) hH e (by simp) (r.append r2) ?_,rfl,q⟩
 rw[zV]
 omega
inductive VM(x:V)(vs:List V)(H:Hp)(Q:VK):Prop
 | mk (l xs:_) (_:x=.ref l) (_:vs=[]) (_:H l=some (.lst xs)) (_:Q .non (upd H l (.lst xs.reverse))):VM  x vs H Q
theorem WR:MtM X "list.reverse" VM:=by
 intro pins s σ H x vs v us Q I rx rv h
 obtain⟨l,xs,rfl,rfl,hH,q⟩:=h
 cases rx
 have hus:=rv.zero
 subst hus
 obtain⟨z,its,n,r,hl,e⟩:=I.lstM hH
 refine call_meets F.slot_list_reverse ⟨_,e,rfl⟩ F.entry_list_reverse (F.args_list_reverse_1 _) (AutoSeq1.list_reverse_list_0 l its.toArray n (by rw[qv];omega)) ⟨e,?_⟩
 refine⟨.non,_,I.lset (its':=its.reverse) hH e (by simp) r.reverse ?_,rfl,q⟩
 rw[X9]
 omega
inductive zf4(x:V)(y:V)(H:Hp)(Q:VK):Prop
 | mk (l b xs zs:_) (_:x=.ref l) (_:y=.ref b) (_:H l=some (.lst xs)) (_:H b=some (.lst zs)) (_:xs.length+zs.length<=sizeLine) (_:∀p,H p=none->Q (.ref p) (upd H p (.lst (xs++zs)))):zf4  x y H Q
theorem jO:OpR X (binaryOp .Add) zf4:=by
 intro pins s σ H x y v u Q I rx ry h
 obtain⟨l,b,xs,zs,rfl,rfl,hH,hB,hz,q⟩:=h
 cases rx
 cases ry
 obtain⟨z,its,n,r,hl,e⟩:=I.lstM hH
 obtain⟨z2,its2,n2,r2,hl2,e2⟩:=I.lstM hB
 refine PySem.P.add_list e e2 ?_ (by rw[qv,qv];omega)
 have ea:its.toArray++its2.toArray=(its++its2).toArray:=by simp
 rw[ea]
 exact⟨.ref _,_,I.lnew (t':=s.toks) (r.append r2) (by rw[zV];omega),rfl,q _ I.fresh⟩
inductive zhq(x:V)(y:V)(H:Hp)(Q:VK):Prop
 | mk (l k xs:_) (_:x=.ref l) (_:y=.int k) (_:H l=some (.lst xs)) (_:-(2^63)<=k) (_:k<2^63) (_:xs.length*k.toNat<=sizeLine) (_:∀p,H p=none->Q (.ref p) (upd H p (.lst (List.replicate k.toNat xs).flatten))):zhq  x y H Q
theorem zeI{α:Type}(xs:List α)(k:Nat):(List.replicate k xs).flatten.length=k*xs.length:=by
 induction k with
 | zero=>simp
 | succ k ih=>rw[Q7,X6,zV,ih,Nat.succ_mul,Nat.add_comm]
theorem zgh:OpR X (binaryOp .Mult) zhq:=by
 intro pins s σ H x y v u Q I rx ry h
 obtain⟨l,k,xs,rfl,rfl,hH,h1,h2,hz,q⟩:=h
 cases rx
 obtain⟨t,rfl⟩:=ry
 obtain⟨z,its,n,r,hl,e⟩:=I.lstM hH
 have hlen:its.toArray.size*k.toNat<=sizeLine:=by rw[qv,<- hl];exact hz
 have hcap:¬its.toArray.size*k.toNat>(2^63-1)/8:=by
  have:(sizeLine:Nat)<=(2^63-1)/8:=by decide
  omega
 have hfit:¬(!Builtin.List.listFitsIndex k)=true:=by
  rw[fitsIndex_both h1 h2]
  exact qC
 have hlong:¬Builtin.List.listTooLong (its.toArray.size*k.toNat)=true:=by
  rw[VT hlen]
  exact qC
 have hnew:List.foldl (fun x1 x2=>x1++x2) #[] (List.replicate (if its.toArray.isEmpty=true then 0 else k.toNat) its.toArray)=(List.replicate k.toNat its).flatten.toArray:=by
  have f0:∀m:Nat,List.foldl (fun x1 x2=>x1++x2) #[] (List.replicate m its.toArray)=(List.replicate m its).flatten.toArray:=fun m=>by
   have:=JS its m []
   rw[Q1] at this
   exact this
  rw[f0]
  cases its with
  | nil=>simp
  | cons a r'=>rw[zx (by simp)]
 refine wpAny_binaryOp_repeat_ref (T:= "list") (U:= "int") (by decide) ⟨_,e,rfl⟩ (fun s'=>typeIs_int s' k t) noFill_list_mul F.fills_int_mul F.slot_int_rmul repeat_list F.slot_int_index.lookup
  (call_meets F.slot_int_rmul (typeIs_int s k t) F.entry_int_rmul (F.args_int_rmul_2 _ _) (int___rmul___int_list k t l its.toArray n)
   ⟨e,rfl,⟨_,e,rfl⟩,call_meets F.slot_list_mul ⟨_,e,rfl⟩ F.entry_list_mul (F.args_list_mul_2 _ _) (AutoListH.list___mul___list_int_3 l its.toArray n k t hfit hcap hlong) ⟨e,?_⟩⟩)
 rw[hnew]
 exact⟨.ref _,_,I.lnew (t':=s.toks) (r.rep k.toNat) (by rw[zeI,Nat.mul_comm];exact hz),rfl,q _ I.fresh⟩
end
section
variable{prog:Program}{w:World}{A:Around}{E:Value->Shared->Prop}{s:Shared}
end
section
variable{X:Cx}
end
end L2
namespace Att
open PySem PySem.W PySem.Calls PyProof.Rows
theorem ZV{P:Params}{h:Heap}:∀(ns:List Int) (vs:List Value),WellAll P h vs (ns.map WData.int)->IntsAre vs ns:=by
 intro ns
 induction ns with
 | nil=>
  intro vs w
  rw[XU] at w
  cases w
  exact .nil
 | cons n ns ih=>
  intro vs w
  rw[xx] at w
  cases w with
  | cons a b=>
   cases a
   exact .cons _ _ (ih _ b)
theorem zbw{l:OpenLaw}{n:Nat}(hn:l.most=some n){P:Params}{h:Heap}{args:List WData}{vals:List Value}
  (hpre:l.row.toRowW.claim.pre args=true) (hwl:WellAll P h vals args) :
  ∃a vs ns,vals=[Value.ref a]/\args=[WData.list (ns.map WData.int)]/\h.get? a=some { cls:=.type "list",data:=.seq vs.toArray }/\IntsAre vs ns/\ns.length<=n:=by
 have hsh:WShape.hasAll [] args [.list .int]=true:=(pre_splitW hpre).1
 have hc:l.pre.holds [] { args:=args }=true:=(pre_splitW hpre).2
 obtain⟨d,r,rfl,h1,h2⟩:=hasAllW_cons hsh
 obtain rfl:=hasAllW_nil h2
 obtain⟨xs,rfl,h3⟩:=hasW_list h1
 obtain⟨ns,rfl⟩:=items_int h3
 have hlen:ns.length<=n:=by
  unfold OpenLaw.pre at hc
  have h4:(WTm.not (.lt (.lit (.int (n:Int))) (.len (.arg 0)))).holds [] { args:=[.list (ns.map .int)] }=true:=by
   have h4:=(holds_andW hc).1
   rw[hn] at h4
   exact h4
  have h5:=condW_of h4 (w_not (w_lt w_lit (w_len_list (w_arg rfl))))
  rw[zq] at h5
  refine Nat.le_of_not_lt fun q=>?_
  have q':(n:Int)<((ns.length:Nat):Int):=by omega
  first
   | (rw[qQ q'] at h5;exact absurd h5 (by decide))
   | (simp at h5;omega)
 cases hwl with
 | cons w1 w2=>
  cases w2
  cases w1 with
  | list ho hall=>exact⟨_,_,ns,rfl,rfl,ho,ZV ns _ hall,hlen⟩
theorem zbx(l:OpenLaw)(args:List WData):l.row.toRowW.claim.post args (.bool true) args=true:=
 postW_of (r:=l.row.toRowW) (X:=(true==true))
  (show WShape.has [] (.bool true) .bool=true by first| rfl | decide | simp[WShape.has,WShape.arms,WShape.armsAll])
  (show(WTm.eq .res (.lit (.bool true))).value [] { args:=args,res:=some (.bool true),after:=args }=some (.bool (true==true)) from w_eq_bool (w_res rfl) w_lit) rfl
theorem attach_call{l:OpenLaw}{n:Nat}{q:Program}{loose:List Str}{XP:(Str->Option Value)->Heap->Prop}{YP:World->Heap->Prop}{d:DefRec}
  (hn:l.most=some n) (hdf:d.params.defaults=[])
  (call:∀(w:World) (s₀ s₁:Shared) (mg mb:Str->Option Value) (fa:Addr) (o:Obj) (pm cd doc:Value) (a:Addr) (vs:List Value) (ns:List Int),
   Ground q loose [] XP w s₀ mg mb s₁.heap->YP w s₁.heap ->
   s₁.heap.get? fa=some o->o.data=.func (docDef d.name d.params d.body d.scope pm cd doc)->s₁.heap.CodeRec cd d.name->mg d.name=some (.ref fa) ->
   s₁.heap.get? a=some { cls:=.type "list",data:=.seq vs.toArray }->IntsAre vs ns->ns.length<=n->s₁.gens=#[] ->
   codeAny (model l.prog w) callerA (.call (.ref fa) ⟨[.ref a],[]⟩) (fun r s'=>r=.ok (.ret (.bool true))/\OldK s₁.heap s'.heap/\s'.os=s₁.os/\AllBare s'.gens) s₁) :
  WalkO q loose XP YP l.row.toRowW d [] (fun f vs=>PySem.call f vs):=by
 intro w s₀ s₁ mg mb G Y fa o pm cd doc dV kV ho hd hcd hD hmg hg args vals as hpre hlay hrd hwl hlo
 obtain rfl:dV=.none:=Dflts.none hD hdf
 obtain rfl:kV=.none:=Dflts.noKw hD
 obtain⟨a,vs,ns,rfl,rfl,hobj,hints,hlen⟩:=zbw hn hpre hwl
 refine enter_call (codeAny_mono (call w s₀ s₁ mg mb fa o pm cd doc a vs ns G Y ho (fd_plain hd) hcd hmg hobj hints hlen hg) fun r s' hq=>?_)
 obtain⟨rfl,h2,h3,h4⟩:=hq
 exact⟨.inl ⟨.bool true,.bool true,[],rfl,fun _=>rfl,.bool true,zbx l _,fun _=>⟨List.Pairwise.nil,fun _ hm=>(nomatch hm)⟩⟩,h2,h3,h4⟩
section
variable{prog:Program}{w:World}{A:Around}{E:Value->Shared->Prop}{s:Shared}{K:Frag}
def ledger(h:Heap)(L d:Addr):List (Addr×Obj):=(List.range h.objs.size).filterMap fun a=>if a=L\/a=d then none else(h.get? a).map fun o=>(a,o)
end
end Att
namespace L2
open PySem PySem.Spec PyProof.Rows
theorem Jo:∀{vs:List Value} {ns:List Int},IntsAre vs ns->Vals (ns.map V.int) vs
 | _,_,.nil=>.nil
 | _,_,.cons n t h=>.cons ⟨t,rfl⟩ (Jo h)
def zgZ(H:Hp):Prop:=∀b,H b=none\/∃o xs,H b=some (.frz o (.lst xs))
theorem zdi{P:Program}{w:World}{K:PySem.W.Frag}{mg mb:Str->Option Value}{CX:CXT}{k:Nat}{fa a:Addr}{fd:FuncData}{x:Str}{sp:Sp}{s₁:Shared}{vs:List Value}{ns:List Int}
  (KX:K.In s₁.heap) (hns:s₁.heap.Ns mainGlobals mg) (hb:s₁.heap.Ns builtinsNs mb) (hbb:∀x:Str,x ≠ "__name__" -> mb x=bootBuiltins x) (hlim:s₁.heap.NoLimit) (hg:s₁.gens=#[])
  (ha:s₁.heap.get? a=some { cls:=.type "list",data:=.seq vs.toArray }) (hi:IntsAre vs ns) (hl:ns.length<=sizeLine) (hr:Room k callerA)
  (F:∀base:Heap,K.In base->base.Ns mainGlobals mg->qH P w K mg base CX k fa fd [x] sp) (hbind:∀(s:Shared) (u:Value),BindsTo s fd ⟨[u],[]⟩ [(x,u)])
  (hsp:∀H:Hp,zgZ H->SqL K H a (ns.map V.int)->sp [.ref a] H (fun v _=>v=.bl true) fun _ _ _=>False)
  (hCX:∀H e s',CX [] H s₁ (fun _ _ _=>False) e s'->False) :
  codeAny (model P w) callerA (.call (.ref fa) ⟨[.ref a],[]⟩) (fun r s'=>r=.ok (.ret (.bool true))/\OldK s₁.heap s'.heap/\s'.os=s₁.os/\AllBare s'.gens) s₁:=by
 have rv:=Jo hi
 have lenV:=hi.length
 have core:∀H:Hp,zgZ H->SqL K H a (ns.map V.int)->HOk P w H s₁.heap->(∀b,H b≠none->b=a)->(H a≠none->K.lookup a=none) ->
   codeAny (model P w) callerA (.call (.ref fa) ⟨[.ref a],[]⟩) (fun r s'=>r=.ok (.ret (.bool true))/\OldK s₁.heap s'.heap/\s'.os=s₁.os/\AllBare s'.gens) s₁:=by
  intro H hO hS hok hA hK
  have base_of:∀{b:Addr} {o:Obj},s₁.heap.get? b=some o->H b=none->(XF s₁.heap H).get? b=some o:=fun e n=>zdr e n
  have noA:∀{b:Addr} {o:Obj} {es:Array DictEntry} {ep:Nat},s₁.heap.get? b=some o->o.data=.dict es ep->H b=none:=fun {b o es ep} e d=>by
   cases q:H b with
   | none=>rfl
   | some u=>
    have e':b=a:=hA b (by rw[q];simp)
    subst e'
    rw[ha] at e;cases e
    have d':Data.seq vs.toArray _=Data.dict es ep:=d
    cases d'
  have nsK:∀{b:Addr} {m:Str->Option Value},s₁.heap.Ns b m->(XF s₁.heap H).Ns b m:=fun {b m} ⟨o,es,ep,e,d,r⟩=>⟨o,es,ep,base_of e (noA e d),d,r⟩
  have hKb:K.In (XF s₁.heap H):=fun b o e=>base_of (KX b o e) (by
   cases q:H b with
   | none=>rfl
   | some u=>
    have e':b=a:=hA b (by rw[q];simp)
    subst e'
    rw[hK (by rw[q];simp)] at e;cases e)
  have hM:Mod K mg (XF s₁.heap H):=⟨hKb,nsK hns,⟨mb,nsK hb,hbb⟩,let ⟨mc,h1,h2⟩:=hlim;⟨mc,nsK h1,h2⟩⟩
  have e0:ze3 P w K mg (XF s₁.heap H) callerA [] s₁ H:=⟨rfl,hM,fun b o e=>zeF e,yn (zbK _ _),trivial,fun b hb=>absurd (show b∈([]:List Addr) from hb) (by simp),hok,.of_eq hg⟩
  refine codeAny_mono ((F _ hKb (nsK hns)).run callerA [] s₁ H ⟨[.ref a],[]⟩ [.ref a] [.ref a] _ _ hr e0 (hbind s₁ (.ref a)) (.cons rfl .nil) (hsp H hO hS)) fun r s' h=>?_
  cases r with
  | error e=>exact(hCX H e s' h).elim
  | ok fl=>
   cases fl with
   | next=>exact False.elim h
   | brk=>exact False.elim h
   | cont=>exact False.elim h
   | ret u=>
    obtain⟨v,H',os,bare,un,hok',r',q⟩:=h
    have q':v=.bl true:=q
    subst q'
    obtain rfl:u=Value.bool true:=r'
    refine⟨rfl,OldK.of_keep fun b o e=>?_,os,bare⟩
    cases q:H b with
    | none=>exact un.keep b o e q (by intro z;exact absurd (show b∈([]:List Addr) from z) (by simp)) (by simp)
    | some u=>
     rcases hO b with z | ⟨ob,xs,z⟩
     ·rw[q] at z;cases z
     ·have z2:=un.frzs b ob _ z
      obtain⟨e1,_⟩:=hok b _ z
      obtain⟨e2,_⟩:=hok' b _ z2
      rw[e] at e1;cases e1
      exact e2
 cases hk:K.lookup a with
 | some o=>
  have e:=KX a o hk
  rw[ha] at e
  cases e
  refine core (fun _=>none) (fun _=>.inl rfl) (.inr ⟨_,vs.toArray,_,hk,rfl,rfl,rfl,by rw[qv,lenV];exact hl,by simpa using rv⟩) (fun b u z=>by have z':(none:Option HO)=some u:=z;cases z') (fun b z=>absurd rfl z) fun z=>absurd rfl z
 | none=>
  refine core (fun b=>if b=a then some (.frz { cls:=.type "list",data:=.seq vs.toArray } (.lst (ns.map V.int))) else none) (fun b=>?_) (.inl (.inr ⟨{ cls:=.type "list",data:=.seq vs.toArray },zH rfl⟩)) (fun b u z=>?_) (fun b z=>?_) fun _=>hk
  ·by_cases hb:b=a
   ·exact .inr ⟨_,_,zH hb⟩
   ·exact .inl (zx hb)
  ·by_cases hb:b=a
   ·have z':=(zH hb).symm.trans z
    cases z'
    subst hb
    exact⟨ha,by rw[zq];exact hl,vs,_,rv,ha⟩
   ·have z':=(zx hb).symm.trans z
    cases z'
  ·by_cases hb:b=a
   ·exact hb
   ·exact absurd (zx hb) z
abbrev KOf{K:PySem.W.Frag}{h:Heap}(_:K.In h):PySem.W.Frag:=K
def yO(s:Stmt):Arguments:=match s with
 | .FunctionDef _ a _ _ _ _ _ _ _ _=>a
 | _=>{ posonlyargs:=[],args:=[],vararg:=none,kwonlyargs:=[],kw_defaults:=[],kwarg:=none,defaults:=[] }
def vq(s:Stmt):List Stmt:=match s with
 | .FunctionDef _ _ b _ _ _ _ _ _ _=>b
 | _=>[]
def zt(s:Stmt):Scope:=match s with
 | .FunctionDef _ _ _ _ _ _ sc _ _ _=>sc
 | _=>{ kind:=.function,names:=[],isGenerator:=false,isCoroutine:=false }
abbrev CX0:CXT:=fun _ _ _ _ _ _=>False
abbrev E0:XK:=fun _ _ _=>False
theorem zhu{X:Cx}:YD CX0 X E0:=fun _ _ _ _ _ _ _ h=>h.elim
structure Fun(K:PySem.W.Frag)(x qual:Str)(st:Stmt)(f:Addr)(fd:FuncData):Prop where
 ex:∃(oc:Value) (od:Option Addr) (kV doc pm:Value) (an:Option Addr) (cdv ct:Value) (osl:Array (Option Value)),
  fd=PySem.W.fnOf x qual (yO st) (vq st) (zt st) .none kV doc pm an cdv ct/\K.lookup f=some ⟨oc,od,.func fd,osl⟩/\PySem.W.codeIn K cdv qual=true
 kp:PySem.W.keepIn K (.ref f)=true
section
variable{P:Program}{w:World}{K:PySem.W.Frag}{mg:Str->Option Value}{base:Heap}
theorem Fun.ok{x qual:Str}{st:Stmt}{f:Addr}{fd:FuncData}{N ps:List Str}{k:Nat}{sp:Sp}(F:Fun K x qual st f fd)(S:zF N ps (zt st))(len:∀vs H Q E,sp vs H Q E->vs.length=ps.length)
  (hbody:∀(cdv:Value) (A:Around) (outer:List Env) (s:Shared) (H:Hp) (vs:List V) (Q:VK) (E:XK),Room k (A.deeper (envOfC qual (zt st) s.heap.objs.size f cdv))->sp vs H Q E ->
   ∃t,PSs (Wg CX0 P w K mg base N qual (zt st) f cdv A outer s H E).nox (vq st) t/\t { nx:=fun _ H'=>Q .non H',rt:=Q } (ZA N vs) H):qH P w K mg base CX0 (k+1) f fd ps sp:=by
 obtain⟨oc,od,kV,doc,pm,an,cdv,ct,osl,rfl,lk,hcd⟩:=F.ex
 refine zhR lk hcd S len fun A outer s H vs Q E hr hsp=>?_
 obtain⟨t,h,q⟩:=hbody cdv A outer s H vs Q E hr hsp
 exact⟨t,h.nox,q⟩
theorem Fun.binds{x qual:Str}{st:Stmt}{f:Addr}{fd:FuncData}{ps:List Str}(F:Fun K x qual st f fd)
  (h:∀(kV doc pm:Value) (an:Option Addr) (cdv ct:Value) (us:List Value),us.length=ps.length->bindArgs (PySem.W.fnOf x qual (yO st) (vq st) (zt st) .none kV doc pm an cdv ct) ⟨us,[]⟩=pure (ps.zip us)):Binds K fd ps []:=by
 obtain⟨oc,od,kV,doc,pm,an,cdv,ct,osl,rfl,lk,hcd⟩:=F.ex
 exact .all (h kV doc pm an cdv ct)
end
theorem QE{A:Around}{k:Nat}(hr:Room k A):A.units+1<cLine:=J8 (Yo (by decide:1<=64) _) hr.units
theorem zbv{n:Nat}(h:n<=1000):n<sizeLine:=J8 h (by decide)
section
variable{X:Cx}
theorem pv(i:Nat){x:Str}{pos:Pos}(hN:X.N[i]? =some x:=by rfl)(hv:Vis X.env.scope x:=by first| exact Or.inl rfl | exact Or.inr (Or.inl rfl) | exact Or.inr (Or.inr rfl))(hd:(x==("__debug__" : Str))=false:=by decide)
  (hcd:(x==("__classdict__" : Str))=false:=by decide):PE X (.Name x pos) (zfP i):=zgc hN hv hd hcd
end
theorem jA{c A B:Prop}[Decidable c](h1:c->A)(h2:¬c->B):if c then A else B:=by
 by_cases h:c
 ·rw[zH h]
  exact h1 h
 ·rw[zx h]
  exact h2 h
def Same(H H':Hp):Prop:=∀b o,H b=some o->H' b=some o
theorem Same.refl(H:Hp):Same H H:=fun _ _ h=>h
theorem Same.trans{H H1 H2:Hp}(a:Same H H1)(b:Same H1 H2):Same H H2:=fun c o h=>b c o (a c o h)
theorem Same.free{H H':Hp}(e:Same H H'){l:Addr}(h:H' l=Option.none):H l=Option.none:=by
 cases q:H l with
 | none=>rfl
 | some o=>
  rw[e l o q] at h
  cases h
theorem Same.seq{K:PySem.W.Frag}{H H':Hp}{a:Addr}{xs:List V}(e:Same H H')(h:SqL K H a xs):SqL K H' a xs:=by
 rcases h with(h | ⟨o,h⟩) | h
 ·exact .inl (.inl (e _ _ h))
 ·exact .inl (.inr ⟨o,e _ _ h⟩)
 ·exact .inr h
end L2
namespace L2
inductive Ex1{α1:Sort _}(P:α1->Prop):Prop
 | mk (a1:α1) (h:P a1):Ex1 P
inductive Ex2{α1:Sort _}{α2:Sort _}(P:α1->α2->Prop):Prop
 | mk (a1:α1) (a2:α2) (h:P a1 a2):Ex2 P
inductive Ex3{α1:Sort _}{α2:Sort _}{α3:Sort _}(P:α1->α2->α3->Prop):Prop
 | mk (a1:α1) (a2:α2) (a3:α3) (h:P a1 a2 a3):Ex3 P
inductive Ex4{α1:Sort _}{α2:Sort _}{α3:Sort _}{α4:Sort _}(P:α1->α2->α3->α4->Prop):Prop
 | mk (a1:α1) (a2:α2) (a3:α3) (a4:α4) (h:P a1 a2 a3 a4):Ex4 P
inductive Ex5{α1:Sort _}{α2:Sort _}{α3:Sort _}{α4:Sort _}{α5:Sort _}(P:α1->α2->α3->α4->α5->Prop):Prop
 | mk (a1:α1) (a2:α2) (a3:α3) (a4:α4) (a5:α5) (h:P a1 a2 a3 a4 a5):Ex5 P
inductive Ex6{α1:Sort _}{α2:Sort _}{α3:Sort _}{α4:Sort _}{α5:Sort _}{α6:Sort _}(P:α1->α2->α3->α4->α5->α6->Prop):Prop
 | mk (a1:α1) (a2:α2) (a3:α3) (a4:α4) (a5:α5) (a6:α6) (h:P a1 a2 a3 a4 a5 a6):Ex6 P
inductive zh6{α1:Sort _}{α2:Sort _}{α3:Sort _}{α4:Sort _}{α5:Sort _}{α6:Sort _}{α7:Sort _}{α8:Sort _}{α9:Sort _}{α10:Sort _}{α11:Sort _}(P:α1->α2->α3->α4->α5->α6->α7->α8->α9->α10->α11->Prop):Prop
 | mk (a1:α1) (a2:α2) (a3:α3) (a4:α4) (a5:α5) (a6:α6) (a7:α7) (a8:α8) (a9:α9) (a10:α10) (a11:α11) (h:P a1 a2 a3 a4 a5 a6 a7 a8 a9 a10 a11):zh6 P
inductive An2(A1 A2:Prop):Prop
 | mk (h1:A1) (h2:A2):An2 A1 A2
inductive An3(A1 A2 A3:Prop):Prop
 | mk (h1:A1) (h2:A2) (h3:A3):An3 A1 A2 A3
inductive An4(A1 A2 A3 A4:Prop):Prop
 | mk (h1:A1) (h2:A2) (h3:A3) (h4:A4):An4 A1 A2 A3 A4
inductive An5(A1 A2 A3 A4 A5:Prop):Prop
 | mk (h1:A1) (h2:A2) (h3:A3) (h4:A4) (h5:A5):An5 A1 A2 A3 A4 A5
inductive An6(A1 A2 A3 A4 A5 A6:Prop):Prop
 | mk (h1:A1) (h2:A2) (h3:A3) (h4:A4) (h5:A5) (h6:A6):An6 A1 A2 A3 A4 A5 A6
inductive An7(A1 A2 A3 A4 A5 A6 A7:Prop):Prop
 | mk (h1:A1) (h2:A2) (h3:A3) (h4:A4) (h5:A5) (h6:A6) (h7:A7):An7 A1 A2 A3 A4 A5 A6 A7
inductive An8(A1 A2 A3 A4 A5 A6 A7 A8:Prop):Prop
 | mk (h1:A1) (h2:A2) (h3:A3) (h4:A4) (h5:A5) (h6:A6) (h7:A7) (h8:A8):An8 A1 A2 A3 A4 A5 A6 A7 A8
inductive An9(A1 A2 A3 A4 A5 A6 A7 A8 A9:Prop):Prop
 | mk (h1:A1) (h2:A2) (h3:A3) (h4:A4) (h5:A5) (h6:A6) (h7:A7) (h8:A8) (h9:A9):An9 A1 A2 A3 A4 A5 A6 A7 A8 A9
theorem zhI{α:Type _}{us:List α}(h:us.length=1):∃a0,us=[a0]:=
 match us,h with
 | [a0],_=>⟨a0,rfl⟩
theorem zhH{α:Type _}{us:List α}(h:us.length=2):∃a0 a1,us=[a0,a1]:=
 match us,h with
 | [a0,a1],_=>⟨a0,a1,rfl⟩
theorem zhG{α:Type _}{us:List α}(h:us.length=3):∃a0 a1 a2,us=[a0,a1,a2]:=
 match us,h with
 | [a0,a1,a2],_=>⟨a0,a1,a2,rfl⟩
theorem zhF{α:Type _}{us:List α}(h:us.length=4):∃a0 a1 a2 a3,us=[a0,a1,a2,a3]:=
 match us,h with
 | [a0,a1,a2,a3],_=>⟨a0,a1,a2,a3,rfl⟩
theorem zhE{α:Type _}{us:List α}(h:us.length=5):∃a0 a1 a2 a3 a4,us=[a0,a1,a2,a3,a4]:=
 match us,h with
 | [a0,a1,a2,a3,a4],_=>⟨a0,a1,a2,a3,a4,rfl⟩
theorem zhD{α:Type _}{us:List α}(h:us.length=6):∃a0 a1 a2 a3 a4 a5,us=[a0,a1,a2,a3,a4,a5]:=
 match us,h with
 | [a0,a1,a2,a3,a4,a5],_=>⟨a0,a1,a2,a3,a4,a5,rfl⟩
end L2
set_option maxHeartbeats 4000000
namespace L2
open PySem PySem.Spec PyProof.Rows
def jF(cs:List (Str×Addr)):List (Str×NameKind)->List (Str×Addr)->List (Str×Addr)
 | [],acc=>acc
 | (n,k)::r,acc=>jF cs r (if(k==NameKind.free)=true then(n,(cs.lookup n).getD 0)::acc else acc)
theorem zdE{env:Env}(names:List (Str×NameKind)):∀(acc:List (Str×Addr)),(∀y∈names,y.2=NameKind.free->∃c,env.cells.lookup y.1=some c) ->
  (forIn names acc fun(x:Str×NameKind) (cs:List (Str×Addr))=>
   (if(x.2==NameKind.free)=true then(cellOf env x.1 >>= fun a=>(pure (ForInStep.yield ((x.1,a)::cs)):Sem (ForInStep (List (Str×Addr))))) else pure (ForInStep.yield cs)))=(pure (jF env.cells names acc):Sem (List (Str×Addr))):=by
 induction names with
 | nil=>intro acc _;rfl
 | cons y r ih=>
  intro acc h
  obtain⟨n,k⟩:=y
  rw[X0]
  by_cases hk:(k==NameKind.free)=true
  ·obtain⟨c,hc⟩:=h (n,k) j8 (by simpa using hk)
   have e1:cellOf env n=pure c:=by
    unfold cellOf
    rw[show env.cells.lookup n=some c from hc]
   simp only[hk,if_true,e1,pure_bind]
   rw[ih _ fun z hz=>h z (jv _ hz)]
   show _=pure (jF env.cells r (if(k==NameKind.free)=true then(n,(env.cells.lookup n).getD 0)::acc else acc))
   rw[zH hk,show env.cells.lookup n=some c from hc]
   all_goals rfl
  ·simp only[hk,pure_bind]
   simp only[J7,if_false,pure_bind]
   rw[ih _ fun z hz=>h z (jv _ hz)]
   show _=pure (jF env.cells r (if(k==NameKind.free)=true then(n,(env.cells.lookup n).getD 0)::acc else acc))
   rw[zx hk]
theorem zaW{env:Env}{scope:Scope}(h:∀y∈scope.names,y.2=NameKind.free->∃c,env.cells.lookup y.1=some c):closureFor scope env=pure (jF env.cells scope.names []):=by
 have e:=zdE (env:=env) scope.names [] h
 unfold closureFor
 refine Eq.trans ?_ (Eq.trans (congrArg (fun m=>m >>= fun cs=>(pure cs:Sem (List (Str×Addr)))) e) ?_)
 ·rfl
 ·simp
theorem vU{cs:List (Str×Addr)}{x:Str}:∀(names:List (Str×NameKind)) (acc:List (Str×Addr)),(jF cs names acc).lookup x=(if(names.any fun y=>y.2==NameKind.free&&x==y.1)=true then some ((cs.lookup x).getD 0) else acc.lookup x)
 | [],acc=>by simp[jF]
 | (n,k)::r,acc=>by
  unfold jF
  rw[vU r]
  by_cases hr:(r.any fun y=>y.2==NameKind.free&&x==y.1)=true
  ·rw[zH hr,zH (by rw[wZ,hr,Bool.or_true])]
  ·rw[zx hr]
   by_cases hk:(k==NameKind.free)=true
   ·rw[zH hk]
    by_cases hx:(x==n)=true
    ·rw[zH (by rw[wZ];simp only[hk,hx,Bool.and_self,Bool.true_or])]
     have e:x=n:=by simpa using hx
     subst e
     simp[jQ]
    ·rw[zx (by rw[wZ];simp only[hk,hx,Yc,XV];exact hr)]
     have hx':(x==n)=false:=by simpa using hx
     simp[jQ,hx']
   ·rw[zx hk,zx (by rw[wZ];simp only[hk,Bool.false_and,XV];exact hr)]
abbrev jd(X:Cx)(N':List Str)(scope:Scope)(C:Addr)(s:Shared)(H:Hp)(ex:List Addr):Cx where
 prog:=X.prog
 w:=X.w
 K:=X.K
 mg:=X.mg
 base:=X.base
 A:=X.A
 N:=N'
 s₀:=s
 H₀:=H
 env:=compEnvC scope (jF X.env.cells scope.names []) C X.env
 outer:=X.stack
 stack:=X.stack
 ex:=ex
 fn:=fun _=>false
 calm:=X.calm
 pn:=[]
 xe:=fun _ _=>False
abbrev Z1(ifs:List Expr)(env:Env):Sem Bool:=
 forIn ifs true fun(c:Expr) (r:Bool)=>if r=true then(isTrue c env (eval c env) >>= fun ok=>(pure (ForInStep.yield ok):Sem (ForInStep Bool))) else pure (ForInStep.yield r)
theorem Wp{prog:Program}{w:World}{A:Around}{R:Result->Shared->Prop}{s:Shared}{elt tg iter:Expr}{ifs:List Expr}{scope:Scope}{pos:Pos}{it acc:Value}{env:Env}(J:Nat->Shared->Prop)
  (turn:∀n s,J n s->wpAny (model prog w) A (pyNext it) (fun r s1=>match r with
   | none=>R (.ok .next) s1
   | some v=>wpAny (model prog w) A (letOwnedTupleGo tg it v) (fun _ s2=>wpAny (model prog w) A (assign tg env v) (fun _ s3=>
     wpAny (model prog w) A (Z1 ifs env) (fun ok s4=>
      if ok=true then wpAny (model prog w) A (eval elt env) (fun x s5=>
       wpAny (model prog w) A (call (.builtin "list.append") [acc,x]) (fun _ s6=>∃m,m<n/\J m s6) (fun _ _=>False) s5) (fun _ _=>False) s4
      else ∃m,m<n/\J m s4) (fun _ _=>False) s3) (fun _ _=>False) s2) (fun _ _=>False) s1) (fun _ _=>False) s)
  (n:Nat) (h:J n s):codeAny (model prog w) A (.compLoop (.ListComp elt [⟨tg,iter,ifs,0⟩] scope pos) 0 it acc env) R s:=by
 have no:∀{α:Type} {t:Sem α} {Q:α->Shared->Prop} {E:Value->Shared->Prop} {s:Shared},wpAny (model prog w) A t Q (fun _ _=>False) s->wpAny (model prog w) A t Q E s:=fun x=>xZ x (fun _ _ q=>q) fun _ _ q=>q.elim
 refine codeAny_loop rfl J (fun k u hJ=>?_) n h
 show wpAny _ A ((compTurn (.ListComp elt [⟨tg,iter,ifs,0⟩] scope pos) 0 it acc env).onRaise (fun x=>do noteFrame x env;theTreesLotGoes x)) _ _ u
 refine wpAny_noted ?_
 rw[compTurn_list]
 refine zr (wpAny_standAt (zr (no (xZ (turn k u hJ) (fun r s1 h1=>?_) fun _ _ q=>q))))
 cases r with
 | none=>exact zD h1
 | some v=>
  refine zr (no (xZ h1 (fun _ s2 h2=>zr (no (xZ h2 (fun _ s3 h3=>zr (no (xZ h3 (fun ok s4 h4=>?_) fun _ _ q=>q))) fun _ _ q=>q))) fun _ _ q=>q))
  cases ok with
  | false=>exact zD ⟨rfl,h4⟩
  | true=>
   have h4':wpAny (model prog w) A (eval elt env) (fun x s5=>wpAny (model prog w) A (call (.builtin "list.append") [acc,x]) (fun _ s6=>∃m,m<k/\J m s6) (fun _ _=>False) s5) (fun _ _=>False) s4:=h4
   refine zr (zr (no (xZ h4' (fun x s5 h5=>zr (no (xZ h5 (fun _ s6 h6=>zD (zD ⟨rfl,h6⟩)) fun _ _ q=>q))) fun _ _ q=>q)))
def PF(X:Cx)(ifs:List Expr)(t:TT):Prop:=
 ∀(pins:List (Addr×Obj)) (s:Shared) (σ:St) (H:Hp) (Q:Bool->Hp->Prop),Inv X pins σ H s->t σ H Q->wpAny (model X.prog X.w) X.A (Z1 ifs X.env) (TP X pins σ Q) X.xe s
def zhT:TT:=fun _ H Q=>Q true H
theorem jw{X:Cx}:PF X [] zhT:=fun pins s σ H Q I h=>zD ⟨H,I,h⟩
theorem xX{X:Cx}{c:Expr}{t:TT}(hc:PT X c t):PF X [c] t:=by
 intro pins s σ H Q I h
 unfold Z1
 simp only[X0,Yb,if_true]
 refine zr (zr (thn (hc pins s σ H Q I h) fun ok s1 q=>zD (zD q)))
theorem zaM{P:Program}{w:World}{H:Hp}{h h':Heap}{C:Addr}(x:HOk P w H h)(hn:H C=none)(k:∀b o,b≠C->h.get? b=some o->h'.get? b=some o):HOk P w H h':=fun b u e=>by
 refine(x b u e).stay (fun c v hc q=>k c v ?_ q) (fun _ q=>q) fun _ _ q=>q
 rcases hc with z | z
 ·rw[z];exact zn e hn
 ·exact zn z hn
theorem JP{P:Program}{w:World}{H:Hp}{h:Heap}{a:Addr}{o:HO}(x:HOk P w H h)(hn:H a=none)(new:ObjOk P w (upd H a o) h a o):HOk P w (upd H a o) h:=fun b u e=>by
 by_cases hb:b=a
 ·subst hb;rw[zb] at e;cases e;exact new
 ·rw[zi hb] at e
  exact(x b u e).stay (fun c v _ q=>q) (fun c q=>by rw[zi (zn q hn)];exact q) fun c xs q=>by rw[zi (zn q hn)];exact q
theorem Vm{fs ex:List Addr}{H H':Hp}{h h':Heap}{a:Addr}{o:HO}(u:Un fs ex H H' h h')(ha:a∈ex)(hn:H a=none):Un fs ex H (upd H' a o) h h' where
 keep:=u.keep
 slot:=u.slot
 free:=fun b ob q n hx=>by
  have hb:b≠a:=fun z=>hx (by rw[z];exact ha)
  rw[zi hb];exact u.free b ob q n hx
 there:=u.there
 tups:=fun b xs q=>by rw[zi (zn q hn)];exact u.tups b xs q
 frzs:=fun b ob v q=>by rw[zi (zn q hn)];exact u.frzs b ob v q
 tbls:=fun b ps q=>by rw[zi (zn q hn)];exact u.tbls b ps q
theorem zb4{fs ex:List Addr}{H H':Hp}{h h1 h2:Heap}{C:Addr}(u:Un fs ex H H' h h1)(hC:h.objs.size<=C)(k:∀b o,b≠C->h1.get? b=some o->h2.get? b=some o):Un fs ex H H' h h2 where
 keep:=fun b o q n hb hx=>k b o (qm (j9 (zR q) hC)) (u.keep b o q n hb hx)
 slot:=fun b o q n hb hx=>let ⟨sl,e⟩:=u.slot b o q n hb hx;⟨sl,k b _ (qm (j9 (zR q) hC)) e⟩
 free:=u.free
 there:=fun b o q hx=>let ⟨o',e⟩:=u.there b o q hx;⟨o',k b _ (qm (j9 (zR q) hC)) e⟩
 tups:=u.tups
 frzs:=u.frzs
 tbls:=u.tbls
def QP(sn on:List (Str×NameKind))(N fr:List Str)(js:List Nat):Bool:=
 sn.all (fun y=>y.2 != .cell&&(y.2 != .local||sn.lookup y.1==some .local)&&(y.2 != .free||(on.lookup y.1==some .cell||on.lookup y.1==some .free)))&&fr.length==js.length
  && (fr.zip js).all fun p=>sn.lookup p.1==some .free&&N[p.2]? ==some p.1
structure zfK(sn on:List (Str×NameKind))(N fr:List Str)(js:List Nat):Prop where
 cell:∀y∈sn,y.2≠NameKind.cell
 loc:∀y∈sn,y.2=NameKind.local->sn.lookup y.1=some .local
 free:∀y∈sn,y.2=NameKind.free->on.lookup y.1=some .cell\/on.lookup y.1=some .free
 len:fr.length=js.length
 fr:∀(k:Nat) (x:Str),fr[k]? =some x->sn.lookup x=some .free/\∃j:Nat,js[k]? =some j/\N[j]? =some x
theorem zdJ{sn on:List (Str×NameKind)}{N fr:List Str}{js:List Nat}(h:QP sn on N fr js=true):zfK sn on N fr js:=by
 unfold QP at h
 rw[jG,jG,xF,xF] at h
 obtain⟨⟨h1,h2⟩,h3⟩:=h
 have h2':fr.length=js.length:=by simpa using h2
 refine⟨fun y hy=>?_,fun y hy e=>?_,fun y hy e=>?_,h2',fun k x e=>?_⟩
 ·have:=h1 y hy
  simp only[jG,bne_iff_ne] at this
  exact this.1.1
 ·have:=h1 y hy
  simp only[jG,Q0,bne_iff_ne,xT] at this
  exact this.1.2.resolve_left fun z=>z e
 ·have:=h1 y hy
  simp only[jG,Q0,bne_iff_ne,xT] at this
  exact this.2.resolve_left fun z=>z e
 ·have hk:k<fr.length:=(zW.mp e).1
  have hj:k<js.length:=by omega
  have hm:(x,js[k])∈fr.zip js:=by
   refine qU (i:=k) ?_
   rw[YA]
   exact⟨e,by simp[hj]⟩
  have:=h3 _ hm
  simp only[jG,xT] at this
  exact⟨this.1,js[k],by simp[hj],this.2⟩
def upS(n:Nat)(js:List Nat)(σ:St):St:=List.replicate n none++js.map fun j=>(σ[j]?).join
def tLC(wi:TI)(n:Nat)(js:List Nat)(g:TG)(tf:TT)(te:TE):TE:=fun σ H Q=>wi σ H fun J H1=>
 ∃W:Nat->Nat->List V->Hp->Prop,(∃m,W 0 m [] H1)/\∀i m ys H2,W i m ys H2 ->
  (J.stop i H2/\ys.length<=sizeLine/\∀D,H2 D=none->Q (.ref D) (upd H2 D (.lst ys))) \/
  (J.go i H2/\∃N:List V->Hp->Prop,(∀zs H',N zs H'->∃m',m'<m/\W (i+1) m' zs H')/\∀x H3,J.yld i H2 x H3->g x (upS n js σ) H3 fun σ4 H4=>σ4.drop n=(upS n js σ).drop n/\tf σ4 H4 fun b H5=>
   if b=true then te σ4 H5 fun y H6=>ys.length<sizeLine/\N (ys++[y]) H6 else N ys H5)
theorem we{env:Env}{x:Str}{k':NameKind}:∀{names:List (Str×NameKind)},(names.map fun(n,k)=>if(k==NameKind.free&&env.scope.kind==.function&&env.kindOf n==some .cell) then(n,NameKind.cell) else(n,k)).lookup x=some k' ->
  ∃k,names.lookup x=some k/\(k'=k\/(k=.free/\k'=.cell))
 | [],h=>by simp at h
 | (n,k)::r,h=>by
  by_cases hx:(x==n)=true
  ·refine⟨k,by simp[jQ,hx],?_⟩
   have h:List.lookup x ((if(k==NameKind.free&&env.scope.kind==.function&&env.kindOf n==some .cell)=true then(n,NameKind.cell) else(n,k))::_)=some k':=h
   by_cases hc:(k==NameKind.free&&env.scope.kind==.function&&env.kindOf n==some .cell)=true
   ·rw[zH hc,jQ,hx] at h
    simp only[jG,xT] at hc
    exact .inr ⟨hc.1.1,(jT h).symm⟩
   ·rw[zx hc,jQ,hx] at h
    exact .inl (jT h).symm
  ·have hx':(x==n)=false:=by simpa using hx
   have h:List.lookup x ((if(k==NameKind.free&&env.scope.kind==.function&&env.kindOf n==some .cell)=true then(n,NameKind.cell) else(n,k))::_)=some k':=h
   have h2:(r.map fun(n,k)=>if(k==NameKind.free&&env.scope.kind==.function&&env.kindOf n==some .cell) then(n,NameKind.cell) else(n,k)).lookup x=some k':=by
    by_cases hc:(k==NameKind.free&&env.scope.kind==.function&&env.kindOf n==some .cell)=true
    ·rw[zH hc,jQ,hx'] at h;exact h
    ·rw[zx hc,jQ,hx'] at h;exact h
   obtain⟨k0,e,z⟩:=we h2
   exact⟨k0,by rw[jQ,hx'];exact e,z⟩
theorem yf{env:Env}{x:Str}:∀{names:List (Str×NameKind)},names.lookup x=some .free->∃k',(names.map fun(n,k)=>if(k==NameKind.free&&env.scope.kind==.function&&env.kindOf n==some .cell) then(n,NameKind.cell) else(n,k)).lookup x=some k'/\(k'=.cell\/k'=.free)
 | [],h=>by simp at h
 | (n,k)::r,h=>by
  by_cases hx:(x==n)=true
  ·rw[jQ,hx] at h
   cases(jT h)
   show ∃k',List.lookup x ((if(NameKind.free==NameKind.free&&env.scope.kind==.function&&env.kindOf n==some .cell)=true then(n,NameKind.cell) else(n,NameKind.free))::_)=some k'/\_
   by_cases hc:(NameKind.free==NameKind.free&&env.scope.kind==.function&&env.kindOf n==some .cell)=true
   ·rw[zH hc];exact⟨.cell,by simp[jQ,hx],.inl rfl⟩
   ·rw[zx hc];exact⟨.free,by simp[jQ,hx],.inr rfl⟩
  ·have hx':(x==n)=false:=by simpa using hx
   rw[jQ,hx'] at h
   obtain⟨k',e,z⟩:=yf (env:=env) (names:=r) h
   refine⟨k',?_,z⟩
   show List.lookup x ((if(k==NameKind.free&&env.scope.kind==.function&&env.kindOf n==some .cell)=true then(n,NameKind.cell) else(n,k))::_)=some k'
   by_cases hc:(k==NameKind.free&&env.scope.kind==.function&&env.kindOf n==some .cell)=true
   ·rw[zH hc,jQ,hx'];exact e
   ·rw[zx hc,jQ,hx'];exact e
theorem qN{cs:List (Str×Addr)}{names:List (Str×NameKind)}{x:Str}{c:Addr}(h:(jF cs names []).lookup x=some c)(hf:∀y∈names,y.2=NameKind.free->∃c,cs.lookup y.1=some c):cs.lookup x=some c:=by
 rw[vU] at h
 by_cases hr:(names.any fun y=>y.2==NameKind.free&&x==y.1)=true
 ·rw[zH hr] at h
  obtain⟨y,hy,e⟩:=vP.mp hr
  simp only[jG,xT] at e
  obtain⟨c',e'⟩:=hf y hy e.1
  rw[<- e.2] at e'
  rw[e'] at h ⊢
  exact h
 ·rw[zx hr] at h
  cases h
theorem wP{cs:List (Str×Addr)}{names:List (Str×NameKind)}{x:Str}(h:names.lookup x=some .free):(jF cs names []).lookup x=some ((cs.lookup x).getD 0):=by
 rw[vU,zH]
 exact vP.mpr ⟨(x,.free),ya h,by simp⟩
theorem yy{n:Nat}{js:List Nat}{σ:St}{i:Nat}{v:V}(h:(upS n js σ)[i]? =some (some v)):n<=i/\((upS n js σ).drop n)[i-n]? =some (some v)/\∃j:Nat,js[i-n]? =some j/\σ[j]? =some (some v):=by
 unfold upS at h ⊢
 by_cases hi:i<n
 ·rw[wz (by simpa using hi),List.getElem?_replicate] at h
  split at h<;>cases h
 ·have e:(List.replicate n (none:Option V)++js.map fun j=>(σ[j]?).join).drop n=js.map fun j=>(σ[j]?).join:=by
   rw[List.drop_append_of_le_length (by simp)];simp
  rw[wA (by simpa using hi),Vc] at h
  refine⟨by omega,by rw[e];exact h,?_⟩
  rw[qr] at h
  cases ej:js[i-n]? with
  | none=>rw[ej] at h;cases h
  | some j=>
   rw[ej] at h
   have h:(σ[j]?).join=some v:=jT h
   refine⟨j,rfl,?_⟩
   cases eo:σ[j]? with
   | none=>rw[eo] at h;cases h
   | some o=>rw[eo] at h;exact congrArg some h
theorem YI{n:Nat}{js:List Nat}{σ:St}:(upS n js σ).length=n+js.length:=by unfold upS;simp
section
variable{X:Cx}{elt tg iter:Expr}{ifs:List Expr}{scope:Scope}{pos:Pos}{wi:TI}{g:TG}{tf:TT}{te:TE}
theorem zbU{pins:List (Addr×Obj)}{σ:St}{H:Hp}{s:Shared}{fp:List Addr}(own fr:List Str)(js:List Nat)(I:Inv X pins σ H s)(B:zfK scope.names X.env.scope.names X.N fr js)(hk:scope.kind=.function)
  (f2:∀b∈fp,vm X pins H b) (fl:∀b∈fp,b<s.heap.objs.size) {D C:Addr} (hD:D=s.heap.objs.size) {h3 h1:Heap} (e3:h3=s.heap.push { cls:=.type "list",dict:=none,data:=.seq ([]:List Value).toArray }) (hC:C=h3.objs.size)
  {m:Str->Option Value} (hns:h1.Ns C m) (k4:∀b o,h3.get? b=some o->h1.get? b=some o) {t4:Nat} :
  Inv (jd X (own++fr) scope C { s with heap:=h3 } H (D::fp)) [] (upS own.length js σ) H { s with heap:=h1,toks:=t4 }:=by
 have k3:∀b o,s.heap.get? b=some o->h3.get? b=some o:=fun b o e=>by rw[e3];exact qx _ e
 have I3:Inv X pins σ H { s with heap:=h3 }:=I.kept (t':=s.toks) k3
 have hz:h3.objs.size=s.heap.objs.size+1:=by rw[e3,xh]
 have hasF:∀y∈scope.names,y.2=NameKind.free->∃c,X.env.cells.lookup y.1=some c:=fun y hy e=>I.ok.has y.1 (B.free y hy e)
 have cellLt:∀x c,X.env.cells.lookup x=some c->c<s.heap.objs.size:=fun x c e=>by
  obtain⟨v,q⟩:=I.cell x c e
  exact q.lt
 refine⟨⟨I.ok.mod,hk,I.ok.glob,I.ok.blt,yn hC.symm,fun x y c e1 e2=>?_,fun x hx=>?_,fun x c hf=>(nomatch hf),fun hc=>I.ok.hd hc,I.ok.frames,.inl rfl,fun b hb=>?_,I3.bs,ja I.ok.bsz I3.sz,fun b o e hb=>?_,fun b hb hf=>?_,I3.stack,I3.stkFree⟩,
  rfl,I.bare,Un.kept k4,⟨m,hns,fun i x v e1 e2 e3'=>?_⟩,fun x c e=>?_,?_,fun x c e=>?_,fun p hp=>absurd (show p∈([]:List (Addr×Obj)) from hp) (by simp),I3.hok.kept k4,?_⟩
 ·exact I.ok.inj x y c (qN e1 hasF) (qN e2 hasF)
 ·obtain⟨k,e,z⟩:∃k,scope.names.lookup x=some k/\(k=.free):=by
   rcases hx with hx | hx
   ·obtain⟨k,e,z⟩:=we hx
    rcases z with z | z
    ·subst z;exact absurd rfl (B.cell _ (ya e))
    ·exact⟨k,e,z.1⟩
   ·obtain⟨k,e,z⟩:=we hx
    rcases z with z | z
    ·subst z;exact⟨_,e,rfl⟩
    ·exact⟨k,e,z.1⟩
  subst z
  exact⟨_,wP e⟩
 ·rcases zZ.mp hb with z | hb
  ·subst z
   refine⟨by rw[hD,hC,hz];exact qm (ZM _),fun x c e=>?_⟩
   have:=cellLt x c (qN e hasF)
   rw[hD];exact qm this
  ·refine⟨by rw[hC,hz];exact qm (yX (fl b hb)),fun x c e=>?_⟩
   exact(f2 b hb).2.2.2.2.1 x c (qN e hasF)
 ·rcases zZ.mp hb with z | hb
  ·have:=zR (I.bk b o e)
   rw[z,hD] at this
   exact vv _ this
  ·rcases(f2 b hb).2.2.2.1 with z | z
   ·exact I.ok.noex b o e z
   ·exact absurd (j9 (zR (I.ok.bs b o e).1) z) (vv _)
 ·have hf':=zZ.mp (I.stkSub b hf)
  rcases zZ.mp hb with z | hb
  ·rcases hf' with y | y
   ·have:=I.lt
    rw[<- y,z,hD] at this
    exact vv _ this
   ·exact I.nofs (a:=b) (by rw[z,hD];exact zJ _) y
  ·rcases hf' with y | y
   ·exact(f2 b hb).2.1 y
   ·exact(f2 b hb).2.2.1 y
 ·obtain⟨hn,_,j,ej,es⟩:=yy e2
  have ex:fr[i-own.length]? =some x:=by rw[wA hn] at e1;exact e1
  obtain⟨hfx,j',ej',eN⟩:=B.fr _ x ex
  have:j'=j:=by rw[ej] at ej';exact(jT ej').symm
  subst this
  have hkx:=B.free _ (ya hfx) rfl
  obtain⟨m0,_,hl⟩:=I.loc
  obtain⟨u,r,l⟩:=hl j' x v eN es (by rcases hkx with z | z;exact .inr (.inl z);exact .inr (.inr z))
  refine⟨u,r,.inr ?_⟩
  rcases l with ⟨kl,_⟩ | ⟨_,c,ec,o,eo,ed⟩
  ·have kl':X.env.scope.names.lookup x=some .local:=kl
   rcases hkx with z | z
   ·exact absurd (z.symm.trans kl') (by decide)
   ·exact absurd (z.symm.trans kl') (by decide)
  ·obtain⟨k',e',z⟩:=yf (env:=X.env) hfx
   have eq:(jF X.env.cells scope.names []).lookup x=some c:=by rw[wP hfx,ec];rfl
   refine⟨?_,c,eq,o,k4 c o (k3 c o eo),ed⟩
   rcases z with z | z
   ·subst z;exact .inl e'
   ·subst z;exact .inr e'
 ·obtain⟨v,o,eo,ed⟩:=I.cell x c (qN e hasF)
  exact⟨v,o,k4 c o (k3 c o eo),ed⟩
 ·exact I3.hok.fresh (yn hC.symm)
 ·exact I.freeC x c (qN e hasF)
 ·rw[YI,<- B.len]
  show _=(own++fr).length
  rw[zV]
inductive LcJ(Y:Cx)(D:Addr)(tn:Nat->Heap->Prop)(fp:List Addr)(pins:List (Addr×Obj))(σ:St)(W:Nat->Nat->List V->Hp->Prop)(n:Nat)(s:Shared):Prop
 | mk (i:Nat) (ys:List V) (its:List Value) (H':Hp) (z:Nat) (_:Inv Y pins σ H' s) (_:tn i s.heap) (_:∀b∈fp,H' b=none) (_:H' D=none) (_:s.heap.get? D=some { cls:=.type "list",data:=.seq its.toArray z }) (_:Vals ys its) (_:W i n ys H'):LcJ Y D tn fp pins σ W n s
inductive LcE(Y:Cx)(D:Addr)(pins:List (Addr×Obj))(σ:St)(N:List V->Hp->Prop)(s:Shared):Prop
 | mk (ys:List V) (its:List Value) (H':Hp) (z:Nat) (_:Inv Y pins σ H' s) (_:H' D=none) (_:s.heap.get? D=some { cls:=.type "list",data:=.seq its.toArray z }) (_:Vals ys its) (_:N ys H'):LcE Y D pins σ N s
theorem zeJ{Y:Cx}{D it:Addr}{fp:List Addr}{tn:Nat->Heap->Prop}{J:It}{pins:List (Addr×Obj)}{σ4:St}{Kp:St->Prop}{W:Nat->Nat->List V->Hp->Prop}{N:List V->Hp->Prop}{n:Nat}{s5:Shared}
  (hc:Y.calm=true) (hx:Y.xe=fun _ _=>False) (hg:PG Y tg g) (hf:PF Y ifs tf) (he:PE Y elt te) (T:Jb Y.prog Y.w Y.K tg J fp it tn)
  (fD:∀H':Hp,H' D=none->vm Y pins H' D) (f2:∀b∈fp,∀H':Hp,H' b=none->vm Y pins H' b) (nD:∀b∈fp,D≠b) (bk:∀σ9 H' s',Inv Y pins σ9 H' s'->Kp σ9->Inv Y pins σ4 H' s')
  (turn:∀i m zs H7,W i m zs H7->(J.stop i H7/\N zs H7)\/(J.go i H7/\∃N2:List V->Hp->Prop,(∀zs H',N2 zs H'->∃m',m'<m/\W (i+1) m' zs H')/\∀x H8,J.yld i H7 x H8->g x σ4 H8 fun σ9 H9=>Kp σ9/\tf σ9 H9 fun b H10=>
    if b=true then te σ9 H10 fun y H11=>zs.length<sizeLine/\N2 (zs++[y]) H11 else N2 zs H10)) (j:LcJ Y D tn fp pins σ4 W n s5) :
  wpAny (model Y.prog Y.w) Y.A (pyNext (.ref it)) (fun r s1=>match r with
   | none=>LcE Y D pins σ4 N s1
   | some v=>wpAny (model Y.prog Y.w) Y.A (letOwnedTupleGo tg (.ref it) v) (fun _ s2=>wpAny (model Y.prog Y.w) Y.A (assign tg Y.env v) (fun _ s3=>
     wpAny (model Y.prog Y.w) Y.A (Z1 ifs Y.env) (fun ok s4=>
      if ok=true then wpAny (model Y.prog Y.w) Y.A (eval elt Y.env) (fun x s5=>
       wpAny (model Y.prog Y.w) Y.A (call (.builtin "list.append") [.ref D,x]) (fun _ s6=>∃m,m<n/\LcJ Y D tn fp pins σ4 W m s6) (fun _ _=>False) s5) (fun _ _=>False) s4
      else ∃m,m<n/\LcJ Y D tn fp pins σ4 W m s4) (fun _ _=>False) s3) (fun _ _=>False) s2) (fun _ _=>False) s1) (fun _ _=>False) s5:=by
 unfold PG at hg;unfold PF at hf;unfold PE at he
 rw[hx] at hg hf he
 obtain⟨i,ys,its,H5,z5,I5,st5,fr5,hD5,ho5,rv5,w5⟩:=j
 have I5':=I5.pinned (fp:=[D]) (fun b hb=>by rw[qo.mp hb];exact fD _ hD5) (fun b hb=>by rw[qo.mp hb];exact⟨_,ho5,fun v q=>nomatch q⟩)
 have mD:(D,({ cls:=.type "list",data:=.seq its.toArray z5 }:Obj))∈pins++jk [D] s5.heap:=jL _ (jY (qo.mpr rfl) ho5)
 have fp5:∀{H':Hp},(∀b∈fp,H' b=none)->∀b∈fp,vm Y (pins++jk [D] s5.heap) H' b:=fun hn b hb=>by
  obtain⟨a1,a2,a3,a4,a5,a6⟩:=f2 b hb _ (hn b hb)
  refine⟨a1,a2,a3,a4,a5,fun p hp=>?_⟩
  rcases qT.mp hp with q | q
  ·exact a6 p (vw _ q)
  ·rcases qT.mp q with q | q
   ·exact a6 p (jL _ q)
   ·rw[qo.mp (Zl q).1];exact nD b hb
 rcases turn i n ys H5 w5 with ⟨stop,q⟩ | ⟨go,N2,hN,step⟩
 ·refine thn (T.done Y rfl rfl rfl hc i _ s5 _ H5 _ I5' (fp5 fr5) st5 stop) fun r s6 ⟨hr,I6⟩=>?_
  subst hr
  obtain⟨o6,nD6,_⟩:=I6.pin (D,_) (jL _ mD)
  exact⟨ys,its,H5,z5,I6.unpinned,nD6,o6,rv5,q⟩
 ·refine thn (T.item Y rfl rfl rfl hc i _ s5 _ H5 _ I5' (fp5 fr5) st5 go) fun r s6 ⟨u,hr,h6⟩=>?_
  subst hr
  refine thn h6 fun _ s7 ⟨x,H7,I7,r7,y7,st7,fr7⟩=>?_
  refine thn (hg _ s7 _ H7 x u _ (I7.pinned (fp5 fr7) (T.obj _ _ st7)) r7 (step x H7 y7)) fun _ s8 ⟨σ8,H8,I8,hd8,q8⟩=>?_
  refine thn (hf _ s8 σ8 H8 _ I8 q8) fun ok s9 ⟨H9,I9,q9⟩=>?_
  have mD':=jL Y.pn (vw (jk fp s7.heap) mD)
  have mF:∀b∈fp,∀o,s7.heap.get? b=some o->(b,o)∈Y.pn++((pins++jk [D] s5.heap)++jk fp s7.heap):=fun b hb o e=>jL _ (jL _ (jY hb e))
  generalize hP:(pins++jk [D] s5.heap)++jk fp s7.heap=P at I9 mD' mF he
  have weak:∀{H':Hp} {s':Shared},Inv Y P σ8 H' s'->Inv Y pins σ4 H' s':=fun {H' s'} J=>by subst hP;exact bk _ _ _ (J.unpinned).unpinned hd8
  have frB:∀{H':Hp} {s':Shared},Inv Y P σ8 H' s'->∀b∈fp,H' b=none:=fun {H' s'} J b hb=>by
   obtain⟨o,e,_⟩:=T.obj _ _ st7 b hb
   exact(J.pin (b,o) (mF b hb o e)).2.1
  cases ok with
  | false=>
   obtain⟨m',hm,w'⟩:=hN _ _ (show N2 ys H9 by simpa using q9)
   obtain⟨o9,nD9,_⟩:=I9.pin (D,_) mD'
   exact⟨m',hm,i+1,ys,its,H9,z5,weak I9,T.keep _ _ _ st7 fun b hb o e=>(I9.pin (b,o) (mF b hb o e)).1,frB I9,nD9,o9,rv5,w'⟩
  | true=>
   refine thn (he _ s9 σ8 H9 (fun y H6=>ys.length<sizeLine/\N2 (ys++[y]) H6) I9 (by simpa using q9)) fun yv s10 ⟨y,H10,I10,r10,hlt,w10⟩=>?_
   obtain⟨m',hm,w'⟩:=hN _ _ w10
   obtain⟨o10,nD10,_⟩:=I10.pin (D,_) mD'
   refine wpAny_list_append_plain (l:=D) (items:=its.toArray) (hsz:=by rw[qv,<- rv5.length];exact yo hlt) ⟨_,o10⟩ fun h11 hl11 hs11=>?_
   obtain⟨z11,e11⟩:=hl11
   obtain⟨d0,d1,d2,d3,d4,d5⟩:=fD _ nD10
   refine⟨m',hm,i+1,ys++[y],its++[yv],H10,z11,?_,T.keep _ _ _ st7 fun b hb o e=>hs11.extBut b o (qy (nD b hb)) (I10.pin (b,o) (mF b hb o e)).1,frB I10,nD10,?_,rv5.append (.cons r10 .nil),w'⟩
   ·exact(weak I10).turned (t':=s10.toks) (it:=D) (fun b o hb e=>hs11.extBut b o hb e) nD10 d1 d3 d4 d5
   ·rw[e11];simp
theorem zfI{use:Option (Value->Sem Unit)}{Qx:Value->Shared->Prop}{cp:Pos}{rest:List Comprehension}{pins:List (Addr×Obj)}{s:Shared}{σ:St}{H:Hp}{Q:VK}{Tl:It->(Nat->Nat->List V->Hp->Prop)->Prop}(own fr:List Str)(js:List Nat)(hk:scope.kind=.function)(hb:QP scope.names X.env.scope.names X.N fr js=true)(hi:PI X tg iter wi)
  (hs:∀x,foldedSetIterable iter X.env x=pure x) (I:Inv X pins σ H s) (h:wi σ H fun J H1=>∃W:Nat->Nat->List V->Hp->Prop,(∃m,W 0 m [] H1)/\Tl J W)
  (loop:∀(C D it:Addr) (fp:List Addr) (tn:Nat->Heap->Prop) (J:It) (W:Nat->Nat->List V->Hp->Prop) (H2:Hp) (s3 s4:Shared) (m0:Nat) (R:Result->Shared->Prop),(∀b∈D::fp,∀H':Hp,H' b=none->vm (jd X (own++fr) scope C s3 H2 (D::fp)) [] H' b)->(∀b∈fp,D≠b) ->
   Jb X.prog X.w X.K tg J fp it tn->Tl J W->LcJ (jd X (own++fr) scope C s3 H2 (D::fp)) D tn fp [] (upS own.length js σ) W m0 s4 ->
   (∀s6,LcE (jd X (own++fr) scope C s3 H2 (D::fp)) D [] (upS own.length js σ) (fun ys H5=>ys.length<=sizeLine/\∀D,H5 D=none->Q (.ref D) (upd H5 D (.lst ys))) s6->R (.ok .next) s6) ->
   codeAny (model X.prog X.w) X.A (.compLoop (.ListComp elt (⟨tg,iter,ifs,0⟩::rest) scope pos) 0 (.ref it) (.ref D) (compEnvC scope (jF X.env.cells scope.names []) C X.env)) R s4)
  (fin:∀(s6:Shared) (D C:Addr) (H6:Hp) (m:Str->Option Value),s6.heap.Ns C m->(∀h7:Heap,(∀b o,b≠C->s6.heap.get? b=some o->h7.get? b=some o)->Inv X pins σ H6 { s6 with heap:=h7 })->vm X pins H6 C->Q (.ref D) H6->compPost (model X.prog X.w) X.A X.xe use Qx (.ref D) C (.ok .next) s6) :
  wpAny (model X.prog X.w) X.A (comprehension (.ListComp elt (⟨tg,iter,ifs,0⟩::rest) scope pos) scope X.env cp (newList []) false (eval iter X.env) use) Qx X.xe s:=by
 have B:=zdJ hb
 have hasF:∀y∈scope.names,y.2=NameKind.free->∃c,X.env.cells.lookup y.1=some c:=fun y hy e=>I.ok.has y.1 (B.free y hy e)
 refine wpAny_comprehension_free rfl hs (zaW hasF) hk (fun y hy e=>B.loc y hy e) (thn (hi pins s σ H _ I h) fun v s1 h1=>thn h1 fun itv s2 h2=>?_)
 obtain⟨it,fp,tn,J,H2,e,I2,T,st2,f2,W,⟨m0,w0⟩,tl⟩:=h2
 subst e
 have fl:∀b∈fp,b<s2.heap.objs.size:=fun b hb=>let ⟨o,e,_⟩:=T.obj _ _ st2 b hb;zR e
 refine wx (wpAny_newFunctionEnv B.cell (by intro y hy;simp at hy) (fun h1 hns hsb=>?_) hk)
 dsimp only at hns hsb ⊢
 generalize e3:s2.heap.push { cls:=.type "list",dict:=none,data:=.seq ([]:List Value).toArray }=h3 at hns hsb ⊢
 have k3:∀b o,s2.heap.get? b=some o->h3.get? b=some o:=fun b o e=>by rw[<- e3];exact qx _ e
 have k4:∀b o,h3.get? b=some o->h1.get? b=some o:=fun b o e=>hsb.extBut b o (qm (zR e)) (qx _ e)
 have I4:Inv (jd X (own++fr) scope h3.objs.size { s2 with heap:=h3 } H2 (s2.heap.objs.size::fp)) [] (upS own.length js σ) H2 { s2 with heap:=h1,toks:=s2.toks+([]:List (Str×Value)).length }:=
  zbU own fr js I2 B hk f2 fl rfl e3.symm rfl hns k4
 have I3:Inv X pins σ H2 { s2 with heap:=h3 }:=I2.kept (t':=s2.toks) k3
 have hz:h3.objs.size=s2.heap.objs.size+1:=by rw[<- e3,xh]
 have hDl:s2.heap.objs.size≠h3.objs.size:=by rw[hz];exact qm (ZM _)
 have hacc:h1.get? s2.heap.objs.size=some { cls:=.type "list",data:=.seq ([]:List Value).toArray }:=k4 _ _ (by rw[<- e3];exact qD _ rfl)
 have fpC:=(I3.fpOk (b:=h3.objs.size) (zJ _) (I3.hok.fresh (zJ _))).2
 have dN:H2 s2.heap.objs.size=none:=I2.hok.fresh (zJ _)
 have dO:=I2.fpOk (b:=s2.heap.objs.size) (zJ _) dN
 have fD:∀b∈fp,s2.heap.objs.size≠b:=fun b hb=>vc (fl b hb)
 generalize s2.heap.objs.size=D at *
 generalize eC:h3.objs.size=C at *
 have hx:∀b,vm X pins H2 b->∀x c,(jF X.env.cells scope.names []).lookup x=some c->c≠b:=fun b hb x c e=>hb.2.2.2.2.1 x c (qN e hasF)
 have nfs:∀b∈D::fp,b∉frs X.stack:=I4.ok.exfs
 have nC:∀b∈D::fp,b≠C:=fun b hb=>by
  rcases zZ.mp hb with z | hb
  ·rw[z];exact hDl
  ·exact(I4.ok.exf b (jv _ hb)).1
 have all:∀b∈D::fp,vm X pins H2 b:=fun b hb=>by
  rcases zZ.mp hb with z | hb
  ·rw[z];exact dO
  ·exact f2 b hb
 have fpB:∀b∈D::fp,∀H':Hp,H' b=none->vm (jd X (own++fr) scope C { s2 with heap:=h3 } H2 (D::fp)) [] H' b:=fun b hb H' hn=>
  ⟨hn,nC b hb,nfs b hb,.inl hb,fun x c e=>hx b (all b hb) x c e,fun p h=>absurd h (by simp)⟩
 have go:∀s4:Shared,s4={ s2 with heap:=h1,toks:=s2.toks+([]:List (Str×Value)).length } ->
   codeAny (model X.prog X.w) X.A (.compLoop (.ListComp elt (⟨tg,iter,ifs,0⟩::rest) scope pos) 0 (.ref it) (.ref D) (compEnvC scope (jF X.env.cells scope.names []) C X.env)) (compPost (model X.prog X.w) X.A X.xe use Qx (.ref D) C) s4:=by
  intro s4 e4
  subst e4
  refine loop C D it fp tn J W H2 _ _ m0 _ fpB fD T tl ⟨0,[],[],H2,0,I4,T.keep _ _ _ st2 fun b hb o e=>k4 b o (k3 b o e),fun b hb=>(f2 b hb).1,dN,hacc,.nil,w0⟩ fun s6 h6=>?_
  obtain⟨ys,its,H5,z5,I6,nD6,o6,rv5,hlen,q⟩:=h6
  obtain⟨m6,hn6,_⟩:=I6.loc
  have hC0:upd H5 D (.lst ys) C=none:=by rw[zi (qy hDl)];exact I6.free
  refine fin s6 D C (upd H5 D (.lst ys)) m6 hn6 (fun h7 k7=>?_) ⟨hC0,fpC⟩ (q D nD6)
  refine I3.call' (s':={ s6 with heap:=h7 }) (ch:=D::fp) I6.os (Vm (zb4 I6.base (yn eC) k7) j8 dN) (JP (zaM I6.hok I6.free k7) nD6 ⟨hlen,its,z5,rv5,k7 D _ hDl o6⟩) I6.bare fun b hb=>?_
  obtain⟨_,g1,_,g3,g4,g5⟩:=all b hb
  exact⟨g3,g1,g4,g5⟩
 exact codeAny_compStart_list (go _ rfl) (T.self X.A 0 _ _ _ (T.keep _ _ _ st2 fun b hb o e=>k4 b o (k3 b o e)) (go _ rfl))
theorem zb3{Y:Cx}{pins:List (Addr×Obj)}{n:Nat}{js:List Nat}{σ σ9:St}{H':Hp}{s':Shared}(hl:(upS n js σ).length=Y.N.length)(J:Inv Y pins σ9 H' s')(hd:σ9.drop n=(upS n js σ).drop n):Inv Y pins (upS n js σ) H' s':=by
 refine J.weak (hl.trans J.len.symm) fun k v e=>?_
 obtain⟨hn,e1,_⟩:=yy e
 rw[<- hd,X7] at e1
 rw[<- e1]
 congr 1
 omega
theorem zaD{C D it:Addr}{fp:List Addr}{tn:Nat->Heap->Prop}{J:It}{W:Nat->Nat->List V->Hp->Prop}{H2:Hp}{s3 s4:Shared}{m0 n:Nat}{R:Result->Shared->Prop}{js:List Nat}{σ:St}{N':List Str}{N:List V->Hp->Prop}(hc:X.calm=true)
  (hg:∀C s H ex,PG (jd X N' scope C s H ex) tg g) (hf:∀C s H ex,PF (jd X N' scope C s H ex) ifs tf) (he:∀C s H ex,PE (jd X N' scope C s H ex) elt te) (fpB:∀b∈D::fp,∀H':Hp,H' b=none->vm (jd X N' scope C s3 H2 (D::fp)) [] H' b) (fD:∀b∈fp,D≠b) (T:Jb X.prog X.w X.K tg J fp it tn)
  (turn:∀i m zs H7,W i m zs H7->(J.stop i H7/\N zs H7)\/(J.go i H7/\∃N2:List V->Hp->Prop,(∀zs H',N2 zs H'->∃m',m'<m/\W (i+1) m' zs H')/\∀x H8,J.yld i H7 x H8->g x (upS n js σ) H8 fun σ9 H9=>σ9.drop n=(upS n js σ).drop n/\tf σ9 H9 fun b H10=>
    if b=true then te σ9 H10 fun y H11=>zs.length<sizeLine/\N2 (zs++[y]) H11 else N2 zs H10))
  (j:LcJ (jd X N' scope C s3 H2 (D::fp)) D tn fp [] (upS n js σ) W m0 s4) (fin:∀s6,LcE (jd X N' scope C s3 H2 (D::fp)) D [] (upS n js σ) N s6->R (.ok .next) s6) :
  codeAny (model X.prog X.w) X.A (.compLoop (.ListComp elt [⟨tg,iter,ifs,0⟩] scope pos) 0 (.ref it) (.ref D) (compEnvC scope (jF X.env.cells scope.names []) C X.env)) R s4:=by
 have hl:=(let ⟨_,_,_,_,_,I,_,_,_,_,_,_⟩:=j;I.len:(upS n js σ).length=N'.length)
 refine Wp (LcJ (jd X N' scope C s3 H2 (D::fp)) D tn fp [] (upS n js σ) W) (fun k s5 j=>xZ (zeJ (Y:=jd X N' scope C s3 H2 (D::fp)) hc rfl (hg _ _ _ _) (hf _ _ _ _) (he _ _ _ _) T (fpB D j8) (fun b hb=>fpB b (jv _ hb)) fD (fun σ9 H' s' J hd=>zb3 hl J hd) turn j) (fun r s6 h6=>?_) fun _ _ q=>q) m0 j
 cases r with
 | some v=>exact h6
 | none=>exact fin s6 h6
theorem zfC(own fr:List Str)(js:List Nat)(hc:X.calm=true)(hk:scope.kind=.function)(hb:QP scope.names X.env.scope.names X.N fr js=true)(hi:PI X tg iter wi)
  (hg:∀C s H ex,PG (jd X (own++fr) scope C s H ex) tg g) (hf:∀C s H ex,PF (jd X (own++fr) scope C s H ex) ifs tf) (he:∀C s H ex,PE (jd X (own++fr) scope C s H ex) elt te)
  (hs:∀x,foldedSetIterable iter X.env x=pure x:=by intro _;rfl):PE X (.ListComp elt [⟨tg,iter,ifs,0⟩] scope pos) (tLC wi own.length js g tf te):=by
 intro pins s σ H Q I h
 rw[eval_ListComp]
 exact zfI (rest:=[]) own fr js hk hb hi hs I h (fun C D it fp tn J W H2 s3 s4 m0 R a b T tl j fin=>zaD hc hg hf he a b T tl j fin) fun s6 D C H6 m hn all _ q=>⟨m,hn,fun h7 hs7=>⟨.ref D,H6,all h7 fun b o hb e=>hs7.extBut b o hb e,rfl,q⟩⟩
end
section
variable{X:Cx}{pins:List (Addr×Obj)}{σ:St}{H:Hp}{s:Shared}
theorem XD{ch:List Addr}{h':Heap}{t':Nat}{T:Addr}{ys:List V}{its:List Value}(I:Inv X pins σ H s)(hf:∀b∈ch,vm X pins H b)(hT:s.heap.objs.size<=T)
  (k:∀b o,b∉ch->s.heap.get? b=some o->h'.get? b=some o) (hl:ys.length<=sizeLine) (rv:Vals ys its) (ht:TupX h' T its.toArray) :
  Inv X pins σ (upd H T (.tup ys)) { s with heap:=h',toks:=t' }:=by
 have hn:H T=none:=I.hok.fresh hT
 have ne:∀b o,s.heap.get? b=some o->b≠T:=fun b o e=>qm (j9 (zR e) hT)
 have tr:∀b u,H b=some u->b∉ch:=fun b u e hb=>by rw[(hf b hb).1] at e;cases e
 refine I.step (g':=s.gens) (d':=s.drawn) (ch:=ch) (fun b hb=>?_) (fun b o _ _ hc e _=>k b o hc e) (fun b o _ _ hc e _=>⟨o.slots,k b o hc e⟩) (fun b o _ e n=>by rw[zi (ne b o e)];exact n) (fun b o hc e=>⟨o,k b o hc e⟩)
  (fun b xs e=>by rw[zi (zn e hn)];exact e) (fun b o u e=>by rw[zi (zn e hn)];exact e) (fun b ps e=>⟨#[],by rw[zi (zn e hn),e];simp⟩) (fun m hm=>?_) (fun b u e=>?_) I.bare
 ·obtain⟨_,g1,_,g3,g4,g5⟩:=hf b hb
  exact⟨g3,g1,g4,g5⟩
 ·obtain⟨o,es,ep,ho,r⟩:=hm
  exact⟨o,es,ep,k _ o (fun z=>(hf _ z).2.1 rfl) ho,r⟩
 ·by_cases hb:b=T
  ·subst hb
   rw[zb] at e
   cases e
   exact⟨hl,its,rv,ht⟩
  ·rw[zi hb] at e
   refine(I.hok b u e).stay (fun c v hc q=>k c v ?_ q) (fun c q=>by rw[zi (zn q hn)];exact q) fun c xs q=>by rw[zi (zn q hn)];exact q
   rcases hc with z | z
   ·rw[z];exact tr b u e
   ·exact tr c _ z
end
def Ite(K:PySem.W.Frag)(a:Addr):It:=
 ⟨fun i H=>∃xs x,SqL K H a xs/\xs[i]? =some x,fun i H x H'=>∃T y,x=.ref T/\H T=none/\H'=upd H T (.tup [.int i,y])/\∀xs,SqL K H a xs->xs[i]? =some y,fun i H=>∃xs,SqL K H a xs/\xs.length<=i⟩
theorem zbt{P:Program}{w:World}{K:PySem.W.Frag}{elts:List Expr}{kk:Nat}{pos:Pos}(a e it:Addr)(hne:e≠it) :
  Jb P w K (.Tuple elts kk pos) (Ite K a) [e,it] e (fun i h=>(∃old,IsEnum h e it i old)/\h.IsListIter it a i) where
 mem:=by simp
 obj:=fun i h st b hb=>by
  obtain⟨⟨old,he⟩,⟨o,ho,c,d⟩⟩:=st
  rcases zZ.mp hb with z | z
  ·subst z;exact⟨_,he,fun v q=>nomatch q⟩
  ·rw[qo.mp z];exact⟨o,ho,fun v q=>by rw[d] at q;cases q⟩
 keep:=fun i h h' st k=>by
  obtain⟨⟨old,he⟩,hi⟩:=st
  exact⟨⟨old,k e (by simp) _ he⟩,hi.at fun o q=>k it (by simp) o q⟩
 item:=by
  intro X hP hw hK hc i pins s σ H E I hf st hg
  subst hP hw hK
  obtain⟨⟨old,he⟩,hit⟩:=st
  obtain⟨xs,x,hq,hx⟩:=hg
  obtain⟨its,rv,p,hz⟩:=I.list hq
  obtain⟨u,hu,ru⟩:=rv.get hx
  have hl:=p.isList
  have hai:a≠it:=fun z=>by
   obtain⟨o,e1,c1,_⟩:=hl
   obtain⟨o',e2,c2,_⟩:=hit
   rw[z,e2] at e1;cases e1;rw[c2] at c1;exact absurd (ZJ c1) (by decide)
  have hae:e≠a:=fun z=>by
   obtain⟨o,e1,c1,_⟩:=hl
   rw[<- z,he] at e1;cases e1;exact absurd (ZJ c1) (by decide)
  have D:=Draws.list (prog:=X.prog) (w:=X.w) (A:=X.A.in1) (I.ok.hd hc) it a hai its.toArray
  have hi:i<its.toArray.size:=by
   have h1:=(zW.mp hu).1
   simpa using h1
  refine wpAny_pyNext_enum_itemD D he ⟨hit,hl⟩ hi hne (by simp[hne,hae]) fun x' h' tk hP' hout hst' hT hsz hk=>?_
  have ex:x'=u:=by
   have h2:its[i]? =some x':=by simpa using hP'
   rw[hu] at h2;exact(jT h2).symm
  subst ex
  refine⟨_,rfl,wpAny_letOwnedTupleGo_enum hout fun h2 he2 hs2=>?_⟩
  have eT:s.heap.objs.size≠e:=vc (zR he)
  have k2:∀b o,b∉[e,it]->s.heap.get? b=some o->h2.get? b=some o:=fun b o hb q=>by
   have n1:b≠e:=fun z=>hb (by simp[z])
   have n2:b≠it:=fun z=>hb (by simp[z])
   exact(hs2.2 b n1).trans (hk b o n1 n2 q)
  have it2:h2.IsListIter it a (i+1):=hst'.1.extBut hs2.extBut (qy hne)
  refine⟨.ref s.heap.objs.size,upd H s.heap.objs.size (.tup [.int i,x]),?_,rfl,⟨_,x,rfl,I.hok.fresh (zJ _),rfl,fun ys hy=>by rw[I.list_inj hy hq];exact hx⟩,⟨⟨_,by simpa using he2⟩,it2⟩,fun b hb=>?_⟩
  ·refine XD (s:=s) (h':=h2) (t':=tk+1) (its:=[.int i tk,x']) I hf (zJ _) k2 (by rw[sizeLine_eq];exact(by decide:2<=16777216)) (.cons ⟨tk,rfl⟩ (.cons ru .nil)) (TupX.by ((hs2.2 _ eT).trans hT))
  ·have hb':b<s.heap.objs.size:=by
    rcases zZ.mp hb with z | z
    ·rw[z];exact zR he
    ·rw[qo.mp z]
     obtain⟨o',e',_⟩:=hit
     exact zR e'
   rw[zi (qm hb')]
   exact(hf b hb).1
 done:=by
  intro X hP hw hK hc i pins s σ H E I hf st hg
  subst hP hw hK
  obtain⟨⟨old,he⟩,hit⟩:=st
  obtain⟨xs,hq,hx⟩:=hg
  obtain⟨its,rv,p,hz⟩:=I.list hq
  have hl:=p.isList
  have hai:a≠it:=fun z=>by
   obtain⟨o,e1,c1,_⟩:=hl
   obtain⟨o',e2,c2,_⟩:=hit
   rw[z,e2] at e1;cases e1;rw[c2] at c1;exact absurd (ZJ c1) (by decide)
  obtain⟨f0,f1,f2,f3,f4,f5⟩:=hf it (by simp)
  have hle:its.toArray.size<=i:=by
   have:=rv.length
   simp only[qv];omega
  have hT:s.TypeIs (.ref e) "enumerate" :=⟨_,he,rfl⟩
  unfold pyNext
  refine zr (yp (ZO (name:=Str.ofString "__next__") hT Vb (w9 Vb hT F.entry_enumerate_next ?_ (F.args_enumerate_next_1 _))))
  show wpAny _ _ (field (.ref e) 2 >>= _) _ _ _
  refine zr (vt he rfl (x:=.ref it) rfl (zr (wpAny_nextOf_list_end (I.ok.hd hc) hit hl (by simpa using hle) fun h' x he' hx'=>?_)))
  obtain⟨o,ho,hc'⟩:=hx'
  refine zr (ZL (T:= "StopIteration") (b:=true) ⟨o,ho,hc'⟩ isSubtype_stop ?_)
  exact zD ⟨rfl,I.turned (t':=s.toks) (fun b o hb q=>he' b o hb q) f0 f1 f3 f4 f5⟩
 self:=fun _ _ _ _ _ st h=>let ⟨⟨_,he⟩,_⟩:=st;wpAny_pyIter_enum he h
section
variable{X:Cx}
def zhO(K:PySem.W.Frag)(ta:TA):TI:=fun σ H R=>ta σ H fun vs H1=>∃a,vs=[.ref a]/\(∃xs,SqL K H1 a xs)/\R (Ite K a) H1
theorem zeh{l:Expr}{ta:TA}{p pos tp:Pos}{elts:List Expr}{kk:Nat}(hg:Gl X "enumerate")(hm:X.mg "enumerate" = none)(ha:PA X [l] ta)(hs:starEach [l] X.env=[(false,eval l X.env)]:=by rfl) :
  PI X (.Tuple elts kk tp) (.Call (.Name "enumerate" p) [l] [] pos) (zhO X.K ta):=by
 intro pins s σ H R I h
 refine Call_ (vC I hg hm boot_enumerate (QW (thn (ha pos pins s σ H _ I h) fun us s1 ⟨vs,H1,I1,r1,q1⟩=>?_) hs rfl))
 obtain⟨a,e,⟨xs,hq⟩,q⟩:=q1
 subst e
 obtain⟨u,rfl,ru⟩:=vn r1
 cases ru
 obtain⟨its,rv,pl,hz⟩:=I1.list hq
 refine call_enumerate_list pl.isList fun h' he hi hsz hk=>wpAny_pyIter_enum he ?_
 have I2:Inv X pins σ H1 { s1 with heap:=h' }:=I1.kept (t':=s1.toks) hk
 refine⟨s1.heap.objs.size+1,[s1.heap.objs.size+1,s1.heap.objs.size],_,_,H1,rfl,I2,zbt a _ _ (Nat.succ_ne_self _),⟨⟨_,he⟩,hi⟩,fun b hb=>?_,q⟩
 have hb':s1.heap.objs.size<=b:=by
  rcases zZ.mp hb with z | z
  ·rw[z];exact wC _
  ·rw[qo.mp z];exact zJ _
 exact I1.fpOk hb' (I1.hok.fresh hb')
theorem zdu{K:PySem.W.Frag}{a:Addr}{xs:List V}{g:TG}{tb:TS}{D:Vi}{σ:St}{H:Hp}(Pv:Nat->St->Hp->Prop)(h0:Pv 0 σ H)(hl:∀i σ H,i<=xs.length->Pv i σ H->SqL K H a xs)
  (hs:∀i x σ H T,xs[i]? =some x->Pv i σ H->H T=none->g (.ref T) σ (upd H T (.tup [.int i,x])) fun σ2 H2=>tb { D with nx:=Pv (i+1),ct:=Pv (i+1),bk:=D.nx } σ2 H2) (hd:∀σ H,Pv xs.length σ H->D.nx σ H) :
  ∃W:Nat->Nat->St->Hp->Prop,(∃m,W 0 m σ H)/\∀i m σ H,W i m σ H ->
   ((Ite K a).stop i H/\D.nx σ H)\/((Ite K a).go i H/\∃N:St->Hp->Prop,(∀σ' H',N σ' H'->∃m',m'<m/\W (i+1) m' σ' H')/\∀x H',(Ite K a).yld i H x H'->g x σ H' fun σ2 H2=>tb { D with nx:=N,ct:=N,bk:=D.nx } σ2 H2):=by
 refine⟨fun i m σ H=>m=xs.length-i/\i<=xs.length/\Pv i σ H,⟨xs.length,by simp,qe _,h0⟩,?_⟩
 rintro i m σ H ⟨rfl,hi,p⟩
 have q:=hl i σ H hi p
 by_cases hlt:i<xs.length
 ·refine .inr ⟨⟨xs,xs[i],q,by simp[hlt]⟩,Pv (i+1),fun σ' H' p'=>⟨xs.length-(i+1),by omega,rfl,hlt,p'⟩,fun x H' y=>?_⟩
  obtain⟨T,z,e1,hT,e2,y⟩:=y
  subst e1 e2
  exact hs i z σ H T (y xs q) p hT
 ·have e:i=xs.length:=by omega
  subst e
  exact .inl ⟨⟨xs,q,zJ _⟩,hd σ H p⟩
inductive ZT(K:PySem.W.Frag)(xs:List V)(H:Hp)(Q:VK):Prop
 | mk (p:Addr) (bs:List Bool) (_:xs=[.ref p]) (_:SqL K H p (bs.map V.bl)) (_:Q (.bl (bs.all id)) H):ZT K xs H Q
theorem Zr(hc:X.calm=true):CallR X (.builtin "all") (ZT X.K):=by
 intro pins s σ H xs us Q I r h
 obtain⟨p,bs,rfl,hq,q⟩:=h
 obtain⟨u,rfl,ru⟩:=vn r
 cases ru
 obtain⟨its,rv,pl,hz⟩:=I.list hq
 have hl:=pl.isList
 have hpl:p≠s.heap.objs.size:=by
  obtain⟨o,e,_⟩:=hl
  exact qm (zR e)
 refine call_all_walk (wpAny_pyIter_list hl ?_)
 refine⟨s.heap.objs.size,_,_,_,_,_,fun i=>bs.getD i true,rfl,QX (prog:=X.prog) (w:=X.w) (A:=X.A.in1) (I.ok.hd hc) _ p hpl its.toArray,⟨⟨_,qD _ rfl,rfl,rfl⟩,hl.push _⟩,?_,fun h' tk hk=>?_⟩
 ·intro i v s' Q' E' hP hQ
  have hP:its.toArray[i]? =some v:=hP
  have e1:its[i]? =some v:=by simpa using hP
  have hi:i<bs.length:=by
   have h1:=(zW.mp e1).1
   have h2:=rv.length
   rw[zq] at h2
   omega
  have e2:(bs.map V.bl)[i]? =some (.bl bs[i]):=by simp[hi]
  obtain⟨u',eu,ru⟩:=rv.get e2
  rw[e1] at eu
  cases eu
  cases ru
  have e3:bs.getD i true=bs[i]:=by simp[hi]
  have hQ2:Q' (bs.getD i true) s':=hQ
  rw[e3] at hQ2
  exact yY hQ2
 ·have k:∀b o,s.heap.get? b=some o->h'.get? b=some o:=fun b o e=>hk b o (by simp;exact qm (zR e)) (qx _ e)
  have ea:(List.range its.toArray.size).all (fun i=>bs.getD i true)=bs.all id:=by
   have hlen:its.toArray.size=bs.length:=by
    have:=rv.length
    rw[zq] at this
    simp only[qv];omega
   rw[hlen,ww,xF,xF]
   constructor
   ·intro h b hb
    obtain⟨i,hi,rfl⟩:=Q9.mp hb
    have:=h i (vd.mpr hi)
    simpa [hi] using this
   ·intro h i hi
    have hi:=vd.mp hi
    have:=h bs[i] (yV hi)
    simpa [hi] using this
  exact⟨.bl (bs.all id),H,I.kept k,by rw[ea];rfl,q⟩
end
def SqK(K:PySem.W.Frag)(kd:Bool)(H:Hp)(a:Addr)(xs:List V):Prop:=match kd with
 | true=>SqL K H a xs
 | false=>SqT K H a xs
def SeqK(kd:Bool)(h:Heap)(a:Addr)(its:Array Value):Prop:=match kd with
 | true=>h.IsList a its
 | false=>h.IsTuple a its
def ItrK(kd:Bool)(h:Heap)(it a:Addr)(i:Nat):Prop:=match kd with
 | true=>h.IsListIter it a i
 | false=>h.IsTupleIter it a i
theorem SeqK.at{kd:Bool}{h h':Heap}{a:Addr}{its:Array Value}(x:SeqK kd h a its)(k:∀o,h.get? a=some o->h'.get? a=some o):SeqK kd h' a its:=by
 cases kd with
 | true=>exact Heap.IsList.at x k
 | false=>obtain⟨o,e,r⟩:=(show h.IsTuple a its from x);exact⟨o,k o e,r⟩
theorem ItrK.at{kd:Bool}{h h':Heap}{it a:Addr}{i:Nat}(x:ItrK kd h it a i)(k:∀o,h.get? it=some o->h'.get? it=some o):ItrK kd h' it a i:=by
 cases kd with
 | true=>exact Heap.IsListIter.at x k
 | false=>obtain⟨o,e,r⟩:=(show h.IsTupleIter it a i from x);exact⟨o,k o e,r⟩
theorem ItrK.obj{kd:Bool}{h:Heap}{it a:Addr}{i:Nat}(x:ItrK kd h it a i):∃o,h.get? it=some o/\(o.cls=.type "list_iterator" \/ o.cls=.type "tuple_iterator")/\∀v,o.data≠.cell v:=by
 cases kd with
 | true=>obtain⟨o,e,c,d⟩:=(show h.IsListIter it a i from x);exact⟨o,e,.inl c,fun v q=>by rw[d] at q;cases q⟩
 | false=>obtain⟨o,e,c,d⟩:=(show h.IsTupleIter it a i from x);exact⟨o,e,.inr c,fun v q=>by rw[d] at q;cases q⟩
section
variable{prog:Program}{w:World}{A:Around}{E:Value->Shared->Prop}{s:Shared}
theorem vS{kd:Bool}{it a:Addr}{i:Nat}{its:Array Value}{x:Value}{Q:Value->Shared->Prop}(hi:ItrK kd s.heap it a i)(hl:SeqK kd s.heap a its)(hx:its[i]? =some x)
  (hQ:∀h',ItrK kd h' it a (i+1)->Heap.SameBut it s.heap h'->Q x { s with heap:=h' }):wpAny (model prog w) A (Builtin.SmallTypes.nextOf (.ref it)) Q E s:=by
 cases kd with
 | true=>exact wpAny_nextOf_list_item hi hl hx hQ
 | false=>
  have hi':s.heap.IsTupleIter it a i:=hi
  obtain⟨o,ho,hc,hd⟩:=id hi'
  obtain⟨ol,hol,_,nl,hdl⟩:=(show s.heap.IsTuple a its from hl)
  unfold Builtin.SmallTypes.nextOf;refine zr (ZO (name:=Str.ofString "__next__") hi'.typeIs Vf (w9 Vf hi'.typeIs zdP ?_ (zdR _)))
  show wpAny _ _ (field (.ref it) 0 >>= _) _ _ _;refine zr (vt ho hd (x:=.ref a) rfl ?_)
  show wpAny _ _ (if(Value.ref a==Value.none)=true then _ else _) _ _ _;rw[zx (show ¬((Value.ref a==Value.none)=true) from qC)]
  show wpAny _ _ (field (.ref it) 1 >>= _) _ _ _;refine zr (vt ho hd (x:=.int i 0) rfl ?_)
  show wpAny _ _ (seqItems? (.ref a) >>= _) _ _ _;refine zr (vZ hol hdl ?_);simp only[vf,hx]
  refine zr (wpAny_setField ho hd (by simp) (zD ⟨x,rfl,zD (hQ _ (show Heap.IsTupleIter _ _ _ _ from ?_) (Q6 ..))⟩))
  refine⟨_,QU _ ho (Yt (Q5 hd _)),(Yk ..).trans hc,?_⟩;rw[Q5 hd];simp[rawInt]
theorem wK{kd:Bool}{it a:Addr}{i:Nat}{its:Array Value}{Q:Value->Shared->Prop}(hh:A.handled=none)(hi:ItrK kd s.heap it a i)(hl:SeqK kd s.heap a its)(hx:its[i]? =none)
  (hE:∀h' e,Heap.ExtBut it s.heap h'->(∃o,h'.get? e=some o/\o.cls=.type "StopIteration")->E (.ref e) { s with heap:=h' }):wpAny (model prog w) A (Builtin.SmallTypes.nextOf (.ref it)) Q E s:=by
 cases kd with
 | true=>exact wpAny_nextOf_list_end hh hi hl hx hE
 | false=>
  have hi':s.heap.IsTupleIter it a i:=hi
  obtain⟨o,ho,hc,hd⟩:=id hi'
  obtain⟨ol,hol,_,nl,hdl⟩:=(show s.heap.IsTuple a its from hl)
  unfold Builtin.SmallTypes.nextOf;refine zr (ZO (name:=Str.ofString "__next__") hi'.typeIs Vf (w9 Vf hi'.typeIs zdP ?_ (zdR _)))
  show wpAny _ _ (field (.ref it) 0 >>= _) _ _ _;refine zr (vt ho hd (x:=.ref a) rfl ?_)
  show wpAny _ _ (if(Value.ref a==Value.none)=true then _ else _) _ _ _;rw[zx (show ¬((Value.ref a==Value.none)=true) from qC)]
  show wpAny _ _ (field (.ref it) 1 >>= _) _ _ _;refine zr (vt ho hd (x:=.int i 0) rfl ?_)
  show wpAny _ _ (seqItems? (.ref a) >>= _) _ _ _;refine zr (vZ hol hdl ?_);simp only[vf,hx]
  refine zr (vW (zr (wpAny_setField ho hd (by simp) ?_)));show wpAny _ _ (newExc (.type "StopIteration") [] >>= _) _ _ _
  refine zr ?_;simp only[newExc,newTuple];refine zr (wx ?_ (by size_fits))
  refine zr (m:=firstArgMember _ _) (wpAny_of_eq (a:=Value.none) (by first| rfl | (simp only[firstArgMember];rfl)) (wx ?_ (by size_fits)))
  simp only[raiseNew];refine zr (wpAny_handled ?_);first| rw[show A.in1.handled=none from hh] | rw[hh]
  exact zr (zD (wpAny_throw (hE _ _ (((Q6 ..).extBut.push _).push _) ⟨_,qD _ rfl,rfl⟩)))
structure Xd(k1 k2:Bool)(h:Heap)(z TI TO i1 i2 a1 a2:Addr)(i:Nat):Prop where
 zz:IsZip h z TI TO .none
 ti:IsPair h TI (.ref i1) (.ref i2)
 to:∃a b,IsPair h TO a b
 r1:ItrK k1 h i1 a1 i
 r2:ItrK k2 h i2 a2 i
structure za2(z TI TO i1 i2:Addr):Prop where
 a:TI≠z
 b:TO≠z
 c:i1≠z
 d:i2≠z
 e:TI≠TO
 f:TI≠i1
 g:TI≠i2
 h:TO≠i1
 i:TO≠i2
 j:i1≠i2
theorem za3{k1 k2:Bool}{z TI TO i1 i2 a1 a2:Addr}{i:Nat}{xs ys:Array Value}{x y:Value}{Q:Option Value->Shared->Prop}(N:za2 z TI TO i1 i2)(Z:Xd k1 k2 s.heap z TI TO i1 i2 a1 a2 i)
  (l1:SeqK k1 s.heap a1 xs) (l2:SeqK k2 s.heap a2 ys) (m1:∀b∈[z,TO,i1,i2],a1≠b) (m2:∀b∈[z,TO,i1,i2],a2≠b) (hx:xs[i]? =some x) (hy:ys[i]? =some y)
  (hQ:∀h',IsZip h' z TI TO (rawInt s.heap.objs.size)->IsPair h' TI (.ref i1) (.ref i2)->(∃a b,IsPair h' TO a b)->ItrK k1 h' i1 a1 (i+1)->ItrK k2 h' i2 a2 (i+1)->IsPair h' s.heap.objs.size x y->h'.objs.size=s.heap.objs.size+1 ->
   (∀c o,c∉[z,TO,i1,i2]->s.heap.get? c=some o->h'.get? c=some o)->Q (some (.ref s.heap.objs.size)) { s with heap:=h' }):wpAny (model prog w) A (pyNext (.ref z)) Q E s:=by
 obtain⟨hz,hTI,⟨a,b,hTO⟩,h1,h2⟩:=Z
 have hT:s.TypeIs (.ref z) "zip" :=⟨_,hz,rfl⟩
 unfold pyNext;refine zr (yp (ZO (name:=Str.ofString "__next__") hT XZ (w9 XZ hT F.entry_zip_next ?_ (F.args_zip_next_1 _))))
 show wpAny _ _ (field (.ref z) 2 >>= _) _ _ _;refine zr (vt hz rfl (x:=.bool false) rfl ?_)
 show wpAny _ _ (field (.ref z) 3 >>= _) _ _ _;refine zr (vt hz rfl (x:=.ref TI) rfl (zr (vZ hTI rfl ?_)))
 show wpAny _ _ (Builtin.SmallTypes.ownedTupleIsFree (.ref z) >>= _) _ _ _;refine zr ?_
 unfold Builtin.SmallTypes.ownedTupleIsFree;refine zr (vt hz rfl (x:=.none) rfl (zD ?_));simp only[if_true]
 refine zr (vW (zr (vt hz rfl (x:=.ref TO) rfl (zr (Zx hz (by simp) fun g1 hz1 hs1=>?_)))))
 replace hz1:IsZip g1 z TI TO .ellipsis:=hz1
 refine zr ?_;simp only[List.zipIdx_cons,List.zipIdx_nil,X0,Yb]
 refine zr (zr (wpAny_onRaise ?_));show wpAny _ _ (Builtin.SmallTypes.nextOf (.ref i1) >>= _) _ _ _
 refine zr (vS (h1.at fun o e=>hs1.extBut _ o N.c e) (l1.at fun o e=>hs1.extBut _ o (m1 z (by simp)) e) hx fun g2 h12 hs2=>zD ?_)
 have hTO2:IsPair g2 TO a b:=hs2.extBut _ _ N.h (hs1.extBut _ _ N.b hTO)
 refine zr (vZ hTO2 rfl (zr (wpAny_updateSeq_pair hTO2 fun g3 hTO3 hs3=>?_)))
 replace hTO3:IsPair g3 TO x b:=hTO3
 refine zr (ym (zD ?_));refine zr (zr (wpAny_onRaise ?_));show wpAny _ _ (Builtin.SmallTypes.nextOf (.ref i2) >>= _) _ _ _
 have c23:∀c o,c∉[z,TO,i1]->s.heap.get? c=some o->g3.get? c=some o:=fun c o hc e=>hs3.extBut _ o (fun q=>hc (by simp[q])) (hs2.extBut _ o (fun q=>hc (by simp[q])) (hs1.extBut _ o (fun q=>hc (by simp[q])) e))
 refine zr (vS (h2.at fun o e=>c23 _ o (by simp[N.d,qy N.i,qy N.j]) e) (l2.at fun o e=>c23 _ o (by simp[m2 z (by simp),m2 TO (by simp),m2 i1 (by simp)]) e) hy fun g4 h24 hs4=>zD ?_)
 have hTO4:IsPair g4 TO x b:=hs4.extBut _ _ N.i hTO3
 refine zr (vZ hTO4 rfl (zr (wpAny_updateSeq_pair hTO4 fun g5 hTO5 hs5=>?_)))
 replace hTO5:IsPair g5 TO x y:=hTO5
 refine zr (ym (zD (zD (zr (vZ hTO5 rfl (zr (wpAny_newTuple ?_)))))))
 have zs:g5.objs.size=s.heap.objs.size:=by rw[hs5.1,hs4.1,hs3.1,hs2.1,hs1.1]
 have hz5:IsZip g5 z TI TO .ellipsis:=hs5.extBut _ _ (qy N.b) (hs4.extBut _ _ (qy N.d) (hs3.extBut _ _ (qy N.b) (hs2.extBut _ _ (qy N.c) hz1)))
 have k5:∀c o,c∉[z,TO,i1,i2]->s.heap.get? c=some o->g5.get? c=some o:=fun c o hc e=>hs5.extBut _ o (fun q=>hc (by simp[q])) (hs4.extBut _ o (fun q=>hc (by simp[q])) (c23 c o (fun q=>hc (by simp at q ⊢;rcases q with q | q | q<;>simp[q])) e))
 have r1:ItrK k1 g5 i1 a1 (i+1):=h12.at fun o e=>hs5.extBut _ o (qy N.h) (hs4.extBut _ o N.j (hs3.extBut _ o (qy N.h) e))
 have r2:ItrK k2 g5 i2 a2 (i+1):=h24.at fun o e=>hs5.extBut _ o (qy N.i) e
 have zl:z<g5.objs.size:=zR hz5
 show wpAny _ _ (Builtin.SmallTypes.ownedTupleHandOut (.ref z) (.ref g5.objs.size) >>= _) _ _ _;refine zr ?_;unfold Builtin.SmallTypes.ownedTupleHandOut
 have hz6:IsZip (g5.push { cls:=.type "tuple",data:=.seq #[x,y] }) z TI TO .ellipsis:=qx _ hz5
 refine zr (Zx hz6 (by simp) fun g7 hz7 hs7=>?_)
 replace hz7:IsZip g7 z TI TO (rawInt g5.objs.size):=hz7
 refine Zx hz7 (by simp) fun g8 hz8 hs8=>?_
 replace hz8:IsZip g8 z TI TO (rawInt g5.objs.size):=hz8
 have up:∀c o,c≠z->g5.get? c=some o->g8.get? c=some o:=fun c o c1 e=>hs8.extBut _ o c1 (hs7.extBut _ o c1 (qx _ e))
 have hT8:IsPair g8 g5.objs.size x y:=hs8.extBut _ _ (vc zl) (hs7.extBut _ _ (vc zl) (qD _ rfl))
 have z8:g8.objs.size=g5.objs.size+1:=by rw[hs8.1,hs7.1,xh]
 rw[zs] at hz8 hT8 z8
 refine zD ⟨_,rfl,zD ?_⟩;show Q (some (.ref g5.objs.size)) _;rw[zs]
 exact hQ g8 hz8 (up _ _ N.a (k5 _ _ (by simp[N.a,N.e,N.f,N.g]) hTI)) ⟨_,_,up _ _ N.b hTO5⟩ (r1.at fun o e=>up _ o N.c e) (r2.at fun o e=>up _ o N.d e) hT8 z8 fun c o hc e=>up c o (fun q=>hc (by simp[q])) (k5 c o hc e)
theorem zb0{k1 k2:Bool}{z TI TO i1 i2 a1 a2:Addr}{i:Nat}{xs ys:Array Value}{Q:Option Value->Shared->Prop}(hh:A.handled=none)(N:za2 z TI TO i1 i2)(Z:Xd k1 k2 s.heap z TI TO i1 i2 a1 a2 i)
  (l1:SeqK k1 s.heap a1 xs) (l2:SeqK k2 s.heap a2 ys) (m1:∀b∈[z,TO,i1,i2],a1≠b) (m2:∀b∈[z,TO,i1,i2],a2≠b) (hend:xs[i]? =none\/ys[i]? =none)
  (hQ:∀h',(∀c o,c∉[z,TO,i1,i2]->s.heap.get? c=some o->h'.get? c=some o)->Q none { s with heap:=h' }):wpAny (model prog w) A (pyNext (.ref z)) Q E s:=by
 obtain⟨hz,hTI,⟨a,b,hTO⟩,h1,h2⟩:=Z
 have hT:s.TypeIs (.ref z) "zip" :=⟨_,hz,rfl⟩
 unfold pyNext;refine zr (yp (ZO (name:=Str.ofString "__next__") hT XZ (w9 XZ hT F.entry_zip_next ?_ (F.args_zip_next_1 _))))
 show wpAny _ _ (field (.ref z) 2 >>= _) _ _ _;refine zr (vt hz rfl (x:=.bool false) rfl ?_)
 show wpAny _ _ (field (.ref z) 3 >>= _) _ _ _;refine zr (vt hz rfl (x:=.ref TI) rfl (zr (vZ hTI rfl ?_)))
 show wpAny _ _ (Builtin.SmallTypes.ownedTupleIsFree (.ref z) >>= _) _ _ _;refine zr ?_
 unfold Builtin.SmallTypes.ownedTupleIsFree;refine zr (vt hz rfl (x:=.none) rfl (zD ?_));simp only[if_true]
 refine zr (vW (zr (vt hz rfl (x:=.ref TO) rfl (zr (Zx hz (by simp) fun g1 hz1 hs1=>?_)))))
 replace hz1:IsZip g1 z TI TO .ellipsis:=hz1
 refine zr ?_;simp only[List.zipIdx_cons,List.zipIdx_nil,X0,Yb]
 refine zr (zr (wpAny_onRaise ?_));show wpAny _ _ (Builtin.SmallTypes.nextOf (.ref i1) >>= _) _ _ _
 cases hx:xs[i]? with
 | none=>
  refine zr (wK hh (h1.at fun o e=>hs1.extBut _ o N.c e) (l1.at fun o e=>hs1.extBut _ o (m1 z (by simp)) e) hx fun g2 e hs2 he=>?_)
  obtain⟨oe,hoe,hce⟩:=he
  have hz2:IsZip g2 z TI TO .ellipsis:=hs2 _ _ (qy N.c) hz1
  have hez:e≠z:=fun q=>by subst q;rw[hz2] at hoe;cases hoe;exact absurd (ZJ hce) (by decide)
  refine Zx hz2 (by simp) fun g3 hz3 hs3=>?_
  refine zr (ZL (T:= "StopIteration") (b:=true) ⟨oe,hs3.extBut _ _ hez hoe,hce⟩ isSubtype_stop (zD (hQ _ fun c o hc q=>?_)))
  exact hs3.extBut _ o (fun q=>hc (by simp[q])) (hs2 _ o (fun q=>hc (by simp[q])) (hs1.extBut _ o (fun q=>hc (by simp[q])) q))
 | some x=>
  have hy:ys[i]? =none:=by rcases hend with q | q;rw[hx] at q;cases q;exact q
  refine zr (vS (h1.at fun o e=>hs1.extBut _ o N.c e) (l1.at fun o e=>hs1.extBut _ o (m1 z (by simp)) e) hx fun g2 h12 hs2=>zD ?_)
  have hTO2:IsPair g2 TO a b:=hs2.extBut _ _ N.h (hs1.extBut _ _ N.b hTO)
  refine zr (vZ hTO2 rfl (zr (wpAny_updateSeq_pair hTO2 fun g3 hTO3 hs3=>?_)))
  have c23:∀c o,c∉[z,TO,i1]->s.heap.get? c=some o->g3.get? c=some o:=fun c o hc e=>hs3.extBut _ o (fun q=>hc (by simp[q])) (hs2.extBut _ o (fun q=>hc (by simp[q])) (hs1.extBut _ o (fun q=>hc (by simp[q])) e))
  refine zr (ym (zD ?_));refine zr (zr (wpAny_onRaise ?_));show wpAny _ _ (Builtin.SmallTypes.nextOf (.ref i2) >>= _) _ _ _
  refine zr (wK hh (h2.at fun o e=>c23 _ o (by simp[N.d,qy N.i,qy N.j]) e) (l2.at fun o e=>c23 _ o (by simp[m2 z (by simp),m2 TO (by simp),m2 i1 (by simp)]) e) hy fun g4 e hs4 he=>?_)
  obtain⟨oe,hoe,hce⟩:=he
  have hz4:IsZip g4 z TI TO .ellipsis:=hs4 _ _ (qy N.d) (hs3.extBut _ _ (qy N.b) (hs2.extBut _ _ (qy N.c) hz1))
  have hez:e≠z:=fun q=>by subst q;rw[hz4] at hoe;cases hoe;exact absurd (ZJ hce) (by decide)
  refine Zx hz4 (by simp) fun g5 hz5 hs5=>?_
  refine zr (ZL (T:= "StopIteration") (b:=true) ⟨oe,hs5.extBut _ _ hez hoe,hce⟩ isSubtype_stop (zD (hQ _ fun c o hc q=>?_)))
  exact hs5.extBut _ o (fun q=>hc (by simp[q])) (hs4 _ o (fun q=>hc (by simp[q])) (c23 c o (fun q=>hc (by simp at q ⊢;rcases q with q | q | q<;>simp[q])) q))
abbrev zh(h:Heap)(o1 o2:Obj):Heap:=((((h.push o1).push o2).push { cls:=.type "tuple",data:=.seq #[.ref h.objs.size,.ref (h.push o1).objs.size] }).push { cls:=.type "tuple",data:=.seq #[.none,.none] }).push
 { cls:=.type "zip",data:=.fields #[.none,.bool false,.bool false,.ref ((h.push o1).push o2).objs.size,.ref (((h.push o1).push o2).push { cls:=.type "tuple",data:=.seq #[.ref h.objs.size,.ref (h.push o1).objs.size] }).objs.size] }
theorem zg0{k1 k2:Bool}{a1 a2:Addr}{h:Heap}{o1 o2:Obj}(p1:∀g:Heap,g.get? h.objs.size=some o1->ItrK k1 g h.objs.size a1 0)(p2:∀(g:Heap) (n:Addr),g.get? n=some o2->ItrK k2 g n a2 0)(f1:o1.isFreed=false)(f2:o2.isFreed=false) :
  Xd k1 k2 (zh h o1 o2) (h.objs.size+4) (h.objs.size+2) (h.objs.size+3) h.objs.size (h.objs.size+1) a1 a2 0/\(∀c o,h.get? c=some o->(zh h o1 o2).get? c=some o)/\(zh h o1 o2).objs.size=h.objs.size+5:=by
 have z1:(h.push o1).objs.size=h.objs.size+1:=xh ..
 have z2:((h.push o1).push o2).objs.size=h.objs.size+2:=by rw[xh,z1]
 have z3:(((h.push o1).push o2).push { cls:=.type "tuple",data:=.seq #[.ref h.objs.size,.ref (h.push o1).objs.size] }).objs.size=h.objs.size+3:=by rw[xh,z2]
 have z4:((((h.push o1).push o2).push { cls:=.type "tuple",data:=.seq #[.ref h.objs.size,.ref (h.push o1).objs.size] }).push { cls:=.type "tuple",data:=.seq #[.none,.none] }).objs.size=h.objs.size+4:=by rw[xh,z3]
 have q5:(zh h o1 o2).get? (h.objs.size+4)=some _:=z4▸qD _ rfl
 have q4:(zh h o1 o2).get? (h.objs.size+3)=some _:=z3▸qx _ (qD _ rfl)
 have q3:(zh h o1 o2).get? (h.objs.size+2)=some _:=z2▸qx _ (qx _ (qD _ rfl))
 have q2:(zh h o1 o2).get? (h.objs.size+1)=some o2:=z1▸qx _ (qx _ (qx _ (qD _ f2)))
 have q1:(zh h o1 o2).get? h.objs.size=some o1:=qx _ (qx _ (qx _ (qx _ (qD _ f1))))
 rw[z2,z3] at q5
 rw[z1] at q3
 exact⟨⟨q5,q3,⟨_,_,q4⟩,p1 _ q1,p2 _ _ q2⟩,fun c o e=>qx _ (qx _ (qx _ (qx _ (qx _ e)))),by rw[xh,z4]⟩
theorem zbZ{k1 k2:Bool}{a1 a2:Addr}{xs ys:Array Value} :
  PySem.Meets (Builtin.«zip.__new__» ⟨[.type "zip",.ref a1,.ref a2],[]⟩) (fun _ R s=>SeqK k1 s.heap a1 xs/\SeqK k2 s.heap a2 ys /\
   ∀h',Xd k1 k2 h' (s.heap.objs.size+4) (s.heap.objs.size+2) (s.heap.objs.size+3) s.heap.objs.size (s.heap.objs.size+1) a1 a2 0->(∀c o,s.heap.get? c=some o->h'.get? c=some o)->h'.objs.size=s.heap.objs.size+5->R (.ok (.ret (.ref (s.heap.objs.size+4)))) { s with heap:=h' }):=
 .of_wp fun prog w A R s hq=>by
  obtain⟨hp,g,d,tk,os⟩:=s
  obtain⟨hl1,hl2,hr⟩:=hq
  have hsub:=sub_zip
  have fin:∀{o1 o2:Obj},(∀g:Heap,g.get? hp.objs.size=some o1->ItrK k1 g hp.objs.size a1 0)->(∀(g:Heap) (n:Addr),g.get? n=some o2->ItrK k2 g n a2 0)->o1.isFreed=false->o2.isFreed=false ->
    R (.ok (.ret (.ref ((((hp.push o1).push o2).push { cls:=.type "tuple",data:=.seq #[.ref hp.objs.size,.ref (hp.push o1).objs.size] }).push { cls:=.type "tuple",data:=.seq #[.none,.none] }).objs.size))) ⟨zh hp o1 o2,g,d,tk,os⟩:=fun {o1 o2} p1 p2 f1 f2=>by
   obtain⟨A,B,C⟩:=zg0 p1 p2 f1 f2
   have e:((((hp.push o1).push o2).push { cls:=.type "tuple",data:=.seq #[.ref hp.objs.size,.ref (hp.push o1).objs.size] }).push { cls:=.type "tuple",data:=.seq #[.none,.none] }).objs.size=hp.objs.size+4:=by
    rw[xh,xh,xh,xh]
   rw[e]
   exact hr _ A B C
  cases k1 with
  | true=>
   have L1:Heap.IsList (Shared.heap ⟨hp,g,d,tk,os⟩) a1 xs:=hl1
   cases k2 with
   | true=>
    have L2:Heap.IsList (Shared.heap ⟨hp.push { cls:=.type "list_iterator",data:=.fields #[.ref a1,.int 0 0] },g,d,tk,os⟩) a2 ys:=Heap.IsList.push hl2 _
    wp_walk using wpAny_pyIter_list L1,wpAny_pyIter_list L2
    exact⟨_,rfl,fin (fun g e=>⟨_,e,rfl,rfl⟩) (fun g n e=>⟨_,e,rfl,rfl⟩) rfl rfl⟩
   | false=>
    have L2:Heap.IsTuple (Shared.heap ⟨hp.push { cls:=.type "list_iterator",data:=.fields #[.ref a1,.int 0 0] },g,d,tk,os⟩) a2 ys:=Heap.IsTuple.push hl2 _
    wp_walk using wpAny_pyIter_list L1,wpAny_pyIter_tuple L2
    exact⟨_,rfl,fin (fun g e=>⟨_,e,rfl,rfl⟩) (fun g n e=>⟨_,e,rfl,rfl⟩) rfl rfl⟩
  | false=>
   have L1:Heap.IsTuple (Shared.heap ⟨hp,g,d,tk,os⟩) a1 xs:=hl1
   cases k2 with
   | true=>
    have L2:Heap.IsList (Shared.heap ⟨hp.push { cls:=.type "tuple_iterator",data:=.fields #[.ref a1,.int 0 0] },g,d,tk,os⟩) a2 ys:=Heap.IsList.push hl2 _
    wp_walk using wpAny_pyIter_tuple L1,wpAny_pyIter_list L2
    exact⟨_,rfl,fin (fun g e=>⟨_,e,rfl,rfl⟩) (fun g n e=>⟨_,e,rfl,rfl⟩) rfl rfl⟩
   | false=>
    have L2:Heap.IsTuple (Shared.heap ⟨hp.push { cls:=.type "tuple_iterator",data:=.fields #[.ref a1,.int 0 0] },g,d,tk,os⟩) a2 ys:=Heap.IsTuple.push hl2 _
    wp_walk using wpAny_pyIter_tuple L1,wpAny_pyIter_tuple L2
    exact⟨_,rfl,fin (fun g e=>⟨_,e,rfl,rfl⟩) (fun g n e=>⟨_,e,rfl,rfl⟩) rfl rfl⟩
theorem zbR{k1 k2:Bool}{a1 a2:Addr}{xs ys:Array Value}{Q:Value->Shared->Prop}(h1:SeqK k1 s.heap a1 xs)(h2:SeqK k2 s.heap a2 ys)
  (h:∀h',Xd k1 k2 h' (s.heap.objs.size+4) (s.heap.objs.size+2) (s.heap.objs.size+3) s.heap.objs.size (s.heap.objs.size+1) a1 a2 0->(∀c o,s.heap.get? c=some o->h'.get? c=some o)->h'.objs.size=s.heap.objs.size+5 ->
   Q (.ref (s.heap.objs.size+4)) { s with heap:=h' }):wpAny (model prog w) A (call (.type "zip") [.ref a1,.ref a2]) Q E s:=by
 refine callType_new F.called_zip (by decide) (F.typeCall_zip_2 _ _) (F.newCall_zip_2 _ _) (fun obj=>F.args_object_init_3 obj _ _) F.entry_zip_new (zbZ (k1:=k1) (k2:=k2) (xs:=xs) (ys:=ys)) ⟨h1,h2,fun h' Z k z=>?_⟩
 exact⟨⟨_,Z.zz,rfl⟩,h h' Z k z⟩
end
theorem Inv.seqK{X:Cx}{pins:List (Addr×Obj)}{σ:St}{H:Hp}{s:Shared}{kd:Bool}{a:Addr}{xs:List V}(I:Inv X pins σ H s)(h:SqK X.K kd H a xs):∃its:List Value,Vals xs its/\SeqK kd s.heap a its.toArray/\xs.length<=sizeLine:=by
 cases kd with
 | true=>obtain⟨its,r,p,z⟩:=I.list h;exact⟨its,r,p.isList,z⟩
 | false=>obtain⟨its,r,p,z⟩:=I.tuple h;exact⟨its,r,p,z⟩
theorem Inv.seqK_inj{X:Cx}{pins:List (Addr×Obj)}{σ:St}{H:Hp}{s:Shared}{kd:Bool}{a:Addr}{xs ys:List V}(I:Inv X pins σ H s)(h:SqK X.K kd H a xs)(h':SqK X.K kd H a ys):xs=ys:=by
 cases kd with
 | true=>exact I.list_inj h h'
 | false=>exact I.tuple_inj h h'
theorem SqK.ne_fp{X:Cx}{pins:List (Addr×Obj)}{σ:St}{H:Hp}{s:Shared}{kd:Bool}{a b:Addr}{xs:List V}(I:Inv X pins σ H s)(h:SqK X.K kd H a xs)(f:vm X pins H b):a≠b:=fun z=>by
 have kk:∀o,X.K.lookup a=some o->False:=fun o e=>by
  have e':=I.mod.kin a o e
  rcases f.2.2.2.1 with q | q
  ·exact I.ok.noex a o e' (by rw[z];exact q)
  ·have:=zR (I.ok.bs a o e').1
   rw[z] at this
   exact vv _ (j9 this q)
 cases kd with
 | true=>
  rcases(show SqL X.K H a xs from h) with(q | ⟨o,q⟩) | ⟨o,_,_,q,_⟩
  ·rw[z,f.1] at q;cases q
  ·rw[z,f.1] at q;cases q
  ·exact kk o q
 | false=>
  rcases(show SqT X.K H a xs from h) with(q | ⟨o,q⟩) | ⟨o,_,_,q,_⟩
  ·rw[z,f.1] at q;cases q
  ·rw[z,f.1] at q;cases q
  ·exact kk o q
def Itz(K:PySem.W.Frag)(k1 k2:Bool)(a1 a2:Addr):It:=
 ⟨fun i H=>∃xs ys x y,SqK K k1 H a1 xs/\SqK K k2 H a2 ys/\xs[i]? =some x/\ys[i]? =some y,
  fun i H x H'=>∃T u v,x=.ref T/\H T=none/\H'=upd H T (.tup [u,v])/\(∀xs,SqK K k1 H a1 xs->xs[i]? =some u)/\∀ys,SqK K k2 H a2 ys->ys[i]? =some v,
  fun i H=>∃xs ys,SqK K k1 H a1 xs/\SqK K k2 H a2 ys/\(xs.length<=i\/ys.length<=i)⟩
theorem zb6{P:Program}{w:World}{K:PySem.W.Frag}{elts:List Expr}{kk:Nat}{pos:Pos}{k1 k2:Bool}{a1 a2 z TI TO i1 i2:Addr}(N:za2 z TI TO i1 i2) :
  Jb P w K (.Tuple elts kk pos) (Itz K k1 k2 a1 a2) [z,TI,TO,i1,i2] z (fun i h=>Xd k1 k2 h z TI TO i1 i2 a1 a2 i) where
 mem:=by simp
 obj:=fun i h Z b hb=>by
  obtain⟨a,b',q⟩:=Z.to
  have e1:=Z.r1.obj
  have e2:=Z.r2.obj
  simp only[zZ,w8,or_false] at hb
  rcases hb with r | r | r | r | r
  ·subst r;exact⟨_,Z.zz,fun v q=>nomatch q⟩
  ·subst r;exact⟨_,Z.ti,fun v q=>nomatch q⟩
  ·subst r;exact⟨_,q,fun v q=>nomatch q⟩
  ·subst r;obtain⟨o,e,_,d⟩:=e1;exact⟨o,e,d⟩
  ·subst r;obtain⟨o,e,_,d⟩:=e2;exact⟨o,e,d⟩
 keep:=fun i h h' Z k=>by
  obtain⟨a,b',q⟩:=Z.to
  exact⟨k _ (by simp) _ Z.zz,k _ (by simp) _ Z.ti,⟨a,b',k _ (by simp) _ q⟩,Z.r1.at fun o e=>k _ (by simp) o e,Z.r2.at fun o e=>k _ (by simp) o e⟩
 item:=by
  intro X hP hw hK hc i pins s σ H E I hf Z hg
  subst hP hw hK
  obtain⟨xs,ys,x,y,hq1,hq2,hx,hy⟩:=hg
  obtain⟨its1,rv1,p1,hz1⟩:=I.seqK hq1
  obtain⟨its2,rv2,p2,hz2⟩:=I.seqK hq2
  obtain⟨u1,hu1,ru1⟩:=rv1.get hx
  obtain⟨u2,hu2,ru2⟩:=rv2.get hy
  have sub:∀b∈[z,TO,i1,i2],b∈[z,TI,TO,i1,i2]:=fun b hb=>by
   simp only[zZ,w8,or_false] at hb ⊢
   rcases hb with r | r | r | r<;>simp[r]
  refine za3 N Z p1 p2 (fun b hb=>hq1.ne_fp I (hf b (sub b hb))) (fun b hb=>hq2.ne_fp I (hf b (sub b hb))) (by simpa using hu1) (by simpa using hu2) fun h1 zz ti to r1 r2 hT hsz hk=>?_
  refine⟨_,rfl,wpAny_letOwnedTupleGo_zip zz fun h2 zz2 hs2=>?_⟩
  have zl:z<s.heap.objs.size:=zR Z.zz
  obtain⟨ta,tb,to⟩:=to
  refine⟨.ref s.heap.objs.size,upd H s.heap.objs.size (.tup [x,y]),?_,rfl,⟨_,x,y,rfl,I.hok.fresh (zJ _),rfl,fun xs' h'=>by rw[I.seqK_inj h' hq1];exact hx,fun ys' h'=>by rw[I.seqK_inj h' hq2];exact hy⟩,
   ⟨zz2,hs2.extBut _ _ N.a ti,⟨ta,tb,hs2.extBut _ _ N.b to⟩,r1.at fun o e=>hs2.extBut _ o N.c e,r2.at fun o e=>hs2.extBut _ o N.d e⟩,fun b hb=>?_⟩
  ·exact XD (s:=s) (h':=h2) (t':=s.toks) (ch:=[z,TO,i1,i2]) (its:=[u1,u2]) I (fun b hb=>hf b (sub b hb)) (zJ _) (fun b o hb e=>hs2.extBut _ o (fun q=>hb (by simp[q])) (hk b o hb e)) (by rw[sizeLine_eq];exact(by decide:2<=16777216)) (.cons ru1 (.cons ru2 .nil))
    (TupX.by (hs2.extBut _ _ (vc zl) hT))
  ·have hb':b<s.heap.objs.size:=by
    have e1:=Z.r1.obj
    have e2:=Z.r2.obj
    obtain⟨a,b',q⟩:=Z.to
    simp only[zZ,w8,or_false] at hb
    rcases hb with r | r | r | r | r
    ·subst r;exact zl
    ·subst r;exact zR Z.ti
    ·subst r;exact zR q
    ·subst r;obtain⟨o,e,_⟩:=e1;exact zR e
    ·subst r;obtain⟨o,e,_⟩:=e2;exact zR e
   rw[zi (qm hb')]
   exact(hf b hb).1
 done:=by
  intro X hP hw hK hc i pins s σ H E I hf Z hg
  subst hP hw hK
  obtain⟨xs,ys,hq1,hq2,hle⟩:=hg
  obtain⟨its1,rv1,p1,hz1⟩:=I.seqK hq1
  obtain⟨its2,rv2,p2,hz2⟩:=I.seqK hq2
  have sub:∀b∈[z,TO,i1,i2],b∈[z,TI,TO,i1,i2]:=fun b hb=>by
   simp only[zZ,w8,or_false] at hb ⊢
   rcases hb with r | r | r | r<;>simp[r]
  have tr:∀b u,H b=some u->b∉[z,TO,i1,i2]:=fun b u e hb=>by rw[(hf b (sub b hb)).1] at e;cases e
  refine zb0 (I.ok.hd hc) N Z p1 p2 (fun b hb=>hq1.ne_fp I (hf b (sub b hb))) (fun b hb=>hq2.ne_fp I (hf b (sub b hb))) ?_ fun h' hk=>⟨rfl,?_⟩
  ·have l1:=rv1.length
   have l2:=rv2.length
   rcases hle with q | q
   ·exact .inl (by simp;omega)
   ·exact .inr (by simp;omega)
  ·refine I.step (g':=s.gens) (d':=s.drawn) (t':=s.toks) (ch:=[z,TO,i1,i2]) (fun b hb=>?_) (fun b o _ _ hc e _=>hk b o hc e) (fun b o _ _ hc e _=>⟨o.slots,hk b o hc e⟩) (fun _ _ _ _ n=>n) (fun b o hc e=>⟨o,hk b o hc e⟩)
    (fun _ _ e=>e) (fun _ _ _ e=>e) (fun b ps e=>⟨#[],by rw[e];simp⟩) (fun m hm=>?_) (fun b u e=>?_) I.bare
   ·obtain⟨_,g1,_,g3,g4,g5⟩:=hf b (sub b hb)
    exact⟨g3,g1,g4,g5⟩
   ·obtain⟨o,es,ep,ho,r⟩:=hm
    exact⟨o,es,ep,hk _ o (fun z=>(hf _ (sub _ z)).2.1 rfl) ho,r⟩
   ·refine(I.hok b u e).stay (fun c v hc q=>hk c v ?_ q) (fun _ q=>q) fun _ _ q=>q
    rcases hc with z | z
    ·rw[z];exact tr b u e
    ·exact tr c _ z
 self:=fun _ _ _ _ _ Z h=>wpAny_pyIter_zip Z.zz h
section
variable{X:Cx}
def zio(K:PySem.W.Frag)(ta:TA):TI:=fun σ H R=>ta σ H fun vs H1=>∃k1 k2 a1 a2,vs=[.ref a1,.ref a2]/\(∃xs,SqK K k1 H1 a1 xs)/\(∃ys,SqK K k2 H1 a2 ys)/\R (Itz K k1 k2 a1 a2) H1
theorem Xp{l m:Expr}{ta:TA}{p pos tp:Pos}{elts:List Expr}{kk:Nat}(hg:Gl X "zip")(hm:X.mg "zip" = none)(ha:PA X [l,m] ta)(hs:starEach [l,m] X.env=[(false,eval l X.env),(false,eval m X.env)]:=by rfl)(hs2:starEach [m] X.env=[(false,eval m X.env)]:=by rfl) :
  PI X (.Tuple elts kk tp) (.Call (.Name "zip" p) [l,m] [] pos) (zio X.K ta):=by
 intro pins s σ H R I h
 refine Call_ (vC I hg hm boot_zip (QW (thn (ha pos pins s σ H _ I h) fun us s1 ⟨vs,H1,I1,r1,q1⟩=>?_) (by rw[hs,hs2]) (by rw[hs2];rfl)))
 obtain⟨k1,k2,a1,a2,e,⟨xs,hq1⟩,⟨ys,hq2⟩,q⟩:=q1
 subst e
 obtain⟨u,u',rfl,ru,ru'⟩:=Jp r1
 cases ru
 cases ru'
 obtain⟨its1,rv1,p1,hz1⟩:=I1.seqK hq1
 obtain⟨its2,rv2,p2,hz2⟩:=I1.seqK hq2
 refine zbR p1 p2 fun h' Z hk hsz=>wpAny_pyIter_zip Z.zz ?_
 have I2:Inv X pins σ H1 { s1 with heap:=h' }:=I1.kept (t':=s1.toks) hk
 have N:za2 (s1.heap.objs.size+4) (s1.heap.objs.size+2) (s1.heap.objs.size+3) s1.heap.objs.size (s1.heap.objs.size+1):=by
  constructor<;>(intro e;have e':(_:Nat)=_:=e;omega)
 refine⟨s1.heap.objs.size+4,_,_,_,H1,rfl,I2,zb6 N,Z,fun b hb=>?_,q⟩
 have hb':s1.heap.objs.size<=b:=by
  simp only[zZ,w8,or_false] at hb
  rcases hb with r | r | r | r | r<;>(rw[r];first| exact Nat.le_add_right _ _ | exact zJ _)
 exact I1.fpOk hb' (I1.hok.fresh hb')
end
def TyN(K:PySem.W.Frag)(H:Hp)(x:V)(T:String):Prop:=match x with
 | .non=>T = "NoneType"
 | .bl _=>T = "bool"
 | .int _=>T = "int"
 | .str _=>T = "str"
 | .ref a=>(T = "list" /\ ∃xs,SqL K H a xs)\/(T = "tuple" /\ ∃xs,SqT K H a xs)
 | _=>False
def jM(T C:String):Bool:=T==C||(T == "bool" && C == "int")
def ZZ:List String:=["NoneType", "bool", "int", "str", "list", "tuple"]
def yQ:List String:=["bool", "int", "str", "list", "tuple", "dict"]
theorem zaF{K:PySem.W.Frag}:∀T∈ZZ,∀C∈yQ,PySem.W.kitOne K (.type T) (.type C)=some (jM T C):=by
 intro T hT C hC
 simp only[ZZ,yQ,zZ,w8,or_false] at hT hC
 rcases hT with rfl | rfl | rfl | rfl | rfl | rfl<;>rcases hC with rfl | rfl | rfl | rfl | rfl | rfl<;>kernel_rfl
theorem V6{K:PySem.W.Frag}{T:String}(hT:T∈ZZ):∀{Cs:List String},(∀C∈Cs,C∈yQ)->PySem.W.kitAny K (.type T) (Cs.map Value.type)=some (Cs.any fun C=>jM T C)
 | [],_=>rfl
 | C::r,h=>by
  have ih:=V6 (K:=K) hT (Cs:=r) fun C' hC=>h C' (jv _ hC)
  show(match PySem.W.kitOne K (.type T) (.type C) with | some true=>some true | some false=>PySem.W.kitAny K (.type T) (r.map Value.type) | none=>none)=_
  rw[zaF T hT C (h C j8),wZ]
  cases jM T C with
  | true=>rfl
  | false=>rw[ih];rfl
theorem TyN.mem{K:PySem.W.Frag}{H:Hp}{x:V}{T:String}(h:TyN K H x T):T∈ZZ:=by
 cases x with
 | non=>cases(show T=_ from h);decide
 | bl _=>cases(show T=_ from h);decide
 | int _=>cases(show T=_ from h);decide
 | str _=>cases(show T=_ from h);decide
 | ref a=>rcases(show _\/_ from h) with ⟨e,_⟩ | ⟨e,_⟩<;>(subst e;decide)
 | _=>exact(show False from h).elim
section
variable{X:Cx}{pins:List (Addr×Obj)}{σ:St}{H:Hp}{s:Shared}
theorem zaE{x:V}{u:Value}{T:String}(I:Inv X pins σ H s)(rx:RelV x u)(ty:TyN X.K H x T):∃P:Heap->Prop,P s.heap/\PySem.W.KitX X.K u (.type T) P/\u≠.builtin "__main__.__loader__#opaque" :=by
 cases x with
 | non=>cases(show u=Value.none from rx);cases(show T=_ from ty);exact⟨_,True.intro,PySem.W.kitx_none,fun z=>nomatch z⟩
 | bl y=>cases(show u=Value.bool y from rx);cases(show T=_ from ty);exact⟨_,True.intro,PySem.W.kitx_bool,fun z=>nomatch z⟩
 | int i=>obtain⟨t,q⟩:=(show ∃t,u=Value.int i t from rx);cases q;cases(show T=_ from ty);exact⟨_,True.intro,PySem.W.kitx_int,fun z=>nomatch z⟩
 | str y=>obtain⟨t,q⟩:=(show ∃t,u=Value.str y t from rx);cases q;cases(show T=_ from ty);exact⟨_,True.intro,PySem.W.kitx_str,fun z=>nomatch z⟩
 | ref a=>
  cases(show u=Value.ref a from rx)
  rcases(show _\/_ from ty) with ⟨e,xs,hx⟩ | ⟨e,xs,hx⟩
  ·subst e
   obtain⟨its,r,⟨o,n,e1,e2,_⟩,_⟩:=I.list hx
   exact⟨_,⟨o,e1,e2⟩,PySem.W.kitx_list,fun z=>nomatch z⟩
  ·subst e
   obtain⟨its,r,⟨o,e1,e2,_⟩,_⟩:=I.tuple hx
   exact⟨_,⟨o,e1,e2⟩,PySem.W.kitx_tuple,fun z=>nomatch z⟩
 | _=>exact(show False from ty).elim
end
section
variable{X:Cx}
theorem YG:∀{Cs:List String} {us:List Value},Vals (Cs.map V.ty) us->us=Cs.map Value.type
 | [],us,r=>by cases r;rfl
 | C::r,us,h=>by
  cases h with
  | cons h1 h2=>rw[YG h2,show _=Value.type C from h1];rfl
inductive Je(K:PySem.W.Frag)(xs:List V)(H:Hp)(Q:VK):Prop
 | mk (x T C:_) (_:xs=[x,.ty C]) (_:TyN K H x T) (_:C∈yQ) (_:Q (.bl (jM T C)) H):Je K xs H Q
theorem qO:CallR X (.builtin "isinstance") (Je X.K):=by
 intro pins s σ H xs us Q I r h
 obtain⟨x,T,C,rfl,ty,hC,q⟩:=h
 obtain⟨u,w',rfl,ru,rw'⟩:=Jp r
 cases(show w'=Value.type C from rw')
 obtain⟨P,hP,Z,hn⟩:=zaE I ru ty
 exact PySem.W.kia_one Z I.kIn hP (zaF T ty.mem C hC) hn fun tk=>⟨.bl _,H,I.tok tk,rfl,q⟩
inductive ZR(K:PySem.W.Frag)(xs:List V)(H:Hp)(Q:VK):Prop
 | mk (x:V) (T:String) (p:Addr) (Cs:List String) (_:xs=[x,.ref p]) (_:TyN K H x T) (_:H p=some (.tup (Cs.map V.ty))) (_:(∀C∈Cs,C∈yQ)) (_:Q (.bl (Cs.any fun C=>jM T C)) H):ZR K xs H Q
theorem wQ:CallR X (.builtin "isinstance") (ZR X.K):=by
 intro pins s σ H xs us Q I r h
 obtain⟨x,T,p,Cs,rfl,ty,hp,hC,q⟩:=h
 obtain⟨u,w',rfl,ru,rw'⟩:=Jp r
 cases(show w'=Value.ref p from rw')
 obtain⟨P,hP,Z,hn⟩:=zaE I ru ty
 obtain⟨its,r',⟨o,e1,e2,n,e3⟩,_⟩:=I.tuple (SqT.of hp)
 obtain⟨c,dd,dt,sl⟩:=o
 have e2:c=.type "tuple" :=e2
 have e3:dt=.seq its.toArray n:=e3
 subst e2 e3
 rw[YG r'] at e1
 exact PySem.W.kia_tup Z I.kIn hP e1 (V6 ty.mem hC) hn fun tk=>⟨.bl _,H,I.tok tk,rfl,q⟩
end
inductive Dat where
 | non | bl (b:Bool) | int (i:Int) | str (x:Str) | lst (ds:List Dat) | tup (ds:List Dat)
mutual
def Rep(K:PySem.W.Frag)(H:Hp):Dat->V->Prop
 | .non,v=>v=.non
 | .bl b,v=>v=.bl b
 | .int i,v=>v=.int i
 | .str x,v=>v=.str x
 | .lst ds,v=>∃a xs,v=.ref a/\SqL K H a xs/\Reps K H ds xs
 | .tup ds,v=>∃a xs,v=.ref a/\SqT K H a xs/\Reps K H ds xs
def Reps(K:PySem.W.Frag)(H:Hp):List Dat->List V->Prop
 | [],xs=>xs=[]
 | d::ds,xs=>∃x r,xs=x::r/\Rep K H d x/\Reps K H ds r
end
mutual
def Dat.dp:Dat->Nat
 | .lst ds=>Dat.dps ds+1
 | .tup ds=>Dat.dps ds+1
 | _=>0
def Dat.dps:List Dat->Nat
 | []=>0
 | d::ds=>max d.dp (Dat.dps ds)
end
theorem Same.sqT{K:PySem.W.Frag}{H H':Hp}{a:Addr}{xs:List V}(e:Same H H')(h:SqT K H a xs):SqT K H' a xs:=by
 rcases h with(h | ⟨o,h⟩) | h
 ·exact .inl (.inl (e _ _ h))
 ·exact .inl (.inr ⟨o,e _ _ h⟩)
 ·exact .inr h
mutual
theorem Rep.same{K:PySem.W.Frag}{H H':Hp}(e:Same H H'):∀{d:Dat} {v:V},Rep K H d v->Rep K H' d v
 | .non,_,h=>h
 | .bl _,_,h=>h
 | .int _,_,h=>h
 | .str _,_,h=>h
 | .lst _,_,h=>by
  obtain⟨a,xs,e1,e2,e3⟩:=h
  exact⟨a,xs,e1,e.seq e2,Reps.same e e3⟩
 | .tup _,_,h=>by
  obtain⟨a,xs,e1,e2,e3⟩:=h
  exact⟨a,xs,e1,e.sqT e2,Reps.same e e3⟩
theorem Reps.same{K:PySem.W.Frag}{H H':Hp}(e:Same H H'):∀{ds:List Dat} {xs:List V},Reps K H ds xs->Reps K H' ds xs
 | [],_,h=>h
 | _::_,_,h=>by
  obtain⟨x,r,e1,e2,e3⟩:=h
  exact⟨x,r,e1,Rep.same e e2,Reps.same e e3⟩
end
theorem Reps.len{K:PySem.W.Frag}{H:Hp}:∀{ds:List Dat} {xs:List V},Reps K H ds xs->xs.length=ds.length
 | [],_,h=>by rw[show _=_ from h];rfl
 | _::_,_,h=>by
  obtain⟨x,r,e1,e2,e3⟩:=h
  rw[e1,xU,xU,Reps.len e3]
theorem Reps.get{K:PySem.W.Frag}{H:Hp}:∀{ds:List Dat} {xs:List V} {i:Nat} {x:V},Reps K H ds xs->xs[i]? =some x->∃d,ds[i]? =some d/\Rep K H d x
 | [],_,_,_,h,e=>by rw[show _=_ from h] at e;simp at e
 | d::ds,_,i,x,h,e=>by
  obtain⟨y,r,e1,e2,e3⟩:=h
  subst e1
  cases i with
  | zero=>simp at e;subst e;exact⟨d,rfl,e2⟩
  | succ i=>
   obtain⟨d',q1,q2⟩:=Reps.get (i:=i) e3 (by simpa using e)
   exact⟨d',by simpa using q1,q2⟩
theorem zd{H:Hp}{a:Addr}{o:HO}(h:H a=none):Same H (upd H a o):=fun b u e=>by rw[zi (zn e h)];exact e
section
variable{X:Cx}
end
structure Dfn(P:Program)(w:World)(K:PySem.W.Frag)(mg:Str->Option Value)(base:Heap)(x:Str)(k:Nat)(ps:List Str)(sp:Sp):Prop where
 ex:∃f fd,qH P w K mg base CX0 k f fd ps sp/\mg x=some (.ref f)/\PySem.W.keepIn K (.ref f)=true/\Binds K fd ps []
section
variable{X:Cx}{x:Str}{k:Nat}{ps:List Str}{sp:Sp}{p pos:Pos}{e:Expr}{es:List Expr}{t:TA}
theorem zk(D:Dfn X.prog X.w X.K X.mg X.base x k ps sp)(hr:Room k X.A)(hg:Gl X x)(ha:PA X (e::es) t)(hd:(x==("__debug__" : Str))=false:=by decide)
  (hs:starEach (e::es) X.env=(false,eval e X.env)::starEach es X.env:=by rfl) (hpl:(backTo pos (starEach es X.env)).any (·.1)=false:=by rfl):PE X (.Call (.Name x p) (e::es) [] pos) (ze5 sp [] E0 t):=by
 obtain⟨f,fd,F,hm,hk,hb⟩:=D.ex
 exact zej F hr hg hm hk hb .nil zhu ha hd hs hpl
end
theorem ifT{b:Bool}{A B:Prop}(h:b=true)(q:A):if b=true then A else B:=by rw[zH h];exact q
theorem ifF{b:Bool}{A B:Prop}(h:b=false)(q:B):if b=true then A else B:=by rw[zx (by rw[h];exact qC)];exact q
theorem XA{K:PySem.W.Frag}{k1 k2:Bool}{a1 a2:Addr}{xs ys:List V}{g:TG}{tf:TT}{te:TE}{σ0:St}{n:Nat}{R:List V->Hp->Prop}{H:Hp}(Pv:Nat->List V->Hp->Prop)(h0:Pv 0 [] H)
  (h1:∀i zs H,Pv i zs H->SqK K k1 H a1 xs/\SqK K k2 H a2 ys)
  (hs:∀i x y zs H T,xs[i]? =some x->ys[i]? =some y->Pv i zs H->H T=none->g (.ref T) σ0 (upd H T (.tup [x,y])) fun σ4 H4=>σ4.drop n=σ0.drop n/\tf σ4 H4 fun b H5=>
   if b=true then te σ4 H5 fun v H6=>zs.length<sizeLine/\Pv (i+1) (zs++[v]) H6 else Pv (i+1) zs H5)
  (hd:∀zs H,Pv (min xs.length ys.length) zs H->zs.length<=sizeLine/\R zs H) :
  ∃W:Nat->Nat->List V->Hp->Prop,(∃m,W 0 m [] H)/\∀i m zs H2,W i m zs H2 ->
   ((Itz K k1 k2 a1 a2).stop i H2/\zs.length<=sizeLine/\R zs H2) \/
   ((Itz K k1 k2 a1 a2).go i H2/\∃N:List V->Hp->Prop,(∀zs H',N zs H'->∃m',m'<m/\W (i+1) m' zs H')/\∀x H3,(Itz K k1 k2 a1 a2).yld i H2 x H3->g x σ0 H3 fun σ4 H4=>σ4.drop n=σ0.drop n/\tf σ4 H4 fun b H5=>
    if b=true then te σ4 H5 fun y H6=>zs.length<sizeLine/\N (zs++[y]) H6 else N zs H5):=by
 refine⟨fun i m zs H2=>m=min xs.length ys.length-i/\i<=min xs.length ys.length/\Pv i zs H2,⟨_,rfl,qe _,h0⟩,?_⟩
 rintro i m zs H2 ⟨rfl,hi,p⟩
 obtain⟨q1,q2⟩:=h1 i zs H2 p
 by_cases hlt:i<min xs.length ys.length
 ·have l1:i<xs.length:=by omega
  have l2:i<ys.length:=by omega
  refine .inr ⟨⟨xs,ys,xs[i],ys[i],q1,q2,by simp[l1],by simp[l2]⟩,Pv (i+1),fun zs' H' p'=>⟨_,by omega,rfl,hlt,p'⟩,fun x H3 y=>?_⟩
  obtain⟨T,u,v,e1,hT,e2,y1,y2⟩:=y
  subst e1 e2
  exact hs i u v zs H2 T (y1 xs q1) (y2 ys q2) p hT
 ·have e:i=min xs.length ys.length:=by omega
  subst e
  obtain⟨z1,z2⟩:=hd zs H2 p
  exact .inl ⟨⟨xs,ys,q1,q2,by omega⟩,z1,z2⟩
theorem yL{lo:Int}{N n:Nat}{g:TG}{tf:TT}{te:TE}{σ0:St}{R:List V->Hp->Prop}{H:Hp}(Pv:Nat->List V->Hp->Prop)(h0:Pv 0 [] H)
  (hs:∀i zs H,i<N->Pv i zs H->g (.int (lo+i)) σ0 H fun σ4 H4=>σ4.drop n=σ0.drop n/\tf σ4 H4 fun b H5=>if b=true then te σ4 H5 fun v H6=>zs.length<sizeLine/\Pv (i+1) (zs++[v]) H6 else Pv (i+1) zs H5)
  (hd:∀zs H,Pv N zs H->zs.length<=sizeLine/\R zs H) :
  ∃W:Nat->Nat->List V->Hp->Prop,(∃m,W 0 m [] H)/\∀i m zs H2,W i m zs H2 ->
   ((Itr lo N).stop i H2/\zs.length<=sizeLine/\R zs H2) \/
   ((Itr lo N).go i H2/\∃M:List V->Hp->Prop,(∀zs H',M zs H'->∃m',m'<m/\W (i+1) m' zs H')/\∀x H3,(Itr lo N).yld i H2 x H3->g x σ0 H3 fun σ4 H4=>σ4.drop n=σ0.drop n/\tf σ4 H4 fun b H5=>
    if b=true then te σ4 H5 fun y H6=>zs.length<sizeLine/\M (zs++[y]) H6 else M zs H5):=by
 refine⟨fun i m zs H2=>m=N-i/\i<=N/\Pv i zs H2,⟨_,rfl,qe _,h0⟩,?_⟩
 rintro i m zs H2 ⟨rfl,hi,p⟩
 by_cases hlt:i<N
 ·refine .inr ⟨hlt,Pv (i+1),fun zs' H' p'=>⟨_,by omega,rfl,hlt,p'⟩,fun x H3 y=>?_⟩
  obtain⟨e1,e2⟩:=y
  subst e1 e2
  exact hs i zs _ hlt p
 ·have e:i=N:=by omega
  subst e
  obtain⟨z1,z2⟩:=hd zs H2 p
  exact .inl ⟨zJ _,z1,z2⟩
def yk(sn on:List (Str×NameKind))(N own fr:List Str)(js:List Nat):Bool:=
 QP sn on N fr js&&own.all (fun x=>sn.lookup x==some .local)&&decide (own++fr).Nodup
theorem wT{sn on:List (Str×NameKind)}{N own fr:List Str}{js:List Nat}(h:yk sn on N own fr js=true):QP sn on N fr js=true/\(∀x∈own,sn.lookup x=some .local)/\(own++fr).Nodup:=by
 unfold yk at h
 rw[jG,jG,xF] at h
 exact⟨h.1.1,fun x hx=>by simpa using h.1.2 x hx,qZ h.2⟩
section
variable{X:Cx}{elt iter:Expr}{ifs:List Expr}{scope:Scope}{pos px py tp:Pos}{wi:TI}{tf:TT}{te:TE}{x y:Str}{kk:Nat}
theorem Zi{N':List Str}{C:Addr}{s:Shared}{H:Hp}{ex:List Addr}{i:Nat}(hl:scope.names.lookup x=some .local)(nd:N'.Nodup)(hi:N'[i]? =some x):PG (jd X N' scope C s H ex) (.Name x px) (vY i):=
 zy (X:=jd X N' scope C s H ex) nd hi (.inl (lookup_relabel_local hl)) (.inr (lookup_relabel_local hl))
theorem xa(fr:List Str)(js:List Nat)(hc:X.calm=true)(hk:scope.kind=.function)(hb:yk scope.names X.env.scope.names X.N [x] fr js=true)(hi:PI X (.Name x px) iter wi)
  (hf:∀C s H ex,PF (jd X ([x]++fr) scope C s H ex) ifs tf) (he:∀C s H ex,PE (jd X ([x]++fr) scope C s H ex) elt te)
  (hs:∀x,foldedSetIterable iter X.env x=pure x:=by intro _;rfl):PE X (.ListComp elt [⟨.Name x px,iter,ifs,0⟩] scope pos) (tLC wi 1 js (vY 0) tf te):=by
 obtain⟨h1,h2,h3⟩:=wT hb
 exact zfC [x] fr js hc hk h1 hi (fun C s H ex=>Zi (h2 x (by simp)) h3 rfl) hf he hs
theorem vA(fr:List Str)(js:List Nat)(hc:X.calm=true)(hk:scope.kind=.function)(hb:yk scope.names X.env.scope.names X.N [x,y] fr js=true)(hi:PI X (.Tuple [.Name x px,.Name y py] kk tp) iter wi)
  (hf:∀C s H ex,PF (jd X ([x,y]++fr) scope C s H ex) ifs tf) (he:∀C s H ex,PE (jd X ([x,y]++fr) scope C s H ex) elt te)
  (hs:∀x,foldedSetIterable iter X.env x=pure x:=by intro _;rfl):PE X (.ListComp elt [⟨.Tuple [.Name x px,.Name y py] kk tp,iter,ifs,0⟩] scope pos) (tLC wi 2 js (zds X.K 2 (ZD (vY 0) (ZD (vY 1) zeO))) tf te):=by
 obtain⟨h1,h2,h3⟩:=wT hb
 refine zfC [x,y] fr js hc hk h1 hi (fun C s H ex=>?_) hf he hs
 exact xm (X:=jd X ([x,y]++fr) scope C s H ex) hc (zT (Zi (h2 x (by simp)) h3 rfl) (zT (Zi (h2 y (by simp)) h3 rfl) jN))
end
def tWk(t:TS):TS:=fun D σ H=>∃J:St->Hp->Prop,t { D with nx:=J } σ H/\∀σ' H',J σ' H'->D.nx σ' H'
theorem xJ{X:Cx}{st:Stmt}{t:TS}(h:PS X st t):PS X st (tWk t):=by
 intro pins s σ H D I hw
 obtain⟨J,q1,q2⟩:=hw
 refine thn (h pins s σ H _ I q1) fun f s1 q=>?_
 cases f with
 | next=>obtain⟨σ',H',I',z⟩:=q;exact⟨σ',H',I',q2 σ' H' z⟩
 | brk=>exact q
 | cont=>exact q
 | ret u=>exact q
def Dat.ok:Nat->Dat->Prop
 | n+1,.lst ds=>ds.length<=1000000/\∀d∈ds,Dat.ok n d
 | n+1,.tup ds=>ds.length<=1000000/\∀d∈ds,Dat.ok n d
 | 0,.lst _=>False
 | 0,.tup _=>False
 | _,_=>True
def Dat.tyN:Dat->String
 | .non=> "NoneType" | .bl _=> "bool" | .int _=> "int" | .str _=> "str" | .lst _=> "list" | .tup _=> "tuple"
theorem Rep.ty{K:PySem.W.Frag}{H:Hp}{d:Dat}{v:V}(h:Rep K H d v):TyN K H v d.tyN:=by
 cases d with
 | non=>rw[show v=_ from h];exact rfl
 | bl b=>rw[show v=_ from h];exact rfl
 | int b=>rw[show v=_ from h];exact rfl
 | str b=>rw[show v=_ from h];exact rfl
 | lst ds=>obtain⟨a,xs,rfl,e,_⟩:=h;exact .inl ⟨rfl,xs,e⟩
 | tup ds=>obtain⟨a,xs,rfl,e,_⟩:=h;exact .inr ⟨rfl,xs,e⟩
mutual
def Dat.py:Dat->PyData
 | .non=>.none
 | .bl b=>.bool b
 | .int i=>.int i
 | .str x=>.str x
 | .lst ds=>.list (Dat.pys ds)
 | .tup ds=>.tuple (Dat.pys ds)
def Dat.pys:List Dat->List PyData
 | []=>[]
 | d::ds=>d.py::Dat.pys ds
end
mutual
def Dat.shw:Dat->Bool
 | .int i=>decide (i.natAbs<1000000000000)
 | .str x=>x.cps.toList.all fun c=>decide (c<1000000)
 | .lst ds=>Dat.shws ds
 | .tup ds=>Dat.shws ds
 | _=>true
def Dat.shws:List Dat->Bool
 | []=>true
 | d::ds=>d.shw&&Dat.shws ds
end
mutual
def Dat.blk:Dat->Nat
 | .str x=>x.cps.size
 | .lst ds=>Dat.blks ds
 | .tup ds=>Dat.blks ds
 | _=>0
def Dat.blks:List Dat->Nat
 | []=>0
 | d::ds=>d.blk+1+Dat.blks ds
end
mutual
theorem Dat.py_blk:∀d:Dat,d.py.bulk=d.blk
 | .non=>rfl
 | .bl _=>rfl
 | .int _=>rfl
 | .str _=>rfl
 | .lst ds=>Dat.pys_blk ds
 | .tup ds=>Dat.pys_blk ds
theorem Dat.pys_blk:∀ds:List Dat,PyData.bulkAll (Dat.pys ds)=Dat.blks ds
 | []=>rfl
 | d::ds=>by
  show PyData.bulk d.py+1+PyData.bulkAll (Dat.pys ds)=d.blk+1+Dat.blks ds
  rw[Dat.py_blk d,Dat.pys_blk ds]
end
theorem Xx{n:Nat}(h:n<1000000000000):n.log2<1920:=by
 by_cases h0:n=0
 ·rw[h0];decide
 ·exact QZ ((Nat.log2_lt h0).mpr (QZ h (by decide:1000000000000<2^40))) (by decide)
mutual
theorem Dat.py_short:∀d:Dat,d.shw=true->d.py.leavesShort 13=true/\d.py.showable=true/\d.py.hasDict=false
 | .non,_=>⟨rfl,rfl,rfl⟩
 | .bl _,_=>⟨rfl,rfl,rfl⟩
 | .int i,h=>by
  have h':i.natAbs<1000000000000:=qZ h
  refine⟨qQ (PyData.shown_int_le h'),qQ (Xx h'),rfl⟩
 | .str x,h=>by
  refine⟨?_,rfl,rfl⟩
  have h':(x.cps.toList.all fun c=>decide (c<1000000))=true:=h
  show(x.cps.toList.all fun c=>decide (c<16^8))=true
  rw[xF] at h' ⊢
  intro c hc
  have:=qZ (h' c hc)
  exact qQ (by omega)
 | .lst ds,h=>Dat.pys_short ds h
 | .tup ds,h=>Dat.pys_short ds h
theorem Dat.pys_short:∀ds:List Dat,Dat.shws ds=true->PyData.leavesShortAll 13 (Dat.pys ds)=true/\PyData.showableAll (Dat.pys ds)=true/\PyData.hasDictAll (Dat.pys ds)=false
 | [],_=>⟨rfl,rfl,rfl⟩
 | d::ds,h=>by
  have h':(d.shw&&Dat.shws ds)=true:=h
  rw[jG] at h'
  obtain⟨a1,a2,a3⟩:=Dat.py_short d h'.1
  obtain⟨b1,b2,b3⟩:=Dat.pys_short ds h'.2
  refine⟨?_,?_,?_⟩
  ·show(PyData.leavesShort 13 d.py&&PyData.leavesShortAll 13 (Dat.pys ds))=true
   rw[a1,b1];rfl
  ·show(PyData.showable d.py&&PyData.showableAll (Dat.pys ds))=true
   rw[a2,b2];rfl
  ·show(PyData.hasDict d.py||PyData.hasDictAll (Dat.pys ds))=false
   rw[a3,b3];rfl
end
mutual
theorem Rep.reads{X:Cx}{pins:List (Addr×Obj)}{σ:St}{H:Hp}{s:Shared}(I:Inv X pins σ H s):∀{d:Dat} {v:V} {u:Value},Rep X.K H d v->RelV v u->∃as,Reads s.heap u d.py as
 | .non,v,u,h,r=>by cases(show v=_ from h);cases(show u=_ from r);exact⟨_,.none⟩
 | .bl b,v,u,h,r=>by cases(show v=_ from h);cases(show u=_ from r);exact⟨_,.bool b⟩
 | .int i,v,u,h,r=>by cases(show v=_ from h);obtain⟨t,rfl⟩:=r;exact⟨_,.int i t⟩
 | .str x,v,u,h,r=>by cases(show v=_ from h);obtain⟨t,rfl⟩:=r;exact⟨_,.str x t⟩
 | .lst ds,v,u,h,r=>by
  obtain⟨a,xs,rfl,hx,hr⟩:=h
  cases(show u=_ from r)
  obtain⟨its,rv,pl,_⟩:=I.list hx
  obtain⟨o,e,c,n,dd⟩:=pl.isList
  obtain⟨as,q⟩:=Reps.reads I hr rv
  exact⟨_,.list e c dd (by simpa using q)⟩
 | .tup ds,v,u,h,r=>by
  obtain⟨a,xs,rfl,hx,hr⟩:=h
  cases(show u=_ from r)
  obtain⟨its,rv,⟨o,e,c,n,dd⟩,_⟩:=I.tuple hx
  obtain⟨as,q⟩:=Reps.reads I hr rv
  exact⟨_,.tuple e c dd (by simpa using q)⟩
theorem Reps.reads{X:Cx}{pins:List (Addr×Obj)}{σ:St}{H:Hp}{s:Shared}(I:Inv X pins σ H s):∀{ds:List Dat} {xs:List V} {us:List Value},Reps X.K H ds xs->Vals xs us->∃as,ReadsAll s.heap us (Dat.pys ds) as
 | [],xs,us,h,r=>by cases(show xs=_ from h);cases r;exact⟨_,.nil⟩
 | d::ds,xs,us,h,r=>by
  obtain⟨x,r',rfl,h1,h2⟩:=h
  cases r with
  | cons r1 r2=>
   obtain⟨as,q1⟩:=Rep.reads I h1 r1
   obtain⟨bs,q2⟩:=Reps.reads I h2 r2
   exact⟨_,.cons q1 q2⟩
end
section
variable{X:Cx}
inductive ZP(K:PySem.W.Frag)(xs:List V)(H:Hp)(Q:VK):Prop
 | mk (p:Addr) (ns:List Int) (_:xs=[.ref p]) (_:SqL K H p (ns.map V.int)) (_:(∀z∈ns,0<=z/\z<=1000000)) (_:ns.length<=100000) (_:Q (.int ns.sum) H):ZP K xs H Q
theorem JY(hc:X.calm=true):CallR X (.builtin "sum") (ZP X.K):=by
 intro pins s σ H xs us Q I r h
 obtain⟨p,ns,rfl,hq,hz,hn,q⟩:=h
 obtain⟨u,rfl,ru⟩:=vn r
 cases(show u=_ from ru)
 obtain⟨its,rv,pl,_⟩:=I.list hq
 have hl:=pl.isList
 have hpl:p≠s.heap.objs.size:=by
  obtain⟨o,e,_⟩:=hl
  exact qm (zR e)
 have hlen:its.length=ns.length:=by have:=rv.length;rw[zq] at this;omega
 have hps:∀j,j<=ns.length->0<=(ns.take j).sum/\(ns.take j).sum<=1000000*(j:Int):=by
  intro j
  induction j with
  | zero=>intro _;simp
  | succ j ih=>
   intro hj
   have:=ih (by omega)
   have e:ns.take (j+1)=ns.take j++[ns[j]'(by omega)]:=by rw[yb]
   have b:=hz (ns[j]'(by omega)) (yV _)
   rw[e,List.sum_append]
   simp only[List.sum_cons,List.sum_nil]
   constructor
   ·omega
   ·have:(1000000:Int)*((j+1:Nat):Int)=1000000*(j:Int)+1000000:=by omega
    omega
 refine call_sum_walk (wpAny_pyIter_list hl ?_)
 refine⟨s.heap.objs.size,_,_,_,_,_,fun i=>ns.getD i 0,rfl,QX (prog:=X.prog) (w:=X.w) (A:=X.A.in1) (I.ok.hd hc) _ p hpl its.toArray,⟨⟨_,qD _ rfl,rfl,rfl⟩,hl.push _⟩,fun b hb=>?_,fun i v hP=>?_,fun j hj=>?_,fun h' tk t' hk=>?_⟩
 ·have hz':(s.heap.push { cls:=.type "list_iterator",data:=.fields #[.ref p,.int 0 0] }).objs.size=s.heap.objs.size+1:=xh ..
  show b<(s.heap.push _).objs.size
  rw[hz']
  rcases zZ.mp hb with z | z
  ·rw[z];exact ZM _
  ·rw[qo.mp z]
   obtain⟨o,e,_⟩:=hl
   exact yX (zR e)
 ·have e1:its[i]? =some v:=by simpa using hP
  have hi:i<ns.length:=by have h1:=(zW.mp e1).1;omega
  obtain⟨u',eu,ru'⟩:=rv.get (i:=i) (x:=.int ns[i]) (by simp[hi])
  rw[e1] at eu;cases eu
  obtain⟨t,e⟩:=ru'
  exact⟨t,by rw[e];simp[hi]⟩
 ·have hj':j<ns.length:=by simp only[qv] at hj;omega
  have a1:=hz ns[j] (yV hj')
  have a2:=hps (j+1) (by omega)
  have e63:(2:Int)^63=9223372036854775808:=by decide
  refine⟨?_,?_⟩
  ·show InLong (ns.getD j 0)
   rw[show ns.getD j 0=ns[j] by simp[hj']]
   unfold InLong
   rw[e63];omega
  ·rw[preSum_getD]
   unfold InLong
   rw[e63]
   have:((j+1:Nat):Int)<=100000:=by omega
   omega
 ·have k:∀b o,s.heap.get? b=some o->h'.get? b=some o:=fun b o e=>hk b o (by simp;exact qm (zR e)) (qx _ e)
  refine⟨.int ns.sum,H,I.kept k,⟨t',?_⟩,q⟩
  rw[preSum_getD]
  have:ns.take its.toArray.size=ns:=by rw[qv,hlen,qX]
  rw[this]
end
section
variable{X:Cx}{tg:Expr}
end
section
variable{X:Cx}
inductive zaq(x:V)(vs:List V)(H:Hp)(Q:VK):Prop
 | mk (l:Addr) (xs:List V) (i:Int) (y:V) (_:x=.ref l) (_:vs=[.int i,y]) (_:H l=some (.lst xs)) (_:0<=i) (_:i<2^62) (_:xs.length<sizeLine) (_:Q .non (upd H l (.lst (xs.take i.toNat++y::xs.drop i.toNat)))):zaq  x vs H Q
theorem JL:MtM X "list.insert" zaq:=by
 intro pins s σ H x vs v us Q I rx rv h
 obtain⟨l,xs,i,y,rfl,rfl,hH,i0,i1,hz,q⟩:=h
 cases rx
 obtain⟨u1,u2,rfl,r1,r2⟩:=Jp rv
 obtain⟨t,rfl⟩:=r1
 obtain⟨z,its,n,r,hl,e⟩:=I.lstM hH
 have hlen:=r.length
 refine call_meets F.slot_list_insert ⟨_,e,rfl⟩ F.entry_list_insert (F.args_list_insert_3 _ _ _) (AutoListH.list_insert_list_int_val_1 l its.toArray n i t u2 ?_ (by rw[qv];omega)) ⟨e,?_⟩
 ·unfold Builtin.List.listFitsIndex
  simp
  omega
 refine⟨.non,_,I.lset (its':=its.take i.toNat++u2::its.drop i.toNat) hH e ?_ ((r.take _).append (.cons r2 (r.drop _))) ?_,rfl,q⟩
 ·show(have k:=if i<0 then(i+((its.toArray.size:Nat):Int)).toNat else min i.toNat its.toArray.size;(its.toArray.extract 0 k).push u2++its.toArray.extract k)=_
  have hk:(if i<0 then(i+((its.toArray.size:Nat):Int)).toNat else min i.toNat its.toArray.size)=min i.toNat its.length:=by
   rw[zx (by omega),qv]
  simp only[hk]
  apply Array.toList_inj.mp
  simp
  by_cases hle:i.toNat<=its.length
  ·have h1:(its.drop i.toNat).take (its.length-i.toNat)=its.drop i.toNat:=List.take_of_length_le (by rw[yW];omega)
   rw[Nat.min_eq_left hle,h1]
  ·have h1:its.length<=i.toNat:=by omega
   rw[Nat.min_eq_right h1,List.take_of_length_le h1,List.drop_of_length_le h1]
   simp
 ·simp only[zV,qR,xU,yW]
  omega
theorem Jn{xs:List V}{its:List Value}(r:Vals xs its):∀js:List Nat,Vals (js.filterMap (xs[·]?)) (js.filterMap (its[·]?))
 | []=>.nil
 | j::js=>by
  have ih:=Jn r js
  have hl:=r.length
  cases h:xs[j]? with
  | none=>
   have h':its[j]? =none:=by
    rw[List.getElem?_eq_none_iff] at h ⊢;omega
   rw[List.filterMap_cons_none h,List.filterMap_cons_none h']
   exact ih
  | some x=>
   obtain⟨u,e,ru⟩:=r.get h
   rw[List.filterMap_cons_some h,List.filterMap_cons_some e]
   exact .cons ru ih
variable{e st:Expr}{te:TE}{tk:TO}{pos p2:Pos}
theorem zby(he:PE X e te)(hk:PO X (some st) tk):PE X (.Subscript e (.Slice none none (some st) p2) pos) (fun σ H Q=>te σ H fun x H1=>tk σ H1 fun k H2=>∃a xs,x=.ref a/\k≠some 0/\SqL X.K H2 a xs /\
  ∀ys p,(∀y∈ys,y∈xs)->ys.length<=xs.length->H2 p=none->Q (.ref p) (upd H2 p (.lst ys))):=by
 intro pins s σ H Q I h
 refine Subscript_ (thn (he pins s σ H _ I h) fun v s1 ⟨x,H1,I1,r1,q1⟩=>?_)
 refine wpAny_Slice ?_
 rw[evalPart_none]
 refine zD (zD ?_)
 refine thn (hk pins s1 σ H1 _ I1 q1) fun vk s3 ⟨k,H3,I3,pk,q3⟩=>?_
 obtain⟨a,xs,rfl,k0,hx,q⟩:=q3
 cases r1
 have I4:Inv X pins σ H3 { s3 with heap:=s3.heap.push { cls:=.type "slice",data:=.fields #[.none,.none,vk] } }:=I3.kept (t':=s3.toks) fun b ob q=>qx _ q
 obtain⟨its,r,ht,hz⟩:=I4.list hx
 have hlen:=r.length
 show wpAny (model X.prog X.w) X.A (subscriptTail e (.Slice none none (some st) p2) (.ref a) (.ref s3.heap.objs.size)) (EP X pins σ Q) X.xe { s3 with heap:=s3.heap.push { cls:=.type "slice",data:=.fields #[.none,.none,vk] } }
 refine tail_any (ops:=[.ref a,.ref s3.heap.objs.size]) (T:= "list") ht.isList.typeIs slot_list_getitem.lookup ?_ (by with_unfolding_all rfl)
 refine wpAny_getItem_list_slice (lo:=none) (hi:=none) (st:=k) ht.isList (Heap.IsSliceOf.new ..) .none .none pk k0 ?_ (by rw[qv]<;>omega)
 have hsz:=slicePick_size_le its.toArray none none k
 unfold slicePick at hsz ⊢
 generalize (sliceRange (sliceBounds none none k its.toArray.size).1 (sliceBounds none none k its.toArray.size).2.1 (sliceBounds none none k its.toArray.size).2.2)=js at hsz ⊢
 have e1:js.filterMap (its.toArray[·]?)=js.filterMap (its[·]?):=by simp
 rw[e1] at hsz ⊢
 have rv:=Jn r js
 have hl2:=rv.length
 simp only[qv] at hsz
 refine⟨.ref _,_,I4.laid (t':=s3.toks) (o:=.lst (js.filterMap (xs[·]?))) (fun b ob q=>qx _ q) (zJ _) ?_,rfl,q _ _ (fun y hy=>?_) (by omega) (I4.hok.fresh (zJ _))⟩
 ·exact⟨by omega,_,0,rv,qD _ rfl⟩
 ·obtain⟨j,_,hj⟩:=Yl.mp hy
  exact qU hj
end
theorem jH{K:PySem.W.Frag}{a:Addr}{xs:List V}{g:TG}{tf:TT}{te:TE}{σ0:St}{n:Nat}{R:List V->Hp->Prop}{H:Hp}(Pv:Nat->List V->Hp->Prop)(h0:Pv 0 [] H)
  (h1:∀i zs H,Pv i zs H->SqL K H a xs)
  (hs:∀i x zs H,xs[i]? =some x->Pv i zs H->g x σ0 H fun σ4 H4=>σ4.drop n=σ0.drop n/\tf σ4 H4 fun b H5=>
   if b=true then te σ4 H5 fun v H6=>zs.length<sizeLine/\Pv (i+1) (zs++[v]) H6 else Pv (i+1) zs H5)
  (hd:∀zs H,Pv xs.length zs H->zs.length<=sizeLine/\R zs H) :
  ∃W:Nat->Nat->List V->Hp->Prop,(∃m,W 0 m [] H)/\∀i m zs H2,W i m zs H2 ->
   ((Itl K a).stop i H2/\zs.length<=sizeLine/\R zs H2) \/
   ((Itl K a).go i H2/\∃N:List V->Hp->Prop,(∀zs H',N zs H'->∃m',m'<m/\W (i+1) m' zs H')/\∀x H3,(Itl K a).yld i H2 x H3->g x σ0 H3 fun σ4 H4=>σ4.drop n=σ0.drop n/\tf σ4 H4 fun b H5=>
    if b=true then te σ4 H5 fun y H6=>zs.length<sizeLine/\N (zs++[y]) H6 else N zs H5):=by
 refine⟨fun i m zs H2=>m=xs.length-i/\i<=xs.length/\Pv i zs H2,⟨_,rfl,qe _,h0⟩,?_⟩
 rintro i m zs H2 ⟨rfl,hi,p⟩
 have q:=h1 i zs H2 p
 by_cases hlt:i<xs.length
 ·refine .inr ⟨⟨xs,xs[i],q,by simp[hlt]⟩,Pv (i+1),fun zs' H' p'=>⟨_,by omega,rfl,hlt,p'⟩,fun x H3 y=>?_⟩
  obtain⟨e,y⟩:=y
  subst e
  exact hs i x zs _ (y xs q) p
 ·have e:i=xs.length:=by omega
  subst e
  obtain⟨z1,z2⟩:=hd zs H2 p
  exact .inl ⟨⟨xs,q,zJ _⟩,z1,z2⟩
theorem wq{K:PySem.W.Frag}{a:Addr}{xs:List V}{g:TG}{tf:TT}{te:TE}{σ0:St}{n:Nat}{R:List V->Hp->Prop}{H:Hp}(Pv:Nat->List V->Hp->Prop)(h0:Pv 0 [] H)
  (h1:∀i zs H,Pv i zs H->SqT K H a xs)
  (hs:∀i x zs H,xs[i]? =some x->Pv i zs H->g x σ0 H fun σ4 H4=>σ4.drop n=σ0.drop n/\tf σ4 H4 fun b H5=>
   if b=true then te σ4 H5 fun v H6=>zs.length<sizeLine/\Pv (i+1) (zs++[v]) H6 else Pv (i+1) zs H5)
  (hd:∀zs H,Pv xs.length zs H->zs.length<=sizeLine/\R zs H) :
  ∃W:Nat->Nat->List V->Hp->Prop,(∃m,W 0 m [] H)/\∀i m zs H2,W i m zs H2 ->
   ((Itt K a).stop i H2/\zs.length<=sizeLine/\R zs H2) \/
   ((Itt K a).go i H2/\∃N:List V->Hp->Prop,(∀zs H',N zs H'->∃m',m'<m/\W (i+1) m' zs H')/\∀x H3,(Itt K a).yld i H2 x H3->g x σ0 H3 fun σ4 H4=>σ4.drop n=σ0.drop n/\tf σ4 H4 fun b H5=>
    if b=true then te σ4 H5 fun y H6=>zs.length<sizeLine/\N (zs++[y]) H6 else N zs H5):=by
 refine⟨fun i m zs H2=>m=xs.length-i/\i<=xs.length/\Pv i zs H2,⟨_,rfl,qe _,h0⟩,?_⟩
 rintro i m zs H2 ⟨rfl,hi,p⟩
 have q:=h1 i zs H2 p
 by_cases hlt:i<xs.length
 ·refine .inr ⟨⟨xs,xs[i],q,by simp[hlt]⟩,Pv (i+1),fun zs' H' p'=>⟨_,by omega,rfl,hlt,p'⟩,fun x H3 y=>?_⟩
  obtain⟨e,y⟩:=y
  subst e
  exact hs i x zs _ (y xs q) p
 ·have e:i=xs.length:=by omega
  subst e
  obtain⟨z1,z2⟩:=hd zs H2 p
  exact .inl ⟨⟨xs,q,zJ _⟩,z1,z2⟩
inductive DV(K:PySem.W.Frag)(F:Hp)(n:Nat):V->Prop
 | non:DV K F n .non
 | bl (b:Bool):DV K F n (.bl b)
 | int (i:Int) (h:i.natAbs<=10000000000+n):DV K F n (.int i)
 | str (x:Str) (h:x.length<=n):DV K F n (.str x)
 | lst (a:Addr) (xs:List V) (h:SqL K F a xs) (hl:xs.length<=n) (all:∀x∈xs,DV K F n x):DV K F n (.ref a)
 | tup (a:Addr) (xs:List V) (h:SqT K F a xs) (hl:xs.length<=n) (all:∀x∈xs,DV K F n x):DV K F n (.ref a)
def WX(ex:List Addr)(H:Hp):Hp:=fun c=>if c∈ex then none else H c
theorem WX.le{ex:List Addr}{H:Hp}:Same (WX ex H) H:=fun c o e=>by
 unfold WX at e
 split at e
 ·cases e
 ·exact e
theorem WX.new{ex:List Addr}{H:Hp}{p:Addr}{o:HO}(h:H p=none):Same (WX ex H) (WX ex (upd H p o)):=fun c u e=>by
 unfold WX at e ⊢
 split at e
 ·cases e
 ·rename_i hc
  rw[zx hc,zi (zn e h)]
  exact e
theorem WX.same{ex:List Addr}{H H':Hp}(h:Same H H'):Same (WX ex H) (WX ex H'):=fun c u e=>by
 unfold WX at e ⊢
 split at e
 ·cases e
 ·rename_i hc
  rw[zx hc]
  exact h c u e
theorem WX.cons{ex:List Addr}{H:Hp}{m:Addr}:Same (WX (m::ex) H) (WX ex H):=fun c u e=>by
 unfold WX at e ⊢
 split at e
 ·cases e
 ·rename_i hc
  rw[zx (fun z=>hc (jv _ z))]
  exact e
theorem WX.fresh{ex:List Addr}{H:Hp}{m:Addr}(h:H m=none)(o:HO):Same (WX ex H) (WX (m::ex) (upd H m o)):=fun c u e=>by
 unfold WX at e ⊢
 split at e
 ·cases e
 ·rename_i hc
  have hm:c≠m:=zn e h
  rw[zx (fun z=>(zZ.mp z).elim hm hc),zi hm]
  exact e
theorem WX.put{ex:List Addr}{H:Hp}{m:Addr}{o:HO}(h:m∈ex):Same (WX ex H) (WX ex (upd H m o)):=fun c u e=>by
 unfold WX at e ⊢
 split at e
 ·cases e
 ·rename_i hc
  rw[zx hc,zi (show c≠m from fun z=>hc (by rw[z];exact h))]
  exact e
theorem WX.at{ex:List Addr}{H:Hp}{c:Addr}{o:HO}(h:c∉ex)(e:H c=some o):WX ex H c=some o:=by
 unfold WX;rw[zx h];exact e
theorem W1{i:Int}(h:i.natAbs<1000000000000):(Str.ofString (toString i)).length<=13:=PyData.shown_int_le h
def zaA:Expr->Bool
 | .Starred _ _=>false
 | _=>true
theorem zU{e:Expr}{es:List Expr}{env:Env}(h:zaA e=true):starEach (e::es) env=(false,eval e env)::starEach es env:=by
 cases e<;>first| rfl | cases h
theorem pa5{X:Cx}{e0 e1 e2 e3 e4:Expr}{t0 t1 t2 t3 t4:TE}(h0:PE X e0 t0)(h1:PE X e1 t1)(h2:PE X e2 t2)(h3:PE X e3 t3)(h4:PE X e4 t4)(h:([e0,e1,e2,e3,e4]).all zaA=true:=by rfl):PA X [e0,e1,e2,e3,e4] (jy t0 (jy t1 (jy t2 (jy t3 (jy t4 zd1))))):=by
 have hz:=xF.mp h
 exact(za h0 (za h1 (za h2 (za h3 (za h4 ze (zU (hz _ (by simp)))) (zU (hz _ (by simp)))) (zU (hz _ (by simp)))) (zU (hz _ (by simp)))) (zU (hz _ (by simp))))
theorem pa6{X:Cx}{e0 e1 e2 e3 e4 e5:Expr}{t0 t1 t2 t3 t4 t5:TE}(h0:PE X e0 t0)(h1:PE X e1 t1)(h2:PE X e2 t2)(h3:PE X e3 t3)(h4:PE X e4 t4)(h5:PE X e5 t5)(h:([e0,e1,e2,e3,e4,e5]).all zaA=true:=by rfl):PA X [e0,e1,e2,e3,e4,e5] (jy t0 (jy t1 (jy t2 (jy t3 (jy t4 (jy t5 zd1)))))):=by
 have hz:=xF.mp h
 exact(za h0 (za h1 (za h2 (za h3 (za h4 (za h5 ze (zU (hz _ (by simp)))) (zU (hz _ (by simp)))) (zU (hz _ (by simp)))) (zU (hz _ (by simp)))) (zU (hz _ (by simp)))) (zU (hz _ (by simp))))
section
variable{X:Cx}{elt tg iter:Expr}{ifs:List Expr}{scope:Scope}{pos:Pos}{wi:TI}{g:TG}{tf:TT}{te:TE}
theorem zb1{y:Str}{py:Pos}{g2:TG}{pins:List (Addr×Obj)}{σ:St}{H6:Hp}{Dn:St->Hp->Prop}{s6:Shared}{D C:Addr}{m:Str->Option Value}(hg2:PG X (.Name y py) g2)(hn:s6.heap.Ns C m)
  (all:∀h7:Heap,(∀b o,b≠C->s6.heap.get? b=some o->h7.get? b=some o)->Inv X pins σ H6 { s6 with heap:=h7 }) (fc:vm X pins H6 C) (q:g2 (.ref D) σ H6 Dn) :
  wpAny (model X.prog X.w) X.A (assign (.Name y py) X.env (.ref D)) (fun _ s''=>∃m,s''.heap.Ns C m/\∀h',Heap.SameBut C s''.heap h'->∃σ' H',Inv X pins σ' H' { s'' with heap:=h' }/\Dn σ' H') X.xe s6:=by
 have J0:=all s6.heap fun b o _ e=>e
 obtain⟨oC,es,ep,eoC,hd,r⟩:=hn
 have J1:=J0.pinned (fp:=[C]) (fun b hb=>by rw[qo.mp hb];exact fc) (fun b hb=>by rw[qo.mp hb];exact⟨oC,eoC,fun v z=>by rw[hd] at z;cases z⟩)
 have mC:(C,oC)∈pins++jk [C] s6.heap:=jL _ (jY (qo.mpr rfl) eoC)
 refine thn (hg2 _ s6 σ _ (.ref D) (.ref D) _ J1 rfl q) fun _ s8 ⟨σ8,H8,I8,q8⟩=>?_
 obtain⟨e8,n8,_⟩:=I8.pin (C,oC) (jL _ mC)
 obtain⟨_,g1,_,g3,g4,g5⟩:=fc
 exact⟨m,⟨oC,es,ep,e8,hd,r⟩,fun h9 hs9=>⟨σ8,H8,(I8.unpinned).turned (t':=s8.toks) (it:=C) (fun b o hb e=>hs9.extBut b o hb e) n8 g1 g3 g4 g5,q8⟩⟩
theorem zfz{y:Str}{py spos:Pos}{g2:TG}(own fr:List Str)(js:List Nat)(hc:X.calm=true)(hk:scope.kind=.function)(hb:QP scope.names X.env.scope.names X.N fr js=true)(hi:PI X tg iter wi)
  (hg:∀C s H ex,PG (jd X (own++fr) scope C s H ex) tg g) (hf:∀C s H ex,PF (jd X (own++fr) scope C s H ex) ifs tf) (he:∀C s H ex,PE (jd X (own++fr) scope C s H ex) elt te)
  (hg2:PG X (.Name y py) g2) (hsw:swapsWith (.ListComp elt [⟨tg,iter,ifs,0⟩] scope pos) (some (.Name y py)) spos.line X.env=pure true:=by rfl)
  (hs:∀x,foldedSetIterable iter X.env x=pure x:=by intro _;rfl):PS X (.Assign [.Name y py] (.ListComp elt [⟨tg,iter,ifs,0⟩] scope pos) spos) (WA (tLC wi own.length js g tf te) g2):=by
 intro pins s σ H Dn I h
 rw[exec_Assign_Name_used _ _ _ _ hsw]
 refine zr (wpAny_standAt (zr ?_))
 show wpAny _ X.A (do let _<-comprehension (.ListComp elt [⟨tg,iter,ifs,0⟩] scope pos) scope X.env _ (newList []) false (eval iter X.env) (some (assign (.Name y py) X.env))) _ _ s
 refine zr (xZ (zfI (rest:=[]) (use:=some (assign (.Name y py) X.env)) (Qx:=fun _ s'=>∃σ' H',Inv X pins σ' H' s'/\Dn.nx σ' H') (Q:=fun v H1=>g2 v σ H1 Dn.nx) own fr js hk hb hi hs I h (fun C D it fp tn J W H2 s3 s4 m0 R a b T tl j fin=>zaD hc hg hf he a b T tl j fin) fun s6 D C H6 m hn all fc q=>zb1 hg2 hn all fc q) (fun _ s' hq=>zD (zD hq)) fun _ _ e=>e)
theorem Zg{x y:Str}{px py spos:Pos}{g2:TG}(fr:List Str)(js:List Nat)(hc:X.calm=true)(hk:scope.kind=.function)(hb:yk scope.names X.env.scope.names X.N [x] fr js=true)(hi:PI X (.Name x px) iter wi)
  (hf:∀C s H ex,PF (jd X ([x]++fr) scope C s H ex) ifs tf) (he:∀C s H ex,PE (jd X ([x]++fr) scope C s H ex) elt te)
  (hg2:PG X (.Name y py) g2) (hsw:swapsWith (.ListComp elt [⟨.Name x px,iter,ifs,0⟩] scope pos) (some (.Name y py)) spos.line X.env=pure true:=by rfl)
  (hs:∀x,foldedSetIterable iter X.env x=pure x:=by intro _;rfl):PS X (.Assign [.Name y py] (.ListComp elt [⟨.Name x px,iter,ifs,0⟩] scope pos) spos) (WA (tLC wi 1 js (vY 0) tf te) g2):=by
 obtain⟨h1,h2,h3⟩:=wT hb
 exact zfz [x] fr js hc hk h1 hi (fun C s H ex=>Zi (h2 x (by simp)) h3 rfl) hf he hg2 hsw hs
theorem zf8{x z y:Str}{px pz py spos tp:Pos}{kk:Nat}{g2:TG}(fr:List Str)(js:List Nat)(hc:X.calm=true)(hk:scope.kind=.function)(hb:yk scope.names X.env.scope.names X.N [x,z] fr js=true)(hi:PI X (.Tuple [.Name x px,.Name z pz] kk tp) iter wi)
  (hf:∀C s H ex,PF (jd X ([x,z]++fr) scope C s H ex) ifs tf) (he:∀C s H ex,PE (jd X ([x,z]++fr) scope C s H ex) elt te)
  (hg2:PG X (.Name y py) g2) (hsw:swapsWith (.ListComp elt [⟨.Tuple [.Name x px,.Name z pz] kk tp,iter,ifs,0⟩] scope pos) (some (.Name y py)) spos.line X.env=pure true:=by rfl)
  (hs:∀x,foldedSetIterable iter X.env x=pure x:=by intro _;rfl):PS X (.Assign [.Name y py] (.ListComp elt [⟨.Tuple [.Name x px,.Name z pz] kk tp,iter,ifs,0⟩] scope pos) spos) (WA (tLC wi 2 js (zds X.K 2 (ZD (vY 0) (ZD (vY 1) zeO))) tf te) g2):=by
 obtain⟨h1,h2,h3⟩:=wT hb
 refine zfz [x,z] fr js hc hk h1 hi (fun C s H ex=>?_) hf he hg2 hsw hs
 exact xm (X:=jd X ([x,z]++fr) scope C s H ex) hc (zT (Zi (h2 x (by simp)) h3 rfl) (zT (Zi (h2 z (by simp)) h3 rfl) jN))
end
theorem Vals.mem{u:Value}:∀{xs:List V} {us:List Value},Vals xs us->u∈us->∃x∈xs,RelV x u
 | _,_,.nil,h=>by cases h
 | x::xs,v::vs,.cons r t,h=>by
  rcases zZ.mp h with e | h
  ·rw[e];exact⟨x,j8,r⟩
  ·obtain⟨y,hy,ry⟩:=Vals.mem t h
   exact⟨y,jv _ hy,ry⟩
section
variable{X:Cx}
theorem zgQ{pins:List (Addr×Obj)}{σ:St}{H:Hp}{s:Shared}(I:Inv X pins σ H s){A:Around}(hu:A.units<cLine){a c:Addr}{xs ys:List V}(hx:SqT X.K H a xs)(hy:SqT X.K H c ys)(fx:xs.all xg=true)(fy:ys.all xg=true):∃b,SeqAt.EqAt A s (.ref a) (.ref c) b:=by
 by_cases hac:a=c
 ·subst hac
  exact⟨true,SeqAt.EqAt.same _⟩
 ·obtain⟨its1,r1,p1,z1⟩:=I.tuple hx
  obtain⟨its2,r2,p2,z2⟩:=I.tuple hy
  have l1:=r1.length
  have l2:=r2.length
  refine⟨_,SeqAt.EqAt.of_refs hac (SeqAt.RcAt.tuples (e:=fun j=>eqV (xs.getD j .non) (ys.getD j .non)) p1 p2 hu (fun j h1 h2=>?_))⟩
  have h1':j<xs.length:=by rw[qv] at h1;omega
  have h2':j<ys.length:=by rw[qv] at h2;omega
  obtain⟨w1,e1,q1⟩:=r1.get (i:=j) (x:=xs[j]) (by simp[h1'])
  obtain⟨w2,e2,q2⟩:=r2.get (i:=j) (x:=ys[j]) (by simp[h2'])
  have g1:its1.toArray[j]=w1:=by simpa using (zW.mp e1).2
  have g2:its2.toArray[j]=w2:=by simpa using (zW.mp e2).2
  rw[g1,g2,show xs.getD j .non=xs[j] by simp[h1'],show ys.getD j .non=ys[j] by simp[h2']]
  exact zdz q1 q2 (xF.mp fx _ (yV h1')) (xF.mp fy _ (yV h2'))
inductive Xf(K:PySem.W.Frag)(x:V)(y:V)(H:Hp)(Q:VK):Prop
 | mk (a p:Addr) (zs xs:List V) (_:x=.ref a) (_:y=.ref p) (_:SqT K H a zs) (_:zs.all xg=true) (_:SqL K H p xs) (_:(∀v∈xs,∃(c:Addr) (ws:List V),v=.ref c/\SqT K H c ws/\ws.all xg=true)) (_:∀r:Bool,Q (.bl r) H):Xf K x y H Q
open Classical in
theorem zel(hu:X.A.units+64<cLine):OpR X (compareOp .In) (Xf X.K):=by
 intro pins s σ H x y v u Q I rx ry h
 obtain⟨a,p,zs,xs,rfl,rfl,ha,fa,hp,all,q⟩:=h
 cases rx
 cases ry
 obtain⟨its,r,pl,hz⟩:=I.list hp
 have ex:∀w∈its,∃b,SeqAt.EqAt X.A.in1 s w (.ref a) b:=fun w hw=>by
  obtain⟨x,hx,rxw⟩:=Vals.mem r hw
  obtain⟨c,ws,rfl,hc,fc⟩:=all x hx
  cases rxw
  exact zgQ I (by show X.A.units+1<cLine;omega) hc ha fc fa
 refine SeqAt.in_listAt (fun w=>if h:∃b,SeqAt.EqAt X.A.in1 s w (.ref a) b then h.choose else false) pl.isList (fun w hw=>?_) ⟨.bl _,H,I,rfl,q _⟩
 have hw':=ex w (by simpa using hw)
 simp only[hw',dif_pos]
 exact hw'.choose_spec
inductive Jc(K:PySem.W.Frag)(x:V)(y:V)(H:Hp)(Q:VK):Prop
 | mk (a b:Addr) (xs:List V) (_:x=.ref a) (_:y=.ref b) (_:SqL K H a xs) (_:SqL K H b []) (_:Q (.bl (!xs.isEmpty)) H):Jc K x y H Q
theorem Qs(hu:X.A.units<cLine):OpR X (compareOp .NotEq) (Jc X.K):=by
 intro pins s σ H x y v u Q I rx ry h
 obtain⟨a,b,xs,rfl,rfl,hx,hy,q⟩:=h
 cases rx
 cases ry
 obtain⟨its1,r1,p1,z1⟩:=I.list hx
 obtain⟨its2,r2,p2,z2⟩:=I.list hy
 cases r2
 cases r1 with
 | nil=>exact SeqAt.RcNeAt.lists (e:=fun _=>true) p1.isList p2.isList rfl hu (fun j h1 _=>by simp at h1) _ _ _ _ ⟨.bl _,H,I,rfl,q⟩
 | cons r t=>exact SeqAt.RcNeAt.lists_lengths p1.isList p2.isList (by simp) hu _ _ _ _ ⟨.bl _,H,I,rfl,q⟩
inductive Jd(K:PySem.W.Frag)(x:V)(y:V)(H:Hp)(Q:VK):Prop
 | mk (a b:Addr) (xs:List V) (_:x=.ref a) (_:y=.ref b) (_:SqL K H a xs) (_:SqL K H b []) (_:Q (.bl xs.isEmpty) H):Jd K x y H Q
theorem VS(hu:X.A.units<cLine):OpR X (compareOp .Eq) (Jd X.K):=by
 intro pins s σ H x y v u Q I rx ry h
 obtain⟨a,b,xs,rfl,rfl,hx,hy,q⟩:=h
 cases rx
 cases ry
 obtain⟨its1,r1,p1,z1⟩:=I.list hx
 obtain⟨its2,r2,p2,z2⟩:=I.list hy
 cases r2
 cases r1 with
 | nil=>exact SeqAt.RcAt.lists (e:=fun _=>true) p1.isList p2.isList rfl hu (fun j h1 _=>by simp at h1) _ _ _ _ ⟨.bl _,H,I,rfl,q⟩
 | cons r t=>exact SeqAt.RcAt.lists_lengths p1.isList p2.isList (by simp) hu _ _ _ _ ⟨.bl _,H,I,rfl,q⟩
theorem Vk:∀{its:List Value} {n k:Nat},its.length=n->(∀j v,its[j]? =some v->∃t,v=Value.int ((k+j:Nat):Int) t)->Vals ((List.range' k n).map fun i:Nat=>V.int (i:Int)) its
 | [],0,k,_,_=>.nil
 | v::its,n+1,k,hl,h=>by
  rw[List.range'_succ,xx]
  obtain⟨t,e⟩:=h 0 v rfl
  refine .cons ⟨t,by rw[e];rfl⟩ (Vk (by simpa using hl) fun j w hw=>?_)
  obtain⟨t',e'⟩:=h (j+1) w (by simpa using hw)
  exact⟨t',by rw[e',show k+(j+1)=k+1+j by omega]⟩
theorem yG{a:Expr}{ta:TA}{p p2 pos pos2:Pos}(hc:X.calm=true)(hg:Gl X "list")(hm:X.mg "list" = none)(hg2:Gl X "range")(hm2:X.mg "range" = none)(hv:bootBuiltins "list" = some (.type "list"))(ha:PA X [a] ta)(hs:starEach [a] X.env=[(false,eval a X.env)]:=by rfl)
  (he:starEach [.Call (.Name "range" p2) [a] [] pos2] X.env=[(false,eval (.Call (.Name "range" p2) [a] [] pos2) X.env)]:=by rfl) :
  PE X (.Call (.Name "list" p) [.Call (.Name "range" p2) [a] [] pos2] [] pos) (fun σ H Q=>ta σ H fun vs H1=>∃j:Int,vs=[.int j]/\0<=j/\j<=1000000/\∀l,H1 l=none->Q (.ref l) (upd H1 l (.lst ((List.range j.toNat).map fun i:Nat=>V.int (i:Int))))):=by
 intro pins s σ H Q I h
 refine wpAny_Call_Name_kw (vC I hg hm hv ?_ (by decide) (by decide))
 refine QW ?_ he rfl
 rw[he]
 refine QT ?_
 refine Call_ (vC I hg2 hm2 boot_range (QW (thn (ha pos2 pins s σ H _ I h) fun us s1 ⟨vs,H1,I1,r1,q1⟩=>?_) hs rfl))
 obtain⟨j,e,j0,j1,q⟩:=q1
 subst e
 cases r1 with
 | cons r rr=>
  cases rr
  obtain⟨t,rfl⟩:=r
  refine call_range_1 (Q4 ?_)
  have I2:Inv X pins σ H1 { s1 with heap:=s1.heap.push { cls:=.type "range",data:=.fields #[.int 0 s1.toks,.int j t,.int 1 (s1.toks+1)] },toks:=s1.toks+1+1 }:=I1.kept fun b o e=>qx _ e
  have e62:(2:Int)^62=4611686018427387904:=by decide
  refine call_list_range (n:=j.toNat) (I.ok.hd hc) (IsRange.new ..) (small_one (by rw[e62];omega) (by rw[e62];omega) (by rw[e62];omega) (by rw[e62];omega)) (by rw[rangeSize_one];split<;>omega) (by omega) fun h' tk acc' c' keep get items=>?_
  refine⟨.ref _,_,I2.laid (t':=tk) (o:=.lst ((List.range j.toNat).map fun i:Nat=>V.int (i:Int))) keep (zJ _) ?_,rfl,q _ (I2.hok.fresh (zJ _))⟩
  refine⟨by rw[zq,vQ,sizeLine_eq];omega,acc'.toList,c',?_,by rw[Array.toArray_toList];exact get⟩
  rw[List.range_eq_range']
  refine Vk (by rw[J9];exact items.1) fun i v hv=>?_
  obtain⟨t',e'⟩:=items.2 i v (by simpa using hv)
  exact⟨t',by rw[e'];congr 1;omega⟩
end
end L2
namespace L2
open PySem PySem.Spec PyProof.Rows
section
variable{prog:Program}{w:World}{A:Around}{E:Value->Shared->Prop}{s:Shared}
end
def Tups(H:Hp)(xs ys:List V)(Ts:List Addr):Prop:=∀(j:Nat) (T:Addr),Ts[j]? =some T->∃x y,xs[j]? =some x/\ys[j]? =some y/\H T=some (.tup [x,y])
section
variable{X:Cx}{A:Around}{R:Result->Shared->Prop}
end
section
variable{X:Cx}
theorem yM{K:PySem.W.Frag}(h:X.K=K):IxR X (zeb K):=by rw[<- h];exact zS
theorem qq{K:PySem.W.Frag}(h:X.K=K):IxR X (zea K):=by rw[<- h];exact qc
theorem wX{K:PySem.W.Frag}(h:X.K=K):CallR X (.builtin "len") (vh K):=by rw[<- h];exact zL
theorem xn{K:PySem.W.Frag}(h:X.K=K):OpR X (compareOp .In) (rIn K false):=by rw[<- h];exact wI
theorem Jk{K:PySem.W.Frag}(h:X.K=K):OpR X (compareOp .NotIn) (rIn K true):=by rw[<- h];exact Xu
end
section
open AutoSeq1 (wpAny_loadPart')
theorem wn(l:Addr)(items:Array Value)(n:Nat)(dct:Option Addr)(sl:Array (Option Value)) :
  Meets (Builtin.«enumerate.__new__» ⟨[.type "enumerate",.ref l],[]⟩) (fun _ R s=>s.heap.get? l=some { cls:=.type "tuple",dict:=dct,data:=.seq items n,slots:=sl } /\
   R (.ok (.ret (.ref (s.heap.push { cls:=.type "tuple_iterator",data:=.fields #[.ref l,.int 0 0] }).objs.size)))
    { s with heap:=(s.heap.push { cls:=.type "tuple_iterator",data:=.fields #[.ref l,.int 0 0] }).push { cls:=.type "enumerate",data:=.fields #[.none,.bool false,.ref s.heap.objs.size,rawInt 0,.none,.none] } }):=
 .of_wp fun prog w A R s h=>by
  obtain⟨hp,g,d,tk,os⟩:=s;obtain⟨hl,h⟩:=h
  have hsub:=sub_enumerate
  have hL:Heap.IsTuple (Shared.heap ⟨hp,g,d,tk,os⟩) l items:=⟨_,hl,rfl,n,rfl⟩
  wp_walk using wpAny_loadPart' hl
  refine wpAny_stack_any fun st=>zD ?_
  split
  ·rename_i c _ _ _ _ _
   cases(c==Value.type "enumerate")
   ·wp_walk using wpAny_loadPart' hl,wpAny_pyIter_tuple hL
    exact⟨_,rfl,h⟩
   ·wp_walk using wpAny_loadPart' hl,wpAny_pyIter_tuple hL
    exact⟨_,rfl,h⟩
  ·wp_walk using wpAny_loadPart' hl,wpAny_pyIter_tuple hL
   exact⟨_,rfl,h⟩
end
section
variable{prog:Program}{w:World}{A:Around}{E:Value->Shared->Prop}{s:Shared}
theorem wv{l:Addr}{items:Array Value}{Q:Value->Shared->Prop}(hL:s.heap.IsTuple l items)
  (h:∀h',IsEnum h' (s.heap.objs.size+1) s.heap.objs.size 0 .none->h'.IsTupleIter s.heap.objs.size l 0->h'.objs.size=s.heap.objs.size+2 ->
   (∀b o,s.heap.get? b=some o->h'.get? b=some o)->Q (.ref (s.heap.objs.size+1)) { s with heap:=h' }) :
  wpAny (model prog w) A (call (.type "enumerate") [.ref l]) Q E s:=by
 obtain⟨⟨c,dct,dt,sl⟩,hl,hc,n,hd⟩:=hL
 replace hc:c=.type "tuple" :=hc
 replace hd:dt=.seq items n:=hd
 subst hc hd
 refine callType_new F.called_enumerate (by decide) (F.typeCall_enumerate_1 _) (F.newCall_enumerate_1 _) (fun obj=>F.args_object_init_2 obj _) F.entry_enumerate_new
  (wn l items n dct sl) ⟨hl,?_⟩
 have hz:(s.heap.push { cls:=.type "tuple_iterator",data:=.fields #[.ref l,.int 0 0] }).objs.size=s.heap.objs.size+1:=xh ..
 show _/\_
 rw[hz]
 have he:IsEnum ((s.heap.push { cls:=.type "tuple_iterator",data:=.fields #[.ref l,.int 0 0] }).push
   { cls:=.type "enumerate",data:=.fields #[.none,.bool false,.ref s.heap.objs.size,rawInt 0,.none,.none] }) (s.heap.objs.size+1) s.heap.objs.size 0 .none:=by
  have:=qD (s.heap.push { cls:=.type "tuple_iterator",data:=.fields #[.ref l,.int 0 0] })
   (o:={ cls:=.type "enumerate",data:=.fields #[.none,.bool false,.ref s.heap.objs.size,rawInt 0,.none,.none] }) rfl
  rw[hz] at this;exact this
 refine⟨⟨_,he,rfl⟩,h _ he ⟨_,qx _ (qD _ rfl),rfl,rfl⟩ (by rw[xh,hz]) fun b o x=>qx _ (qx _ x)⟩
theorem Draws.tuple{prog:Program}{w:World}{A:Around}(hh:A.handled=none)(it l:Addr)(hne:l≠it)(items:Array Value) :
  Draws prog w A it [it,l] items.size (fun i v=>items[i]? =some v) (fun i h=>h.IsTupleIter it l i/\h.IsTuple l items) where
 live:=fun _ _ st=>let ⟨o,ho,_⟩:=st.1;⟨o,ho⟩
 frame:=fun _ _ _ st hk=>⟨ItrK.at (kd:=false) st.1 fun o e=>hk it (by simp) o e,SeqK.at (kd:=false) st.2 fun o e=>hk l (by simp) o e⟩
 item:=fun i s Q E hi st hQ=>by
  refine vS (kd:=false) st.1 st.2 (x:=items[i]) (by simp[hi]) fun h' hit' hs'=>?_
  exact hQ _ h' s.toks (by simp[hi]) ⟨hit',SeqK.at (kd:=false) st.2 fun o e=>hs'.extBut l o hne e⟩ hs'
 done:=fun s Q E st hE=>wK (kd:=false) hh st.1 st.2 (by simp) hE
end
def zdW(K:PySem.W.Frag)(a:Addr):It:=
 ⟨fun i H=>∃xs x,SqT K H a xs/\xs[i]? =some x,fun i H x H'=>∃T y,x=.ref T/\H T=none/\H'=upd H T (.tup [.int i,y])/\∀xs,SqT K H a xs->xs[i]? =some y,fun i H=>∃xs,SqT K H a xs/\xs.length<=i⟩
theorem Ww{P:Program}{w:World}{K:PySem.W.Frag}{elts:List Expr}{kk:Nat}{pos:Pos}(a e it:Addr)(hne:e≠it) :
  Jb P w K (.Tuple elts kk pos) (zdW K a) [e,it] e (fun i h=>(∃old,IsEnum h e it i old)/\h.IsTupleIter it a i) where
 mem:=by simp
 obj:=fun i h st b hb=>by
  obtain⟨⟨old,he⟩,⟨o,ho,c,d⟩⟩:=st
  rcases zZ.mp hb with z | z
  ·subst z;exact⟨_,he,fun v q=>nomatch q⟩
  ·rw[qo.mp z];exact⟨o,ho,fun v q=>by rw[d] at q;cases q⟩
 keep:=fun i h h' st k=>by
  obtain⟨⟨old,he⟩,hi⟩:=st
  exact⟨⟨old,k e (by simp) _ he⟩,ItrK.at (kd:=false) hi fun o q=>k it (by simp) o q⟩
 item:=by
  intro X hP hw hK hc i pins s σ H E I hf st hg
  subst hP hw hK
  obtain⟨⟨old,he⟩,hit⟩:=st
  obtain⟨xs,x,hq,hx⟩:=hg
  obtain⟨its,rv,p,hz⟩:=I.tuple hq
  obtain⟨u,hu,ru⟩:=rv.get hx
  have hl:s.heap.IsTuple a its.toArray:=p
  have hai:a≠it:=fun z=>by
   obtain⟨o,e1,c1,_⟩:=hl
   obtain⟨o',e2,c2,_⟩:=hit
   rw[z,e2] at e1;cases e1;rw[c2] at c1;exact absurd (ZJ c1) (by decide)
  have hae:e≠a:=fun z=>by
   obtain⟨o,e1,c1,_⟩:=hl
   rw[<- z,he] at e1;cases e1;exact absurd (ZJ c1) (by decide)
  have D:=Draws.tuple (prog:=X.prog) (w:=X.w) (A:=X.A.in1) (I.ok.hd hc) it a hai its.toArray
  have hi:i<its.toArray.size:=by
   have h1:=(zW.mp hu).1
   simpa using h1
  refine wpAny_pyNext_enum_itemD D he ⟨hit,hl⟩ hi hne (by simp[hne,hae]) fun x' h' tk hP' hout hst' hT hsz hk=>?_
  have ex:x'=u:=by
   have h2:its[i]? =some x':=by simpa using hP'
   rw[hu] at h2;exact(jT h2).symm
  subst ex
  refine⟨_,rfl,wpAny_letOwnedTupleGo_enum hout fun h2 he2 hs2=>?_⟩
  have eT:s.heap.objs.size≠e:=vc (zR he)
  have k2:∀b o,b∉[e,it]->s.heap.get? b=some o->h2.get? b=some o:=fun b o hb q=>by
   have n1:b≠e:=fun z=>hb (by simp[z])
   have n2:b≠it:=fun z=>hb (by simp[z])
   exact(hs2.2 b n1).trans (hk b o n1 n2 q)
  have it2:h2.IsTupleIter it a (i+1):=ItrK.at (kd:=false) hst'.1 fun o q=>hs2.extBut it o (qy hne) q
  refine⟨.ref s.heap.objs.size,upd H s.heap.objs.size (.tup [.int i,x]),?_,rfl,⟨_,x,rfl,I.hok.fresh (zJ _),rfl,fun ys hy=>by rw[I.tuple_inj hy hq];exact hx⟩,⟨⟨_,by simpa using he2⟩,it2⟩,fun b hb=>?_⟩
  ·refine XD (s:=s) (h':=h2) (t':=tk+1) (its:=[.int i tk,x']) I hf (zJ _) k2 (by rw[sizeLine_eq];exact(by decide:2<=16777216)) (.cons ⟨tk,rfl⟩ (.cons ru .nil)) (TupX.by ((hs2.2 _ eT).trans hT))
  ·have hb':b<s.heap.objs.size:=by
    rcases zZ.mp hb with z | z
    ·rw[z];exact zR he
    ·rw[qo.mp z]
     obtain⟨o',e',_⟩:=hit
     exact zR e'
   rw[zi (qm hb')]
   exact(hf b hb).1
 done:=by
  intro X hP hw hK hc i pins s σ H E I hf st hg
  subst hP hw hK
  obtain⟨⟨old,he⟩,hit⟩:=st
  obtain⟨xs,hq,hx⟩:=hg
  obtain⟨its,rv,p,hz⟩:=I.tuple hq
  have hl:s.heap.IsTuple a its.toArray:=p
  have hai:a≠it:=fun z=>by
   obtain⟨o,e1,c1,_⟩:=hl
   obtain⟨o',e2,c2,_⟩:=hit
   rw[z,e2] at e1;cases e1;rw[c2] at c1;exact absurd (ZJ c1) (by decide)
  obtain⟨f0,f1,f2,f3,f4,f5⟩:=hf it (by simp)
  have hle:its.toArray.size<=i:=by
   have:=rv.length
   simp only[qv];omega
  have hT:s.TypeIs (.ref e) "enumerate" :=⟨_,he,rfl⟩
  unfold pyNext
  refine zr (yp (ZO (name:=Str.ofString "__next__") hT Vb (w9 Vb hT F.entry_enumerate_next ?_ (F.args_enumerate_next_1 _))))
  show wpAny _ _ (field (.ref e) 2 >>= _) _ _ _
  refine zr (vt he rfl (x:=.ref it) rfl (zr (wK (kd:=false) (I.ok.hd hc) hit hl (by simpa using hle) fun h' x he' hx'=>?_)))
  obtain⟨o,ho,hc'⟩:=hx'
  refine zr (ZL (T:= "StopIteration") (b:=true) ⟨o,ho,hc'⟩ isSubtype_stop ?_)
  exact zD ⟨rfl,I.turned (t':=s.toks) (fun b o hb q=>he' b o hb q) f0 f1 f3 f4 f5⟩
 self:=fun _ _ _ _ _ st h=>let ⟨⟨_,he⟩,_⟩:=st;wpAny_pyIter_enum he h
section
variable{X:Cx}
def zgK(K:PySem.W.Frag)(ta:TA):TI:=fun σ H R=>ta σ H fun vs H1=>∃a,vs=[.ref a]/\(∃xs,SqT K H1 a xs)/\R (zdW K a) H1
theorem VQ{l:Expr}{ta:TA}{p pos tp:Pos}{elts:List Expr}{kk:Nat}(hg:Gl X "enumerate")(hm:X.mg "enumerate" = none)(ha:PA X [l] ta)(hs:starEach [l] X.env=[(false,eval l X.env)]:=by rfl) :
  PI X (.Tuple elts kk tp) (.Call (.Name "enumerate" p) [l] [] pos) (zgK X.K ta):=by
 intro pins s σ H R I h
 refine Call_ (vC I hg hm boot_enumerate (QW (thn (ha pos pins s σ H _ I h) fun us s1 ⟨vs,H1,I1,r1,q1⟩=>?_) hs rfl))
 obtain⟨a,e,⟨xs,hq⟩,q⟩:=q1
 subst e
 obtain⟨u,rfl,ru⟩:=vn r1
 cases ru
 obtain⟨its,rv,pl,hz⟩:=I1.tuple hq
 refine wv pl fun h' he hi hsz hk=>wpAny_pyIter_enum he ?_
 have I2:Inv X pins σ H1 { s1 with heap:=h' }:=I1.kept (t':=s1.toks) hk
 refine⟨s1.heap.objs.size+1,[s1.heap.objs.size+1,s1.heap.objs.size],_,_,H1,rfl,I2,Ww a _ _ (Nat.succ_ne_self _),⟨⟨_,he⟩,hi⟩,fun b hb=>?_,q⟩
 have hb':s1.heap.objs.size<=b:=by
  rcases zZ.mp hb with z | z
  ·rw[z];exact wC _
  ·rw[qo.mp z];exact zJ _
 exact I1.fpOk hb' (I1.hok.fresh hb')
end
end L2
namespace L2
open PySem PySem.Spec PyProof.Rows
section
variable{prog:Program}{w:World}{A:Around}{R:Result->Shared->Prop}{s:Shared}
end
def Sub:St->St->Prop
 | [],[]=>True
 | none::r,_::r'=>Sub r r'
 | some v::r,x::r'=>x=some v/\Sub r r'
 | _,_=>False
section
variable{X:Cx}{elt tg1 iter1:Expr}{ifs1:List Expr}{tg iter:Expr}{ifs:List Expr}{scope:Scope}{pos:Pos}{wi wi1:TI}{g g1:TG}{tf tf1:TT}{te:TE}
end
section
variable{X:Cx}
inductive ZS(K:PySem.W.Frag)(xs:List V)(H:Hp)(Q:VK):Prop
 | mk (p:Addr) (bs:List Bool) (_:xs=[.ref p]) (_:SqL K H p (bs.map V.bl)) (_:Q (.bl (bs.any id)) H):ZS K xs H Q
theorem wS(hc:X.calm=true):CallR X (.builtin "any") (ZS X.K):=by
 intro pins s σ H xs us Q I r h
 obtain⟨p,bs,rfl,hq,q⟩:=h
 obtain⟨u,rfl,ru⟩:=vn r
 cases ru
 obtain⟨its,rv,pl,hz⟩:=I.list hq
 have hl:=pl.isList
 have hpl:p≠s.heap.objs.size:=by
  obtain⟨o,e,_⟩:=hl
  exact qm (zR e)
 refine call_any_walk (wpAny_pyIter_list hl ?_)
 refine⟨s.heap.objs.size,_,_,_,_,_,fun i=>bs.getD i false,rfl,QX (prog:=X.prog) (w:=X.w) (A:=X.A.in1) (I.ok.hd hc) _ p hpl its.toArray,⟨⟨_,qD _ rfl,rfl,rfl⟩,hl.push _⟩,?_,fun h' tk hk=>?_⟩
 ·intro i v s' Q' E' hP hQ
  have hP:its.toArray[i]? =some v:=hP
  have e1:its[i]? =some v:=by simpa using hP
  have hi:i<bs.length:=by
   have h1:=(zW.mp e1).1
   have h2:=rv.length
   rw[zq] at h2
   omega
  have e2:(bs.map V.bl)[i]? =some (.bl bs[i]):=by simp[hi]
  obtain⟨u',eu,ru⟩:=rv.get e2
  rw[e1] at eu
  cases eu
  cases ru
  have e3:bs.getD i false=bs[i]:=by simp[hi]
  have hQ2:Q' (bs.getD i false) s':=hQ
  rw[e3] at hQ2
  exact yY hQ2
 ·have k:∀b o,s.heap.get? b=some o->h'.get? b=some o:=fun b o e=>hk b o (by simp;exact qm (zR e)) (qx _ e)
  have ea:(List.range its.toArray.size).any (fun i=>bs.getD i false)=bs.any id:=by
   have hlen:its.toArray.size=bs.length:=by
    have:=rv.length
    rw[zq] at this
    simp only[qv];omega
   rw[hlen,ww,vP,vP]
   constructor
   ·rintro⟨i,hi,e⟩
    have hi:=vd.mp hi
    exact⟨bs[i],yV hi,by simpa [hi] using e⟩
   ·rintro⟨b,hb,e⟩
    obtain⟨i,hi,rfl⟩:=Q9.mp hb
    exact⟨i,vd.mpr hi,by simpa [hi] using e⟩
  exact⟨.bl (bs.any id),H,I.kept k,by rw[ea];rfl,q⟩
theorem yS:bootBuiltins "any" = some (.builtin "any"):=by decide +kernel
theorem QD:∀{ns:List Int} {its:List Value},Vals (ns.map V.int) its->IntsAre its ns
 | [],its,h=>by cases h;exact .nil
 | n::ns,its,h=>by
  cases h with
  | cons r q=>
   obtain⟨t,rfl⟩:=r
   exact .cons n t (QD q)
theorem ZG{k:Int}:∀{ns:List Int} {its:List Value},Vals (ns.map V.int) its->its.countP (isInt k)=ns.count k
 | [],its,h=>by cases h;rfl
 | n::ns,its,h=>by
  cases h with
  | cons r q=>
   obtain⟨t,rfl⟩:=r
   rw[List.countP_cons,List.count_cons,ZG q]
   rfl
inductive zas(x:V)(vs:List V)(H:Hp)(Q:VK):Prop
 | mk (l:Addr) (ns:List Int) (k:Int) (_:x=.ref l) (_:vs=[.int k]) (_:H l=some (.lst (ns.map V.int))) (_:Q (.int (ns.count k)) H):zas  x vs H Q
theorem zbE:MtM X "list.count" zas:=by
 intro pins s σ H x vs v us Q I rx rv h
 obtain⟨l,ns,k,rfl,rfl,hH,q⟩:=h
 cases rx
 obtain⟨u,rfl,ru⟩:=rv.one
 obtain⟨t,rfl⟩:=ru
 obtain⟨z,its,n,r,hl,e⟩:=I.lstM hH
 refine call_meets F.slot_list_count ⟨_,e,rfl⟩ F.entry_list_count (F.args_list_count_2 _ _) (MeetsSeq.list_count l its.toArray n (.int k t) (isInt k) (fun y hy=>eq_isInt k t (QD r) y (by simpa using hy))) ⟨e,?_⟩
 refine⟨.int (ns.count k),H,I.tok _,⟨s.toks,?_⟩,q⟩
 show Value.int ((its.toArray.toList.countP (isInt k):Nat):Int) s.toks=_
 rw[show its.toArray.toList=its by simp,ZG r]
theorem JT{α β:Type}(f:α->β):∀(l:List α) (i:Nat),(l.eraseIdx i).map f=(l.map f).eraseIdx i
 | [],_=>rfl
 | _::_,0=>rfl
 | a::r,i+1=>by
  show f a::(r.eraseIdx i).map f=f a::(r.map f).eraseIdx i
  rw[JT f r i]
inductive VN(x:V)(vs:List V)(H:Hp)(Q:VK):Prop
 | mk (l:Addr) (ns:List Int) (k:Int) (_:x=.ref l) (_:vs=[.int k]) (_:H l=some (.lst (ns.map V.int))) (_:k∈ns) (_:Q .non (upd H l (.lst ((ns.erase k).map V.int)))):VN  x vs H Q
theorem WS:MtM X "list.remove" VN:=by
 intro pins s σ H x vs v us Q I rx rv h
 obtain⟨l,ns,k,rfl,rfl,hH,hk,q⟩:=h
 cases rx
 obtain⟨u,rfl,ru⟩:=rv.one
 obtain⟨t,rfl⟩:=ru
 obtain⟨z,its,n,r,hl,e⟩:=I.lstM hH
 rw[zq] at hl z
 have hj:ns.idxOf k<ns.length:=zdO hk
 have val:∀i (hi:i<its.length),isInt k its[i]=(ns[i]'(by omega)==k):=fun i hi=>by
  have e2:(ns.map V.int)[i]? =some (.int (ns[i]'(by omega))):=by simp[show i<ns.length by omega]
  obtain⟨u',eu,ru⟩:=r.get e2
  rw[ji hi] at eu
  cases eu
  obtain⟨t',e'⟩:=ru
  rw[e']
  rfl
 refine call_meets F.slot_list_remove ⟨_,e,rfl⟩ F.entry_list_remove (F.args_list_remove_2 _ _) (MeetsSeq.list_remove l its.toArray n (.int k t) (isInt k) (fun y hy=>eq_isInt k t (QD r) y (by simpa using hy)) (ns.idxOf k) (by simp;omega) ?_ ?_ (by simp;omega)) ⟨e,?_⟩
 ·rw[List.getElem_toArray,val _ (by omega)]
  simp
 ·intro m hm hlt
  rw[List.getElem_toArray,val _ (by simpa using hm)]
  have:=List.not_of_lt_findIdx (p:=(·==k)) (xs:=ns) (i:=m) (by exact hlt)
  simpa using this
 refine⟨.non,_,I.lset (its':=its.eraseIdx (ns.idxOf k)) hH e ?_ ?_ ?_,rfl,q⟩
 ·apply Array.toList_inj.mp
  simp[Array.toList_eraseIdxIfInBounds]
 ·have em:(ns.erase k).map V.int=(ns.map V.int).eraseIdx (ns.idxOf k):=by rw[List.erase_eq_eraseIdx_of_idxOf rfl,JT]
  rw[em]
  exact r.eraseIdx _
 ·rw[zq]
  exact ja (List.length_erase_le) z
end
theorem V5{K:PySem.W.Frag}{a:Addr}{xs:List V}{g:TG}{tf:TT}{te:TE}{σ0:St}{n:Nat}{R:List V->Hp->Prop}{H:Hp}(Pv:Nat->List V->Hp->Prop)(h0:Pv 0 [] H)
  (h1:∀i zs H,Pv i zs H->SqT K H a xs)
  (hs:∀i x zs H T,xs[i]? =some x->Pv i zs H->H T=none->g (.ref T) σ0 (upd H T (.tup [.int i,x])) fun σ4 H4=>σ4.drop n=σ0.drop n/\tf σ4 H4 fun b H5=>
   if b=true then te σ4 H5 fun v H6=>zs.length<sizeLine/\Pv (i+1) (zs++[v]) H6 else Pv (i+1) zs H5)
  (hd:∀zs H,Pv xs.length zs H->zs.length<=sizeLine/\R zs H) :
  ∃W:Nat->Nat->List V->Hp->Prop,(∃m,W 0 m [] H)/\∀i m zs H2,W i m zs H2 ->
   ((zdW K a).stop i H2/\zs.length<=sizeLine/\R zs H2) \/
   ((zdW K a).go i H2/\∃N:List V->Hp->Prop,(∀zs H',N zs H'->∃m',m'<m/\W (i+1) m' zs H')/\∀x H3,(zdW K a).yld i H2 x H3->g x σ0 H3 fun σ4 H4=>σ4.drop n=σ0.drop n/\tf σ4 H4 fun b H5=>
    if b=true then te σ4 H5 fun y H6=>zs.length<sizeLine/\N (zs++[y]) H6 else N zs H5):=by
 refine⟨fun i m zs H2=>m=xs.length-i/\i<=xs.length/\Pv i zs H2,⟨_,rfl,qe _,h0⟩,?_⟩
 rintro i m zs H2 ⟨rfl,hi,p⟩
 have q:=h1 i zs H2 p
 by_cases hlt:i<xs.length
 ·refine .inr ⟨⟨xs,xs[i],q,by simp[hlt]⟩,Pv (i+1),fun zs' H' p'=>⟨_,by omega,rfl,hlt,p'⟩,fun x H3 y=>?_⟩
  obtain⟨T,z,e1,hT,e2,y⟩:=y
  subst e1 e2
  exact hs i z zs H2 T (y xs q) p hT
 ·have e:i=xs.length:=by omega
  subst e
  obtain⟨z1,z2⟩:=hd zs H2 p
  exact .inl ⟨⟨xs,q,zJ _⟩,z1,z2⟩
section
variable{X:Cx}{elt iter1:Expr}{ifs1:List Expr}{iter:Expr}{ifs:List Expr}{scope:Scope}{pos:Pos}{wi wi1:TI}{tf tf1:TT}{te:TE}{x y z:Str}{px py pz tp tp2:Pos}{kk kk2:Nat}
end
section
variable{X:Cx}
end
theorem zim{X:Cx}{e0 e1 e2 e3 e4 e5 e6 e7 e8 e9 e10 e11 e12 e13 e14 e15 e16:Expr}{t0 t1 t2 t3 t4 t5 t6 t7 t8 t9 t10 t11 t12 t13 t14 t15 t16:TE}(h0:PE X e0 t0)(h1:PE X e1 t1)(h2:PE X e2 t2)(h3:PE X e3 t3)(h4:PE X e4 t4)(h5:PE X e5 t5)(h6:PE X e6 t6)(h7:PE X e7 t7)(h8:PE X e8 t8)(h9:PE X e9 t9)(h10:PE X e10 t10)(h11:PE X e11 t11)(h12:PE X e12 t12)(h13:PE X e13 t13)(h14:PE X e14 t14)(h15:PE X e15 t15)(h16:PE X e16 t16)(h:([e0,e1,e2,e3,e4,e5,e6,e7,e8,e9,e10,e11,e12,e13,e14,e15,e16]).all zaA=true:=by rfl):PA X [e0,e1,e2,e3,e4,e5,e6,e7,e8,e9,e10,e11,e12,e13,e14,e15,e16] (jy t0 (jy t1 (jy t2 (jy t3 (jy t4 (jy t5 (jy t6 (jy t7 (jy t8 (jy t9 (jy t10 (jy t11 (jy t12 (jy t13 (jy t14 (jy t15 (jy t16 zd1))))))))))))))))):=by
 have hz:=xF.mp h
 exact(za h0 (za h1 (za h2 (za h3 (za h4 (za h5 (za h6 (za h7 (za h8 (za h9 (za h10 (za h11 (za h12 (za h13 (za h14 (za h15 (za h16 ze (zU (hz _ (by simp)))) (zU (hz _ (by simp)))) (zU (hz _ (by simp)))) (zU (hz _ (by simp)))) (zU (hz _ (by simp)))) (zU (hz _ (by simp)))) (zU (hz _ (by simp)))) (zU (hz _ (by simp)))) (zU (hz _ (by simp)))) (zU (hz _ (by simp)))) (zU (hz _ (by simp)))) (zU (hz _ (by simp)))) (zU (hz _ (by simp)))) (zU (hz _ (by simp)))) (zU (hz _ (by simp)))) (zU (hz _ (by simp)))) (zU (hz _ (by simp))))
section
variable{X:Cx}
inductive y8(K:PySem.W.Frag)(xs:List V)(H:Hp)(Q:VK):Prop
 | mk (v:V) (d:Dat) (_:xs=[v]) (_:Rep K H d v) (_:d.shw=true) (_:d.blk<=1048576) (_:d.py.depth<=60) (_:Q (.str d.py.shown) H):y8 K xs H Q
theorem QM(hg:X.A.guards=some [])(hu:X.A.units+64<cLine):CallR X (.builtin "repr") (y8 X.K):=by
 intro pins s σ H xs us Q I r h
 obtain⟨v,d,rfl,hr,h1,h2,h3,q⟩:=h
 obtain⟨u,rfl,ru⟩:=vn r
 obtain⟨s1,s2,s3⟩:=Dat.py_short d h1
 have fits:d.py.shown.length<=sizeLine:=PyData.shown_fits_bulk (B:=13) (by decide) (by decide) s1 (by rw[Dat.py_blk];exact h2)
 have onRef:∀(a:Addr),v=.ref a->wpAny (model X.prog X.w) X.A (call (.builtin "repr") [u]) (EP X pins σ Q) X.xe s:=fun a e=>by
  subst e
  obtain⟨as,q1⟩:=hr.reads I ru
  cases(show u=_ from ru)
  exact repr_of_reads' q1 s2 (PyData.noDict_hsm s3) hg (by omega) (fun _ _ e=>e) (fun h' u tk hk=>⟨.str d.py.shown,H,I.kept hk,⟨u,rfl⟩,q⟩) fits
 cases d with
 | non=>
  cases(show v=_ from hr)
  cases(show u=_ from ru)
  exact P.repr_of_none ⟨.str _,H,I.tok _,⟨_,rfl⟩,q⟩
 | bl b=>
  cases(show v=_ from hr)
  cases(show u=_ from ru)
  refine P.repr_of_bool ⟨.str _,H,I.tok _,⟨s.toks,?_⟩,q⟩
  cases b<;>rfl
 | int i=>
  cases(show v=_ from hr)
  obtain⟨t,rfl⟩:=ru
  exact P.repr_of_int (Xx (qZ h1)) ⟨.str _,H,I.tok _,⟨_,rfl⟩,q⟩
 | str x=>
  cases(show v=_ from hr)
  obtain⟨t,rfl⟩:=ru
  exact P.repr_of_str ⟨.str _,H,I.tok _,⟨_,rfl⟩,q⟩ fits
 | lst ds=>obtain⟨a,_,e,_⟩:=id hr;exact onRef a e
 | tup ds=>obtain⟨a,_,e,_⟩:=id hr;exact onRef a e
theorem JZ:bootBuiltins "repr" = some (.builtin "repr"):=by decide +kernel
def tLT(K:PySem.W.Frag)(t:TE):TT:=fun σ H Q=>t σ H fun x H1=>∃a xs,x=.ref a/\SqL K H1 a xs/\Q (!xs.isEmpty) H1
theorem zec{e:Expr}{t:TE}(h:PE X e t)(he:∀whole,isTrue e X.env whole=(do let v<-whole;standAt e.pos;holding [v] (truthy v)):=by intro _;rfl):PT X e (tLT X.K t):=by
 intro pins s σ H Q I hw
 refine isTrue_plain (thn (h pins s σ H _ I hw) fun v s1 ⟨x,H1,I1,r1,q1⟩=>?_) (he _)
 obtain⟨a,xs,rfl,hq,q⟩:=q1
 cases(show v=_ from r1)
 obtain⟨its,rv,pl,hz⟩:=I1.list hq
 have hl:=rv.length
 refine wpAny_truthy_list pl.isList (by rw[qv,<- hl];rw[sizeLine_eq] at hz;omega) ?_
 have e:(!xs.isEmpty)=(!its.toArray.isEmpty):=by
  cases xs with
  | nil=>cases rv;rfl
  | cons y ys=>cases rv;rfl
 first
  | exact⟨H1,I1.tok _,by rw[e] at q;simpa using q⟩
  | exact⟨H1,I1,by rw[e] at q;simpa using q⟩
end
section
variable{X:Cx}{elt tg1 iter1:Expr}{ifs1:List Expr}{tg iter:Expr}{ifs:List Expr}{scope:Scope}{pos:Pos}{wi wi1:TI}{g g1:TG}{tf tf1:TT}{te:TE}{x z:Str}{px pz tp tp2:Pos}{kk kk2:Nat}
end
def JR:Nat->List Obj->PySem.W.Frag
 | _,[]=>[]
 | n,o::r=>match o.data with
  | .freed=>JR (n+1) r
  | _=>(n,o)::JR (n+1) r
def XG(h:Heap):PySem.W.Frag:=JR 0 h.objs.toList
theorem V9:∀{l:List Obj} {n a:Nat} {o:Obj},(JR n l).lookup a=some o->n<=a/\l[a-n]? =some o/\o.data≠.freed
 | [],n,a,o,h=>by cases h
 | x::r,n,a,o,h=>by
  have tail:(JR (n+1) r).lookup a=some o->n<=a/\(x::r)[a-n]? =some o/\o.data≠.freed:=fun h=>by
   obtain⟨h1,h2,h3⟩:=V9 h
   refine⟨by omega,?_,h3⟩
   rw[show a-n=(a-(n+1))+1 by omega];exact h2
  unfold JR at h
  split at h
  ·exact tail h
  ·rename_i nf
   rw[jQ] at h
   split at h
   ·rename_i e
    cases h
    have:=xT.mp e
    subst this
    exact⟨zJ _,by simp,nf⟩
   ·exact tail h
theorem zbO(h:Heap):(XG h).In h:=fun a o e=>by
 obtain⟨_,h2,h3⟩:=V9 e
 have h2:h.objs[a]? =some o:=by simpa using h2
 unfold Heap.get?
 rw[h2]
 obtain⟨c,d,dt,sl⟩:=o
 cases dt<;>first| rfl | exact absurd rfl h3
inductive Fd(K:PySem.W.Frag)(nm:Str)(st:Stmt):Prop
 | mk (f:Addr) (fd:FuncData) (a:PySem.W.nsIn K mainGlobals nm=some (some (.ref f))) (F:Fun K nm nm st f fd):Fd K nm st
def zhK:Value->Bool
 | .none=>true
 | _=>false
def XH(K:PySem.W.Frag)(nm:Str):Option (Arguments×FuncBody×Scope×Bool):=match PySem.W.nsIn K mainGlobals nm with
 | some (some (.ref f))=>(match K.lookup f with
  | some ⟨_,_,.func fd,_⟩=>some (fd.params,fd.body,fd.scope,fd.name==nm&&(fd.qualname==nm&&(fd.globals==mainGlobals&&(fd.closure.isEmpty&&(zhK fd.defaults&&(fd.builtins==builtinsNs&&PySem.W.codeIn K fd.code nm))))))
  | _=>none)
 | _=>none
def zaQ(st:Stmt):Option (Arguments×FuncBody×Scope×Bool):=some (yO st,.stmts (vq st),zt st,true)
theorem zhS{K:PySem.W.Frag}{nm:Str}{st:Stmt}(e:XH K nm=zaQ st):Fd K nm st:=by
 unfold XH zaQ at e
 split at e
 ·rename_i f hf
  split at e
  ·rename_i c d fd sl hl
   simp only[X5,Prod.mk.injEq,jG] at e
   obtain⟨e1,e2,e3,n1,n2,n3,n4,n5,n6,n7⟩:=e
   obtain⟨nm',qn,pa,bo,sc,gl,cl,de,kw,doc,pm,an,cd,ct,bl⟩:=fd
   dsimp only at e1 e2 e3 n1 n2 n3 n4 n5 n6 n7
   have n1:=xT.mp n1
   have n2:=xT.mp n2
   have n3:=xT.mp n3
   have n4:=List.isEmpty_iff.mp n4
   have n6:=xT.mp n6
   have n5:de=.none:=by cases de<;>first| rfl | exact Bool.noConfusion n5
   subst e1 e2 e3 n1 n2 n3 n4 n5 n6
   exact⟨f,_,hf,⟨⟨_,_,_,_,_,_,_,_,_,rfl,hl,n7⟩,by unfold PySem.W.keepIn;dsimp only;rw[hl]⟩⟩
  ·cases e
 ·cases e
theorem zgN{K:PySem.W.Frag}{l:List (Str×Stmt)}(e:l.map (fun x=>XH K x.1)=l.map fun x=>zaQ x.2)(i:Nat){nm:Str}{st:Stmt}(h:l[i]? =some (nm,st)):Fd K nm st:=by
 have:=congrArg (fun z=>z[i]?) e
 simp only[qr,h,yq,X5] at this
 exact zhS this
theorem zeY{K:PySem.W.Frag}{l:List Str}(e:l.map (fun x=>PySem.W.nsIn K mainGlobals x)=l.map fun _=>some none){x:Str}(i:Nat)(h:l[i]? =some x):PySem.W.nsIn K mainGlobals x=some none:=by
 have:=congrArg (fun z=>z[i]?) e
 simpa only[qr,h,yq,X5] using this
def zdZ:List Value->Option (List Str)
 | []=>some []
 | .str x _::r=>(zdZ r).map (x:: ·)
 | _=>none
def Wu(K:PySem.W.Frag)(nm:Str):Option (List Str×Bool):=match PySem.W.nsIn K mainGlobals nm with
 | some (some (.ref a))=>(match K.lookup a with
  | some ⟨.type t,_,.seq vs _,_⟩=>(zdZ vs.toList).map fun l=>(l,t == "tuple" && decide (vs.size<=1000))
  | _=>none)
 | _=>none
theorem Jr:∀{vs:List Value} {l:List Str},zdZ vs=some l->Vals (l.map V.str) vs
 | [],l,h=>by cases h;exact .nil
 | v::r,l,h=>by
  cases v<;>first| (cases h;done) | skip
  simp only[zdZ] at h
  obtain⟨l',h1,rfl⟩:=jb.mp h
  exact .cons ⟨_,rfl⟩ (Jr h1)
theorem zg1{K:PySem.W.Frag}{nm:Str}{l:List Str}(e:Wu K nm=some (l,true)):∃a:Addr,PySem.W.nsIn K mainGlobals nm=some (some (.ref a))/\∀H,SqT K H a (l.map V.str):=by
 unfold Wu at e
 split at e
 ·rename_i a ha
  split at e
  ·rename_i t _ vs n sl hl
   obtain⟨l',h1,h2⟩:=jb.mp e
   simp only[Prod.mk.injEq,jG,decide_eq_true_eq] at h2
   obtain⟨rfl,h3,h4⟩:=h2
   have h3:=xT.mp h3
   subst h3
   exact⟨a,ha,fun H=>.inr ⟨_,_,_,hl,rfl,rfl,yo (zbv h4),Jr h1⟩⟩
  ·cases e
 ·cases e
def zeG(ds:List (Str×Stmt))(bs:List Str)(ts:List (Str×List Str))(K:PySem.W.Frag):List (Option (Arguments×FuncBody×Scope×Bool))×List (Option (Option Value))×List (Option (List Str×Bool)):=
 (ds.map fun x=>XH K x.1,bs.map fun x=>PySem.W.nsIn K mainGlobals x,ts.map fun x=>Wu K x.1)
def zeR(ds:List (Str×Stmt))(bs:List Str)(ts:List (Str×List Str)):List (Option (Arguments×FuncBody×Scope×Bool))×List (Option (Option Value))×List (Option (List Str×Bool)):=
 (ds.map fun x=>zaQ x.2,bs.map fun _=>some none,ts.map fun x=>some (x.2,true))
def zgS(s:Stmt):Pos:=match s with
 | .FunctionDef _ _ _ _ _ _ _ _ _ p=>p
 | _=>⟨0,0,0,0⟩
def defRec(x:Str)(s:Stmt):DefRec:=⟨x,yO s,vq s,zt s,zgS s⟩
structure Tp(P:Program)(w:World)(K:PySem.W.Frag)(mg:Str->Option Value)(base h:Heap)(ds:List (Str×Stmt))(bs:List Str)(ts:List (Str×List Str)):Prop where
 x:K.In h
 g:h.Ns mainGlobals mg
 e:zeG ds bs ts K=zeR ds bs ts
section
variable{P:Program}{w:World}{K:PySem.W.Frag}{mg:Str->Option Value}{base h:Heap}{ds:List (Str×Stmt)}{bs:List Str}{ts:List (Str×List Str)}
theorem Tp.fd(Z:Tp P w K mg base h ds bs ts)(i:Nat){nm:Str}{st:Stmt}(hi:ds[i]? =some (nm,st)):Fd K nm st:=zgN (congrArg Prod.fst Z.e) i hi
theorem Tp.bl(Z:Tp P w K mg base h ds bs ts)(i:Nat){x:Str}(hi:bs[i]? =some x):mg x=none:=PySem.W.mg_none_of Z.x Z.g (zeY (congrArg (fun z=>z.2.1) Z.e) i hi)
theorem Tp.tx(Z:Tp P w K mg base h ds bs ts)(i:Nat){x:Str}{l:List Str}(hi:ts[i]? =some (x,l)):∃a:Addr,mg x=some (.ref a)/\∀H,SqT K H a (l.map V.str):=by
 have:=congrArg (fun z=>z.2.2[i]?) Z.e
 simp only[zeG,zeR,qr,hi,yq,X5] at this
 obtain⟨a,h1,h2⟩:=zg1 this
 exact⟨a,PySem.W.mg_of Z.x Z.g h1,h2⟩
theorem Tp.dfn(Z:Tp P w K mg base h ds bs ts)(i:Nat){nm:Str}{st:Stmt}{k:Nat}{ps:List Str}{sp:Sp}(hi:ds[i]? =some (nm,st))
  (ok:∀f fd,Fun K nm nm st f fd->mg nm=some (.ref f)->Binds K fd ps []->qH P w K mg base CX0 k f fd ps sp)
  (hb:∀(kV doc pm:Value) (an:Option Addr) (cdv ct:Value) (us:List Value),us.length=ps.length->bindArgs (PySem.W.fnOf nm nm (yO st) (vq st) (zt st) .none kV doc pm an cdv ct) ⟨us,[]⟩=pure (ps.zip us):=by
   intro _ _ _ _ _ _ us hl;first| (obtain⟨_,rfl⟩:=zhI hl;rfl) | (obtain⟨_,_,rfl⟩:=zhH hl;rfl) | (obtain⟨_,_,_,rfl⟩:=zhG hl;rfl) | (obtain⟨_,_,_,_,rfl⟩:=zhF hl;rfl) | (obtain⟨_,_,_,_,_,rfl⟩:=zhE hl;rfl) | (obtain⟨_,_,_,_,_,_,rfl⟩:=zhD hl;rfl) | (exact match us,hl with | [],_=>rfl)) :
  Dfn P w K mg base nm k ps sp:=by
 obtain⟨f,fd,a,F⟩:=Z.fd i hi
 have b:=F.binds hb
 have m:=PySem.W.mg_of Z.x Z.g a
 exact⟨f,fd,ok f fd F m b,m,F.kp,b⟩
end
inductive Seen{β:Type}(f:PySem.W.Frag->β)(v:β)(w:World)(h:Heap):Prop
 | mk (K:PySem.W.Frag) (k:K.In h) (e:f K=v):Seen f v w h
theorem Seen.keeps{β:Type}{f:PySem.W.Frag->β}{v:β}(w:World)(h h':Heap)(s:Seen f v w h)(k:∀b o,h.get? b=some o->h'.get? b=some o):Seen f v w h':=by
 obtain⟨K,x,e⟩:=s
 exact⟨K,x.keeps k,e⟩
theorem walkS{l:PySem.W.OpenLaw}{n k:Nat}{q:Program}{loose:List Str}{XP:(Str->Option Value)->Heap->Prop}{β:Type}{f:PySem.W.Frag->β}{v:β}{d:DefRec}{sp:PySem.W.Frag->Sp}{x:Str}
  (hn:l.most=some n) (hn2:n<=sizeLine) (hdf:d.params.defaults=[]) (hr:Room k callerA)
  (F:∀(w:World) (mg:Str->Option Value) (fa:Addr) (K:PySem.W.Frag) (h:Heap),K.In h->f K=v->h.Ns mainGlobals mg->mg d.name=some (.ref fa) ->
   ∃fd:FuncData,(∀(s:Shared) (u:Value),BindsTo s fd ⟨[u],[]⟩ [(x,u)]) /\
    ∀base:Heap,K.In base->base.Ns mainGlobals mg->qH l.prog w K mg base CX0 k fa fd [x] (sp K))
  (hsp:∀(K:PySem.W.Frag) (H:Hp) (a:Addr) (ns:List Int),ns.length<=n->zgZ H->SqL K H a (ns.map V.int)->sp K [.ref a] H (fun v _=>v=.bl true) fun _ _ _=>False) :
  PySem.W.WalkO q loose XP (Seen f v) l.row.toRowW d [] (fun f vs=>PySem.call f vs):=by
 refine Att.attach_call hn hdf fun w s₀ s₁ mg mb fa o pm cd doc a vs ns G Y ho hd hcd hmg hobj hints hlen hg=>?_
 obtain⟨K,KX,e⟩:=Y
 obtain⟨fd,hb,hF⟩:=F w mg fa K _ KX e G.T.g hmg
 exact zdi KX G.T.g G.T.b G.T.builtins G.T.nolimit hg hobj hints (ja hlen hn2) hr hF hb (fun H hO hS=>hsp K H a ns hlen hO hS) fun H e s' z=>z
theorem ownHead{l:PySem.W.OpenLaw}{q:Program}{loose:List Str}{β:Type}{f:PySem.W.Frag->β}{v:β}{d:DefRec}(N:Nat)
  (said:l.wellSaid=true)
  (left:∀w,(PySem.W.openEnds treeTable l.prog w N).map (fun s=>(PySem.W.openSeen q loose (importedModules l.prog.main.body) (fun _=>true) true s,f (XG s.heap)))=some (PySem.W.openGood q loose,v))
  (hdef:PySem.W.defOf q l.name=some (d,[])) (hp:l.prog.theDef l.name=some (d.params,d.body,d.scope)) (hk:PySem.W.kwWritten? d.params.kwonlyargs d.params.kw_defaults=some [])
  (ok:(PySem.W.chainsOk q&&PySem.W.opensWell l.prog&&(PySem.W.frees l.row.toRowW&&l.row.within.isEmpty))=true) (hb:l.prog.bare) (hw:l.row.toRowW.promised)
  (call:PySem.W.WalkO q loose (fun _ _=>True) (Seen f v) l.row.toRowW d [] fun f vs=>PySem.call f vs):l.Holds:=
 PySem.W.holds_law said fun k1=>PySem.W.holds_open (r:=l.row) (Yf:=fun s=>f (XG s.heap)) (Ya:=fun _=>v) left (fun _ s e=>⟨_,zbO s.heap,e⟩) Seen.keeps (fun _ _=>trivial) (fun _ _ _ _ _=>trivial) hdef hp hk (fun _ _=>PySem.W.recFacts_nil rfl) (Bool.or_true _) k1 ok hb hw call
def topL(i:Nat):Stmt:=PySem.Challenge.pw_pickboard_k39_runs_spoilt_anywhere.main.body.getD i (.Pass ⟨0,0,0,0⟩)
structure Blt(mg:Str->Option Value):Prop where
 abs:mg "abs" = none
 all:mg "all" = none
 any:mg "any" = none
 bool:mg "bool" = none
 dict:mg "dict" = none
 divmod:mg "divmod" = none
 enumerate:mg "enumerate" = none
 int:mg "int" = none
 isinstance:mg "isinstance" = none
 len:mg "len" = none
 list:mg "list" = none
 max:mg "max" = none
 min:mg "min" = none
 range:mg "range" = none
 repr:mg "repr" = none
 sorted:mg "sorted" = none
 str:mg "str" = none
 sum:mg "sum" = none
 tuple:mg "tuple" = none
 zip:mg "zip" = none
theorem vN:bootBuiltins "abs" = some (.builtin "abs"):=by decide +kernel
theorem QN:bootBuiltins "max" = some (.builtin "max"):=by decide +kernel
theorem zdI:bootBuiltins "min" = some (.builtin "min"):=by decide +kernel
theorem Wn:bootBuiltins "divmod" = some (.builtin "divmod"):=by decide +kernel
theorem vL:bootBuiltins "int" = some (.type "int"):=by decide +kernel
theorem qG:bootBuiltins "list" = some (.type "list"):=by decide +kernel
theorem qP:bootBuiltins "tuple" = some (.type "tuple"):=by decide +kernel
theorem yR:bootBuiltins "str" = some (.type "str"):=by decide +kernel
theorem vM:bootBuiltins "bool" = some (.type "bool"):=by decide +kernel
theorem xw:bootBuiltins "sorted" = some (.builtin "sorted"):=by decide +kernel
theorem zbS:bootBuiltins "dict" = some (.type "dict"):=by decide +kernel
def yw(i:Int):Int:=if i<0 then -i else i
def zhn:Str:= "abcdefghijklmnopqrstuvwxyz"
def V4(c:Nat):Bool:=decide (97<=c)&&decide (c<=122)
theorem zdf:zhn.cps.toList=List.range' 97 26:=by decide +kernel
def W5:List (Str×Stmt):=[(("way_between" : Str),topL 1),(("length_of" : Str),topL 2),(("turned" : Str),topL 4),(("next_by" : Str),topL 5),(("steps_from" : Str),topL 6),(("all_from" : Str),topL 7),(("ahead_of" : Str),topL 8),(("feeders_for" : Str),topL 9),(("are_same" : Str),topL 11),(("is_same" : Str),topL 12),(("events_of" : Str),topL 16),(("parts_of" : Str),topL 17),(("is_lost" : Str),topL 18),(("next_feeder" : Str),topL 19),(("is_lucky" : Str),topL 20),(("pick_events" : Str),topL 21),(("lay_event" : Str),topL 22),(("trip_events" : Str),topL 23),(("way_by" : Str),topL 24),(("run_plan" : Str),topL 25),(("shows_run" : Str),topL 26),(("_law_box" : Str),topL 28),(("_law_take" : Str),topL 29),(("_law_folded" : Str),topL 30),(("_law_same" : Str),topL 31),(("_law_spelled" : Str),topL 32),(("_law_name" : Str),topL 33),(("_law_names" : Str),topL 34),(("_law_place" : Str),topL 35),(("_law_places" : Str),topL 36),(("_law_shuffled" : Str),topL 37),(("_law_feeders" : Str),topL 38),(("_law_aheads" : Str),topL 39),(("_law_job" : Str),topL 40),(("_law_order" : Str),topL 41),(("_law_trip" : Str),topL 42),(("_law_plan" : Str),topL 43),(("_law_way" : Str),topL 44),(("_law_over" : Str),topL 45),(("_law_is_number" : Str),topL 46),(("_law_odd" : Str),topL 47),(("_law_other_row" : Str),topL 48),(("_law_spoilt" : Str),topL 49),(("_law_luck" : Str),topL 50),(("_law_tried" : Str),topL 51),(("_law_trip_run" : Str),topL 52),(("_law_run_due" : Str),topL 53),(("_law_case" : Str),topL 54),(("_law_instead" : Str),topL 55),(("_law_right" : Str),topL 56),(("law" : Str),topL 57)]
def zbT:List Str:=[("abs" : Str),("all" : Str),("any" : Str),("bool" : Str),("dict" : Str),("divmod" : Str),("enumerate" : Str),("int" : Str),("isinstance" : Str),("len" : Str),("list" : Str),("max" : Str),("min" : Str),("range" : Str),("repr" : Str),("sorted" : Str),("str" : Str),("sum" : Str),("tuple" : Str),("zip" : Str)]
def zbs:List (Str×List Str):=[(("TRIED" : Str),[("picked" : Str),("missed" : Str)]),(("GIVEN_UP" : Str),[("behind" : Str),("none" : Str),("failed" : Str),("dropped" : Str)])]
def zhe:List Str:=W5.dropLast.map (·.1)++[("GIVEN_UP" : Str),("TRIED" : Str),("__name__" : Str)]
def zfV:Program:={ PySem.Challenge.pw_pickboard_k39_runs_spoilt_anywhere with main:={ PySem.Challenge.pw_pickboard_k39_runs_spoilt_anywhere.main with body:=[topL 57] } }
theorem head1:PySem.Challenge.rw_pickboard_k39_runs_spoilt_anywhere.wellSaid=true:=by kernel_rfl
theorem head2:∀w,(PySem.W.openEnds treeTable PySem.Challenge.pw_pickboard_k39_runs_spoilt_anywhere w 9999).map (fun s=>(PySem.W.openSeen zfV zhe (importedModules PySem.Challenge.pw_pickboard_k39_runs_spoilt_anywhere.main.body) (fun _=>true) true s,zeG W5 zbT zbs (XG s.heap)))=some (PySem.W.openGood zfV zhe,zeR W5 zbT zbs):=fun w=>by kernel_rfl
theorem head3:(PySem.W.chainsOk zfV&&PySem.W.opensWell PySem.Challenge.pw_pickboard_k39_runs_spoilt_anywhere&&(PySem.W.frees PySem.Challenge.rw_pickboard_k39_runs_spoilt_anywhere.row.toRowW&&PySem.Challenge.rw_pickboard_k39_runs_spoilt_anywhere.row.within.isEmpty))=true:=by kernel_rfl
section
variable{κ:Type}[DecidableEq κ]
def jq(kvs:List (κ×V))(k:κ):Option V:=(kvs.find? fun kv=>decide (kv.1=k)).map (·.2)
def xG(kvs:List (κ×V))(k:κ)(v:V):List (κ×V):=
 if(kvs.any fun kv=>decide (kv.1=k))=true then kvs.map (fun kv=>if kv.1=k then(kv.1,v) else kv) else kvs++[(k,v)]
theorem jI{p:κ×V}{r:List (κ×V)}{k:κ}(e:p.1=k):jq (p::r) k=some p.2:=by simp[jq,Zv,e]
theorem jJ{p:κ×V}{r:List (κ×V)}{k:κ}(e:¬p.1=k):jq (p::r) k=jq r k:=by simp[jq,Zv,e]
theorem vD(k:κ):∀kvs:List (κ×V),(kvs.any fun kv=>decide (kv.1=k))=(jq kvs k).isSome
 | []=>rfl
 | p::r=>by
  rw[wZ]
  by_cases e:p.1=k
  ·simp only[jI e,qQ e,Bool.true_or,Option.isSome_some]
  ·rw[jJ e,xE e,XV];exact vD k r
theorem Vl(k j:κ)(y:V):∀kvs:List (κ×V),jq (kvs.map fun kv=>if kv.1=k then(kv.1,y) else kv) j=(jq kvs j).map fun x=>if j=k then y else x
 | []=>rfl
 | p::r=>by
  have ih:=Vl k j y r
  rw[xx]
  by_cases h:p.1=k
  ·rw[zH h]
   by_cases e:p.1=j
   ·rw[jI (p:=(p.1,y)) e,jI e,yq,zH (e.symm.trans h)]
   ·rw[jJ (p:=(p.1,y)) e,jJ e,ih]
  ·rw[zx h]
   by_cases e:p.1=j
   ·rw[jI (p:=p) e,jI e,yq,zx (fun z=>h (e.trans z))]
   ·rw[jJ (p:=p) e,jJ e,ih]
theorem Jq(k j:κ)(y:V):∀kvs:List (κ×V),jq kvs k=none->jq (kvs++[(k,y)]) j=if j=k then some y else jq kvs j
 | [],_=>by
  by_cases e:k=j
  ·rw[zH e.symm];exact jI (p:=(k,y)) e
  ·rw[zx (fun z=>e z.symm)];exact jJ (p:=(k,y)) e
 | p::r,hn=>by
  rw[List.cons_append]
  have hk:¬p.1=k:=fun z=>by rw[jI z] at hn;cases hn
  rw[jJ hk] at hn
  have ih:=Jq k j y r hn
  by_cases e:p.1=j
  ·rw[jI e,jI e,zx (fun z=>hk (e.trans z))]
  ·rw[jJ e,jJ e,ih]
theorem Qg(kvs:List (κ×V))(k j:κ)(y:V):jq (xG kvs k y) j=if j=k then some y else jq kvs j:=by
 unfold xG
 by_cases a:(kvs.any fun kv=>decide (kv.1=k))=true
 ·rw[zH a,Vl]
  rw[vD] at a
  by_cases e:j=k
  ·obtain⟨x,hx⟩:=Option.isSome_iff_exists.mp a
   rw[zH e,e,hx,yq,zH rfl]
  ·rw[zx e]
   cases jq kvs j with
   | none=>rfl
   | some x=>rw[yq,zx e]
 ·rw[zx a]
  refine Jq k j y kvs ?_
  rw[vD] at a
  cases q:jq kvs k with
  | none=>rfl
  | some x=>rw[q] at a;exact(a rfl).elim
theorem xR(kvs:List (κ×V))(k:κ)(v:V):(xG kvs k v).length<=kvs.length+1:=by
 unfold xG
 split
 ·rw[zq];omega
 ·rw[zV,xU,X1];omega
theorem VO{kvs:List (κ×V)}{k:κ}(v:V)(h:jq kvs k=none):xG kvs k v=kvs++[(k,v)]:=by
 unfold xG
 rw[vD,h]
 exact zx (by decide)
theorem RelO.isSome_eq{o:Option V}{u:Option Value}(r:RelO o u):o.isSome=u.isSome:=by
 cases o with
 | none=>cases u with
  | none=>rfl
  | some _=>exact(show False from r).elim
 | some _=>cases u with
  | none=>exact(show False from r).elim
  | some _=>rfl
theorem RelO.getD{o:Option V}{u:Option Value}{d:V}{d':Value}(r:RelO o u)(rd:RelV d d'):RelV (o.getD d) (u.getD d'):=by
 cases o with
 | none=>cases u with
  | none=>exact rd
  | some _=>exact(show False from r).elim
 | some _=>cases u with
  | none=>exact(show False from r).elim
  | some _=>exact r
theorem KV.val{kvs:List (κ×V)}{vs:List (κ×Value)}(r:KV kvs vs)(k:κ):RelO (jq kvs k) (valueAt vs k):=by
 unfold KV at r
 induction r with
 | nil=>exact True.intro
 | @cons p q ps qs h t ih=>
  obtain⟨h1,h2⟩:=h
  by_cases e:p.1=k
  ·have e':q.1=k:=h1.symm.trans e
   have b:valueAt (q::qs) k=some q.2:=by simp[valueAt,Zv,e']
   rw[jI e,b];exact h2
  ·have e':¬q.1=k:=fun z=>e (h1.trans z)
   have b:valueAt (q::qs) k=valueAt qs k:=by simp[valueAt,Zv,e']
   rw[jJ e,b];exact ih
theorem KV.any{kvs:List (κ×V)}{vs:List (κ×Value)}(r:KV kvs vs)(k:κ):(kvs.any fun kv=>decide (kv.1=k))=vs.any fun kv=>decide (kv.1=k):=by
 unfold KV at r
 induction r with
 | nil=>rfl
 | cons h t ih=>rw[wZ,wZ,ih,h.1]
theorem KV.repl{kvs:List (κ×V)}{vs:List (κ×Value)}(r:KV kvs vs)(k:κ){y:V}{u:Value}(ry:RelV y u) :
  KV (kvs.map fun kv=>if kv.1=k then(kv.1,y) else kv) (vs.map fun kv=>if kv.1=k then(kv.1,u) else kv):=by
 unfold KV at r ⊢
 induction r with
 | nil=>exact .nil
 | @cons p q ps qs h t ih=>
  rw[xx,xx]
  refine .cons ?_ ih
  obtain⟨h1,h2⟩:=h
  by_cases e:p.1=k
  ·rw[zH e,zH (h1.symm.trans e)];exact⟨h1,ry⟩
  ·rw[zx e,zx (fun z=>e (h1.trans z))];exact⟨h1,h2⟩
theorem KV.put{kvs:List (κ×V)}{vs:List (κ×Value)}(r:KV kvs vs)(k:κ){y:V}{u:Value}(ry:RelV y u):KV (xG kvs k y) (stored vs k u):=by
 unfold xG stored
 rw[r.any k]
 by_cases e:(vs.any fun kv=>decide (kv.1=k))=true
 ·rw[zH e,zH e];exact r.repl k ry
 ·rw[zx e,zx e];exact Paired.snoc r ⟨rfl,ry⟩
theorem KV.length{kvs:List (κ×V)}{vs:List (κ×Value)}(r:KV kvs vs):kvs.length=vs.length:=XW r
end
theorem wU{P:Program}{w:World}{k:Key}{u:Value}(r:RelV (kV k) u):(qh P w).is k u=true:=by
 cases k with
 | inl i=>obtain⟨t,e⟩:=(show ∃t,u=Value.int i t from r);subst e;exact VZ P w i t
 | inr x=>obtain⟨t,e⟩:=(show ∃t,u=Value.str x t from r);subst e;exact VY P w x t
theorem JO{P:Program}{w:World}:∀{ks:List Key} {us:List Value},Vals (ks.map kV) us->ItemsAre (qh P w) ks us
 | [],_,r=>by rw[XU] at r;cases r;exact .nil
 | k::ks,_,r=>by
  rw[xx] at r
  cases r with
  | cons h t=>exact .cons (wU h) (JO t)
abbrev KT(H:Hp):List (List Key×V)->List (List Key×Addr×Value)->Prop:=Paired fun p q=>p.1=q.1/\H q.2.1=some (.tup (p.1.map kV))/\RelV p.2 q.2.2
theorem KT.val{H:Hp}{kvs:List (List Key×V)}{xs:List (List Key×Addr×Value)}(r:KT H kvs xs)(k:List Key):RelO (jq kvs k) ((atKey xs k).map (·.2)):=by
 induction r with
 | nil=>exact True.intro
 | @cons p q ps qs h t ih=>
  obtain⟨h1,_,h2⟩:=h
  by_cases e:p.1=k
  ·have e':q.1=k:=h1.symm.trans e
   have b:atKey (q::qs) k=some q.2:=by simp[atKey,Zv,e']
   rw[jI e,b];exact h2
  ·have e':¬q.1=k:=fun z=>e (h1.trans z)
   have b:atKey (q::qs) k=atKey qs k:=by simp[atKey,Zv,e']
   rw[jJ e,b];exact ih
theorem KT.repl{H:Hp}{kvs:List (List Key×V)}{xs:List (List Key×Addr×Value)}(r:KT H kvs xs)(k:List Key){y:V}{u:Value}(ry:RelV y u) :
  KT H (kvs.map fun kv=>if kv.1=k then(kv.1,y) else kv) (xs.map (putAt k u)):=by
 induction r with
 | nil=>exact .nil
 | @cons p q ps qs h t ih=>
  rw[xx,xx]
  refine .cons ?_ ih
  obtain⟨h1,h2,h3⟩:=h
  unfold putAt
  by_cases e:p.1=k
  ·rw[zH e,zH (h1.symm.trans e)];exact⟨h1,h2,ry⟩
  ·rw[zx e,zx (fun z=>e (h1.trans z))];exact⟨h1,h2,h3⟩
theorem KT.put{H:Hp}{kvs:List (List Key×V)}{xs:List (List Key×Addr×Value)}(r:KT H kvs xs)(k:List Key){b:Addr}{y:V}{u:Value}(hb:H b=some (.tup (k.map kV)))(ry:RelV y u) :
  KT H (xG kvs k y) (storedH xs k b u):=by
 have e:(kvs.any fun kv=>decide (kv.1=k))=(atKey xs k).isSome:=by
  rw[vD,(r.val k).isSome_eq,Option.isSome_map]
 unfold xG storedH
 rw[e]
 by_cases q:(atKey xs k).isSome=true
 ·rw[zH q,zH q];exact r.repl k ry
 ·rw[zx q,zx q];exact Paired.snoc r ⟨rfl,hb,ry⟩
theorem KT.keeps{H H':Hp}{kvs:List (List Key×V)}{xs:List (List Key×Addr×Value)}(r:KT H kvs xs)(ht:∀b ys,H b=some (.tup ys)->H' b=some (.tup ys)):KT H' kvs xs:=
 Paired.mapP r fun _ _ z=>⟨z.1,ht _ _ z.2.1,z.2.2⟩
section
variable{P:Program}{w:World}{H:Hp}{h:Heap}{a:Addr}
theorem zfw{u:HO}(ok:HOk P w H h)(e:Rd H a u):ObjOk P w H h a u:=e.ok ok
theorem ZF{kvs:List (Key×V)}(ok:HOk P w H h)(e:Rd H a (.dK kvs)):kvs.length<=sizeLine/\(a==sysModules)=false/\∃vs,KV kvs vs/\h.DictOf (qh P w) a vs:=
 show ObjOk P w H h a (.dK kvs) from zfw ok e
theorem Wc{kvs:List (Key×V)}(ok:HOk P w H h)(e:H a=some (.dK kvs)):kvs.length<=sizeLine/\(a==sysModules)=false/\∃vs,KV kvs vs/\h.DictOf (qh P w) a vs:=ZF ok (.inl e)
theorem QA{ks:List Key}(ok:HOk P w H h)(e:H a=some (.tup (ks.map kV))):(tupleKind (qh P w)).is h ks a:=by
 obtain⟨_,its,r,⟨o,h1,h2,n,h3⟩,_⟩:=(show ObjOk P w H h a (.tup (ks.map kV)) from ok a _ e)
 exact⟨o,its.toArray,n,h1,h2,h3,by simpa using JO r⟩
theorem JV{kvs:List (List Key×V)}(ok:HOk P w H h)(e:Rd H a (.dT kvs)):kvs.length<=sizeLine/\(a==sysModules)=false /\
  ∃xs,KT H kvs xs/\h.DictOfH (tupleKind (qh P w)) a xs:=by
 obtain⟨z,y,xs,r,o,es,ep,h1,h2,h3,h4,h5⟩:=(show ObjOk P w H h a (.dT kvs) from zfw ok e)
 refine⟨z,y,xs,r,o,es,ep,h1,h2,h3,h4,fun x hx=>?_,h5⟩
 have all:∀{l:List (List Key×V)} {m:List (List Key×Addr×Value)},KT H l m->∀x∈m,(tupleKind (qh P w)).is h x.1 x.2.1:=by
  intro l m q
  induction q with
  | nil=>intro x hx;exact nomatch hx
  | @cons p q ps qs hq t ih=>
   intro x hx
   rcases zZ.mp hx with e | hx
   ·subst e
    exact QA ok (by rw[<- hq.1];exact hq.2.1)
   ·exact ih x hx
 exact all r x hx
theorem zhY{kvs:List (List Key×V)}(ok:HOk P w H h)(e:H a=some (.dT kvs)):kvs.length<=sizeLine/\(a==sysModules)=false /\
  ∃xs,KT H kvs xs/\h.DictOfH (tupleKind (qh P w)) a xs:=JV ok (.inl e)
end
def DGet(H:Hp)(a:Addr)(y:V)(r:Option V):Prop:=
 (∃kvs k,Rd H a (.dK kvs)/\y=kV k/\r=jq kvs k)\/∃kvs k b,Rd H a (.dT kvs)/\y=.ref b/\H b=some (.tup (k.map kV))/\r=jq kvs k
def DPut(H:Hp)(a:Addr)(y v:V)(H':Hp):Prop:=
 (∃kvs k,H a=some (.dK kvs)/\y=kV k/\kvs.length<sizeLine/\H'=upd H a (.dK (xG kvs k v))) \/
 ∃kvs k b,H a=some (.dT kvs)/\y=.ref b/\H b=some (.tup (k.map kV))/\kvs.length<sizeLine/\H'=upd H a (.dT (xG kvs k v))
theorem DGet.k{H:Hp}{a:Addr}{kvs:List (Key×V)}{k:Key}(e:H a=some (.dK kvs)):DGet H a (kV k) (jq kvs k):=.inl ⟨kvs,k,.inl e,rfl,rfl⟩
theorem DPut.k{H:Hp}{a:Addr}{kvs:List (Key×V)}{k:Key}{v:V}(e:H a=some (.dK kvs))(hl:kvs.length<sizeLine):DPut H a (kV k) v (upd H a (.dK (xG kvs k v))):=.inl ⟨kvs,k,e,rfl,hl,rfl⟩
section
variable{X:Cx}{pins:List (Addr×Obj)}{σ:St}{H:Hp}{s:Shared}{a:Addr}{y v:V}{u r:Value}{o:Option V}{A:Around}{E:Value->Shared->Prop}
theorem Inv.big(I:Inv X pins σ H s):sysModules<s.heap.objs.size:=by
 have h:mainGlobals<s.heap.objs.size:=(I.mod.glob.keeps I.bk).lt
 exact QZ (by decide) h
theorem zbQ{Q:Value->Shared->Prop}(hu:A.units+1<cLine)(I:Inv X pins σ H s)(g:DGet H a y (some v))(ry:RelV y u)(h:∀w' s',Inv X pins σ H s'->RelV v w'->Q w' s') :
  wpAny (model X.prog X.w) A (getItem (.ref a) u) Q E s:=by
 rcases g with ⟨kvs,k,e,ey,l⟩ | ⟨kvs,k,b,e,ey,eb,l⟩
 ·subst ey
  obtain⟨z,hd,vs,rel,dd⟩:=ZF I.hok e
  obtain⟨w',hw,rw'⟩:=RelO.some_of (v:=v) (o:=valueAt vs k) (by rw[l];exact rel.val k)
  exact wpAny_getItem_of (wU ry) dd.mapOf hw (h w' _ (I.tok _) rw')
 ·subst ey
  cases(show u=Value.ref b from ry)
  obtain⟨z,hd,xs,rel,dd⟩:=JV I.hok e
  obtain⟨w',hw,rw'⟩:=RelO.some_of (v:=v) (o:=(atKey xs k).map (·.2)) (by rw[l];exact rel.val k)
  obtain⟨p,hp,hp2⟩:=jb.mp hw
  refine wpAny_getItem_heap (tupleKind_room_in1 hu) (QA I.hok eb) dd hp ?_
  rw[hp2]
  exact h w' _ (I.tok _) rw'
theorem zeV{Q:Value->Shared->Prop}(hu:A.units+1<cLine)(I:Inv X pins σ H s)(g:DGet H a y o)(ry:RelV y u)(h:∀s',Inv X pins σ H s'->Q (.bool (!o.isSome)) s') :
  wpAny (model X.prog X.w) A (compareOp .NotIn u (.ref a)) Q E s:=by
 rcases g with ⟨kvs,k,e,ey,l⟩ | ⟨kvs,k,b,e,ey,eb,l⟩
 ·subst ey
  obtain⟨z,hd,vs,rel,dd⟩:=ZF I.hok e
  refine wpAny_notIn_of (wU ry) hd dd.mapOf ?_
  rw[<- (rel.val k).isSome_eq,<- l]
  exact h _ (I.tok _)
 ·subst ey
  cases(show u=Value.ref b from ry)
  obtain⟨z,hd,xs,rel,dd⟩:=JV I.hok e
  refine wpAny_notIn_heap (tupleKind_room_in1 hu) (QA I.hok eb) hd dd ?_
  have q:=(rel.val k).isSome_eq
  rw[Option.isSome_map] at q
  rw[<- q,<- l]
  exact h _ (I.tok _)
theorem yP{h':Heap}{t':Nat}{ob:HO}(I:Inv X pins σ H s)(mu:Mut (H a))(hs:Heap.SameBut a s.heap h')(he:∃q,h'.get? a=some q)(new:ObjOk X.prog X.w (upd H a ob) h' a ob) :
  Inv X pins σ (upd H a ob) { s with heap:=h',toks:=t' }:=
 I.write (x:=a) (e:=a) mu (.inl rfl) (fun b q hb z=>(hs.2 b hb).trans z) he new
theorem QI{P:Program}{w:World}{H':Hp}{h':Heap}{kvs:List (Key×V)}{vs:List (Key×Value)}(z:kvs.length<=sizeLine)(hd:(a==sysModules)=false)(rel:KV kvs vs)(dd:h'.DictOf (qh P w) a vs) :
  ObjOk P w H' h' a (.dK kvs):=⟨z,hd,vs,rel,dd⟩
theorem zbP{H':Hp}{Q:Unit->Shared->Prop}(hu:A.units+1<cLine)(I:Inv X pins σ H s)(g:DPut H a y v H')(ry:RelV y u)(rv:RelV v r)(h:∀s',Inv X pins σ H' s'->Q () s') :
  wpAny (model X.prog X.w) A (setItem (.ref a) u r) Q E s:=by
 rcases g with ⟨kvs,k,e,ey,l,eH⟩ | ⟨kvs,k,b,e,ey,eb,l,eH⟩
 ·subst ey eH
  obtain⟨z,hd,vs,rel,dd⟩:=Wc I.hok e
  have hz:vs.length<=sizeLine:=by rw[<- rel.length];exact z
  have hl:(xG kvs k v).length<=sizeLine:=by have:=xR kvs k v;omega
  refine wpAny_setItem_pairs (hsz:=hz) (wU ry) dd fun h' dd' hs=>h _ ?_
  have he:∃q,h'.get? a=some q:=let ⟨q,_,_,hq,_⟩:=dd';⟨q,hq⟩
  exact yP I (by rw[e];exact True.intro) hs he (QI hl hd (rel.put k rv) dd')
 ·subst ey eH
  cases(show u=Value.ref b from ry)
  obtain⟨z,hd,xs,rel,dd⟩:=zhY I.hok e
  have hz:xs.length<=sizeLine:=by rw[<- XW rel];exact z
  have hl:(xG kvs k v).length<=sizeLine:=by have:=xR kvs k v;omega
  refine wpAny_setItem_heap (hsz:=hz) (tupleKind_room_in1 hu) (QA I.hok eb) dd fun h' dd' hs=>h _ ?_
  obtain⟨q,es,ep,hq,h2,h3,h4,_,h5⟩:=dd'
  refine yP I (by rw[e];exact True.intro) hs ⟨q,hq⟩ ⟨hl,hd,_,(rel.put k eb rv).keeps fun c ys ec=>?_,q,es,ep,hq,h2,h3,h4,h5⟩
  rw[zi (zaz ec e (fun z=>nomatch z))]
  exact ec
end
section
variable{X:Cx}{pins:List (Addr×Obj)}{σ:St}{H:Hp}{s:Shared}{a:Addr}{kvs:List (Key×V)}{k:Key}{u:Value}{A:Around}{E:Value->Shared->Prop}
end
def zh2(i:Expr):Prop:=∀ov iv,subscripted i false ov iv=operate [ov,iv] (getItem ov iv)
theorem zd4{prog:Program}{w:World}{A:Around}{E:Value->Shared->Prop}{s:Shared}{env:Env}{value slice:Expr}{pos:Pos}{T id:String}{Q:Value->Shared->Prop}
  (hl:typeLookup (.type T) "__getitem__" = pure (some (.builtin id))) (hs:zh2 slice)
  (h:wpAny (model prog w) A (eval value env) (fun o s₁=>wpAny (model prog w) A (eval slice env) (fun i s₂=>s₂.TypeIs o T/\wpAny (model prog w) A (getItem o i) Q E s₂) E s₁) E s) :
  wpAny (model prog w) A (eval (.Subscript value slice pos) env) Q E s:=by
 refine Subscript_ (xZ h (fun o s₁ h₁=>xZ h₁ (fun i s₂ h₂=>?_) fun _ _ x=>x) fun _ _ x=>x)
 obtain⟨hT,h₂⟩:=h₂
 unfold subscriptTail
 refine zr ?_
 rw[getitemInPython_of_ne hT.not_modules]
 refine zr (wpAny_specialOf hT hl ?_)
 have fin:wpAny (model prog w) A (subscripted slice false o i) (fun r s₃=>wpAny (model prog w) A (letTemporaryGo value o r >>= fun _=>pure r) Q E s₃) E s₂:=by
  rw[hs o i]
  exact wpAny_operating (xZ h₂ (fun r s₃ h₃=>zr (wpAny_letTemporaryGo (zD h₃))) fun _ _ x=>x)
 first
  | exact zD (zr fin)
  | exact zr (zD (zr fin))
  | exact zr fin
theorem We{X:Cx}{pins:List (Addr×Obj)}{σ:St}{H:Hp}{s:Shared}{a:Addr}{y:V}{o:Option V}(I:Inv X pins σ H s)(g:DGet H a y o):s.TypeIs (.ref a) "dict" :=by
 rcases g with ⟨kvs,k,e,_,_⟩ | ⟨kvs,k,b,e,_,_,_⟩
 ·obtain⟨_,_,vs,_,dd⟩:=ZF I.hok e
  exact dd.typeIs
 ·obtain⟨_,_,xs,_,dd⟩:=JV I.hok e
  exact dd.typeIs
def zha(td ty:TE):TE:=fun σ H Q=>td σ H fun x H1=>ty σ H1 fun y H2=>∃a v,x=.ref a/\DGet H2 a y (some v)/\Q v H2
def zd2(ty td:TE):TE:=fun σ H Q=>ty σ H fun y H1=>td σ H1 fun x H2=>∃a o,x=.ref a/\DGet H2 a y o/\Q (.bl (!o.isSome)) H2
def zho(td ty tv:TE):TS:=fun D σ H=>tv σ H fun v H1=>td σ H1 fun x H2=>ty σ H2 fun y H3=>∃a H4,x=.ref a/\DPut H3 a y v H4/\D.nx σ H4
section
variable{X:Cx}{o i e value:Expr}{pos pos' tpos:Pos}{td ty tv:TE}
theorem qL(hu:X.A.units+1<cLine)(ho:PE X o td)(hi:PE X i ty)(hs:zh2 i):PE X (.Subscript o i pos) (zha td ty):=by
 intro pins s σ H Q I h
 refine zd4 PySem.F.slot_dict_getitem.lookup hs (thn (ho pins s σ H _ I h) fun u s1 ⟨x,H1,I1,rx,q1⟩=>thn (hi pins s1 σ H1 _ I1 q1) fun iv s2 ⟨y,H2,I2,ry,a,v,ex,g,q2⟩=>?_)
 subst ex
 obtain rfl:u=Value.ref a:=rx
 exact⟨We I2 g,zbQ hu I2 g ry fun w' s3 I3 rw'=>⟨v,H2,I3,rw',q2⟩⟩
theorem zbz(hu:X.A.units+1<cLine)(hi:PE X i ty)(ho:PE X o td):PC X .NotIn i o (zd2 ty td):=by
 intro pins s σ H Q I h
 refine thn (hi pins s σ H _ I h) fun iv s1 ⟨y,H1,I1,ry,q1⟩=>thn (ho pins s1 σ H1 _ I1 q1) fun u s2 ⟨x,H2,I2,rx,a,ov,ex,g,q2⟩=>?_
 subst ex
 obtain rfl:u=Value.ref a:=rx
 exact zeV hu I2 g ry fun s3 I3=>⟨.bl (!ov.isSome),H2,I3,rfl,q2⟩
theorem Xn(hu:X.A.units+1<cLine)(ho:PE X o td)(hi:PE X i ty)(hv:PE X value tv)(hs:swapsWith value (some (.Subscript o i pos')) pos.line X.env=pure false) :
  PS X (.Assign [.Subscript o i pos'] value pos) (zho td ty tv):=by
 intro pins s σ H D I h
 refine wpAny_Assign_Subscript (thn (hv pins s σ H _ I h) fun r s1 ⟨v,H1,I1,rv,q1⟩=>thn (ho pins s1 σ H1 _ I1 q1) fun u s2 ⟨x,H2,I2,rx,q2⟩=>thn (hi pins s2 σ H2 _ I2 q2) fun iv s3 ⟨y,H3,I3,ry,a,H4,ex,g,q3⟩=>?_) hs
 subst ex
 obtain rfl:u=Value.ref a:=rx
 exact zbP hu I3 g ry rv fun s4 I4=>⟨σ,H4,I4,q3⟩
end
theorem Wd{P:Program}{w:World}{H:Hp}(h:Heap)(hb:sysModules<h.objs.size):ObjOk P w H (h.push { cls:=.type "dict",data:=.dict #[] }) h.objs.size (.dK []):=
 ⟨qe _,beq_eq_false_iff_ne.mpr (qy (qm hb)),[],.nil,Heap.DictOf.new h⟩
def zfQ:TE:=fun _ H Q=>∀p,H p=none->Q (.ref p) (upd H p (.dK []))
section
variable{X:Cx}{pos:Pos}
theorem zcU:PE X (.Dict [] [] pos) zfQ:=fun pins s σ H Q I h=>
 wpAny_Dict_empty ⟨.ref s.heap.objs.size,_,I.laid (a:=s.heap.objs.size) (o:=.dK []) (t':=s.toks) (fun _ _ q=>qx _ q) (zJ _) (Wd s.heap I.big),rfl,h _ (I.hok.fresh (zJ _))⟩
end
def Wz:List (TE×TE)->St->Hp->(List (V×V)->Hp->Prop)->Prop
 | [],_,H,Q=>Q [] H
 | (tk,tv)::r,σ,H,Q=>tk σ H fun x H1=>tv σ H1 fun y H2=>Wz r σ H2 fun ps H3=>Q ((x,y)::ps) H3
abbrev VV:List (V×V)->List (Value×Value)->Prop:=Paired fun p q=>RelV p.1 q.1/\RelV p.2 q.2
def PPs(X:Cx)(pos:Pos)(keys:List (Option Expr))(values:List Expr)(trs:List (TE×TE)):Prop:=
 ∀(pins:List (Addr×Obj)) (s:Shared) (σ:St) (H:Hp) (Q:List (V×V)->Hp->Prop),Inv X pins σ H s->Wz trs σ H Q ->
  wpAny (model X.prog X.w) X.A (evalPairs (pairTrees keys values X.env pos)) (fun vs s'=>∃ps H',Inv X pins σ H' s'/\VV ps vs/\Q ps H') X.xe s
theorem Xo{X:Cx}{pos:Pos}:PPs X pos [] [] []:=fun pins s σ H Q I h=>pairTrees_nil_walk ⟨[],H,I,.nil,h⟩
theorem xQ{X:Cx}{pos:Pos}{k v:Expr}{ks:List (Option Expr)}{vs:List Expr}{tk tv:TE}{trs:List (TE×TE)}(hk:PE X k tk)(hv:PE X v tv)(hr:PPs X pos ks vs trs) :
  PPs X pos (some k::ks) (v::vs) ((tk,tv)::trs):=fun pins s σ H Q I h=>
 pairTrees_cons_walk (thn (hk pins s σ H _ I h) fun u s1 ⟨x,H1,I1,rx,q1⟩=>thn (hv pins s1 σ H1 _ I1 q1) fun w2 s2 ⟨y,H2,I2,ry,q2⟩=>
  thn (hr pins s2 σ H2 _ I2 q2) fun ws s3 ⟨ps,H3,I3,rel,q3⟩=>⟨(x,y)::ps,H3,I3,.cons ⟨rx,ry⟩ rel,q3⟩)
def jE(kvs more:List (Key×V)):List (Key×V):=more.foldl (fun acc kv=>xG acc kv.1 kv.2) kvs
theorem KV.merge:∀{more:List (Key×V)} {rs:List (Key×Value)} {kvs:List (Key×V)} {vs:List (Key×Value)},KV more rs->KV kvs vs->KV (jE kvs more) (merged vs rs):=by
 intro more rs kvs vs r
 unfold KV at r
 induction r generalizing kvs vs with
 | nil=>intro q;exact q
 | @cons p q ps qs h t ih=>
  intro r0
  have e:KV (xG kvs p.1 p.2) (stored vs q.1 q.2):=by
   have:=r0.put p.1 h.2
   rw[<- h.1];exact this
  exact ih e
theorem xM:∀(more kvs:List (Key×V)),(jE kvs more).length<=kvs.length+more.length
 | [],kvs=>by show kvs.length<=kvs.length+0;omega
 | p::r,kvs=>by
  have h1:=xM r (xG kvs p.1 p.2)
  have h2:=xR kvs p.1 p.2
  show(jE (xG kvs p.1 p.2) r).length<=_
  rw[xU];omega
theorem QL{P:Program}{w:World}:∀{kvs:List (Key×V)} {ws:List (Value×Value)},VV (kvs.map fun kv=>(kV kv.1,kv.2)) ws->∃rs,Carries (qh P w) ws rs/\KV kvs rs
 | [],_,r=>by rw[XU] at r;cases r;exact⟨[],True.intro,.nil⟩
 | p::kvs,_,r=>by
  rw[xx] at r
  cases r with
  | @cons a b as bs h t=>
   obtain⟨rs,c,q⟩:=QL (P:=P) (w:=w) t
   obtain⟨b1,b2⟩:=b
   exact⟨(p.1,b2)::rs,⟨wU h.1,rfl,c⟩,.cons ⟨rfl,h.2⟩ q⟩
def zg8(trs:List (TE×TE)):TE:=fun σ H Q=>∀p,H p=none->Wz trs σ (upd H p (.dK [])) fun ps H2=>H2 p=some (.dK [])/\∃kvs:List (Key×V),ps=kvs.map (fun kv=>(kV kv.1,kv.2))/\kvs.length<=15/\Q (.ref p) (upd H2 p (.dK (jE [] kvs)))
theorem Xr{X:Cx}{pos:Pos}{keys:List (Option Expr)}{values:List Expr}{trs:List (TE×TE)}(h:PPs X pos keys values trs)(hall:keys.all (·.isSome)=true)(hl:keys.length=values.length)(h0:keys≠[])
  (h15:keys.length<=15):PE X (.Dict keys values pos) (zg8 trs):=by
 intro pins s σ H Q I q
 have hn:=I.hok.fresh (zJ s.heap.objs.size)
 have I1:=I.laid (a:=s.heap.objs.size) (o:=.dK []) (h':=s.heap.push { cls:=.type "dict",data:=.dict #[] }) (t':=s.toks) (fun _ _ q=>qx _ q) (zJ _) (Wd s.heap I.big)
 refine wpAny_Dict_walk (knd:=qh X.prog X.w) hall hl h0 h15 (thn (h pins _ σ _ _ I1 (q _ hn)) fun ws s2 ⟨ps,H2,I2,rel,e,kvs,ep,lk,q2⟩=>?_)
 subst ep
 obtain⟨rs,c,rk⟩:=QL (P:=X.prog) (w:=X.w) rel
 obtain⟨z,hd,vs0,r0,dd⟩:=Wc I2.hok e
 cases r0
 refine⟨rs,c,dd,fun h' dd' hs=>⟨.ref s.heap.objs.size,_,?_,rfl,q2⟩⟩
 have hz:(jE [] kvs).length<=sizeLine:=by
  have h1:=xM kvs []
  rw[X1] at h1
  rw[sizeLine_eq];omega
 have he:∃q,h'.get? s.heap.objs.size=some q:=let ⟨q,_,_,hq,_⟩:=dd';⟨q,hq⟩
 exact yP I2 (by rw[e];exact True.intro) hs he (QI hz hd (rk.merge .nil) dd')
structure M1(X:Cx)(o:Expr)(m:Str)(apos:Pos)(e:Expr)(cpos:Pos):Prop where
 base:attributeBase o m X.env (eval o X.env)=eval o X.env
 few:((backTo cpos (starEach [e] X.env)).all (fun x=>!x.1)&&(backToKw cpos (keywordEach [] X.env)).all (fun x=>x.1.isSome)
  && decide (([e]:List Expr).length+([]:List Keyword).length+(if([]:List Keyword).isEmpty then 0 else 1)<30))=true
 line:(apos.endLine==cpos.line)=true
 trees:backTo cpos (starEach [e] X.env)=[(false,eval e X.env)]
structure M2(X:Cx)(o:Expr)(m:Str)(apos:Pos)(e f:Expr)(cpos:Pos):Prop where
 base:attributeBase o m X.env (eval o X.env)=eval o X.env
 few:((backTo cpos (starEach [e,f] X.env)).all (fun x=>!x.1)&&(backToKw cpos (keywordEach [] X.env)).all (fun x=>x.1.isSome)
  && decide (([e,f]:List Expr).length+([]:List Keyword).length+(if([]:List Keyword).isEmpty then 0 else 1)<30))=true
 line:(apos.endLine==cpos.line)=true
 trees:backTo cpos (starEach [e,f] X.env)=[(false,eval e X.env),(false,eval f X.env)]
def IsD(H:Hp)(a:Addr):Prop:=(∃kvs,Rd H a (.dK kvs))\/∃kvs,Rd H a (.dT kvs)
theorem WZ{X:Cx}{pins:List (Addr×Obj)}{σ:St}{H:Hp}{s:Shared}{a:Addr}(I:Inv X pins σ H s)(d:IsD H a) :
  s.TypeIs (.ref a) "dict" /\ (∀b,Value.ref a=.ref b->∃ob,s.heap.get? b=some ob/\ob.dict=none)/\(a==sysModules)=false:=by
 rcases d with ⟨kvs,e⟩ | ⟨kvs,e⟩
 ·obtain⟨_,hd,vs,_,dd⟩:=ZF I.hok e
  refine⟨dd.typeIs,fun b q=>?_,hd⟩
  cases q
  obtain⟨ob,_,_,h1,h2,_⟩:=dd
  exact⟨ob,h1,h2.2.1⟩
 ·obtain⟨_,hd,xs,_,dd⟩:=JV I.hok e
  refine⟨dd.typeIs,fun b q=>?_,hd⟩
  cases q
  obtain⟨ob,_,_,h1,h2,_⟩:=dd
  exact⟨ob,h1,h2.2.1⟩
section
variable{X:Cx}{pins:List (Addr×Obj)}{σ:St}{H:Hp}{s:Shared}{a:Addr}{y d:V}{u r:Value}{o:Option V}{A:Around}{E:Value->Shared->Prop}
theorem zgU{Q:Value->Shared->Prop}(hu:A.units+1<cLine)(I:Inv X pins σ H s)(g:DGet H a y o)(ry:RelV y u)(rd:RelV d r)(h:∀w' s',Inv X pins σ H s'->RelV (o.getD d) w'->Q w' s') :
  wpAny (model X.prog X.w) A (call (.builtin "dict.get") [.ref a,u,r]) Q E s:=by
 rcases g with ⟨kvs,k,e,ey,l⟩ | ⟨kvs,k,b,e,ey,eb,l⟩
 ·subst ey
  obtain⟨z,hd,vs,rel,dd⟩:=ZF I.hok e
  refine call_meetsIn Ys dd.typeIs PySem.F.entry_dict_get (PySem.F.args_dict_get_3 _ _ _) (meets_dict_get_default (qh X.prog X.w) a (wU ry) hd r) ⟨_,dd.mapOf,h _ _ (I.tok _) ?_⟩
  rw[l]
  exact(rel.val k).getD rd
 ·subst ey
  cases(show u=Value.ref b from ry)
  obtain⟨z,hd,xs,rel,dd⟩:=JV I.hok e
  refine call_meetsIn Ys dd.typeIs PySem.F.entry_dict_get (PySem.F.args_dict_get_3 _ _ _) (meetsH_dict_get_default (tupleKind (qh X.prog X.w)) a b hd r) ⟨tupleKind_room_in1 hu,k,xs,QA I.hok eb,dd,h _ _ (I.tok _) ?_⟩
  rw[l]
  exact(rel.val k).getD rd
end
def zfR(td ty tx:TE):TE:=fun σ H Q=>td σ H fun x H1=>∃a,x=.ref a/\IsD H1 a/\ty σ H1 fun y H2=>tx σ H2 fun z H3=>∃o,DGet H3 a y o/\Q (o.getD z) H3
section
variable{X:Cx}{o e f:Expr}{apos cpos:Pos}{td ty tx:TE}
theorem zcV(hu:X.A.units+1<cLine)(ho:PE X o td)(he:PE X e ty)(hf:PE X f tx)(m:M2 X o "get" apos e f cpos):PE X (.Call (.Attribute o "get" apos) [e,f] [] cpos) (zfR td ty tx):=by
 intro pins s σ H Q I h
 refine wpAny_Call_method m.base m.few m.line Yv Ys PySem.F.type_dict_get (thn (ho pins s σ H _ I h) fun u s1 ⟨x,H1,I1,rx,a,ex,d,q1⟩=>?_)
 subst ex
 obtain rfl:u=Value.ref a:=rx
 obtain⟨t1,t2,_⟩:=WZ I1 d
 refine⟨t1,t2,?_⟩
 rw[m.trees]
 refine Wr rfl (Va (QT (thn (he pins s1 σ H1 _ I1 q1) fun iv s2 ⟨y,H2,I2,ry,q2⟩=>
  QT (thn (hf pins s2 σ H2 _ I2 q2) fun fv s3 ⟨z,H3,I3,rz,ov,g,q3⟩=>Q4 ?_))))
 exact zgU hu I3 g ry rz fun w' s4 I4 rw'=>⟨_,H3,I4,rw',q3⟩
end
section
variable{X:Cx}{pins:List (Addr×Obj)}{σ:St}{H:Hp}{s:Shared}{a:Addr}{kvs:List (Key×V)}{A:Around}{E:Value->Shared->Prop}
end
section
variable{X:Cx}{pins:List (Addr×Obj)}{σ:St}{H:Hp}{s:Shared}{a:Addr}{y:V}{u:Value}{A:Around}{E:Value->Shared->Prop}
end
end L2
namespace PySem
open PySem PySem.W PySem.Calls PyProof.Rows PyProof.V PySem.Spec
end PySem
namespace L2
open PySem PySem.Spec PyProof.Rows
section
variable{X:Cx}
end
section
variable{X:Cx}{tg:Expr}
end
section
variable{X:Cx}
end
section
variable{X:Cx}
variable{e st:Expr}{te:TE}{tk:TO}{pos p2:Pos}
end
end L2
namespace PySem
def RawD(h:Heap)(d:Addr)(es:Array DictEntry)(ep:Nat):Prop:=∃o,h.get? d=some o/\o.ExactDict/\o.data=.dict es ep
theorem RawD.at{h h':Heap}{d:Addr}{es:Array DictEntry}{ep:Nat}(x:RawD h d es ep)(e:∀o,h.get? d=some o->h'.get? d=some o):RawD h' d es ep:=let ⟨o,a,b⟩:=x;⟨o,e _ a,b⟩
section
variable{prog:Program}{w:World}{A:Around}{E:Value->Shared->Prop}{s:Shared}{d it:Addr}{es:Array DictEntry}{ep i:Nat}
theorem zcL{Q:Value->Shared->Prop}(hd:(d==sysModules)=false)(hm:RawD s.heap d es ep)
  (hQ:Q (.ref s.heap.objs.size) { s with heap:=s.heap.push { cls:=.type "dict_keyiterator",data:=.fields #[.ref d,.int 0 0,.int es.size 0,.int ep 0] } }):wpAny (model prog w) A (pyIter (.ref d)) Q E s:=by
 obtain⟨o,ho,hc,hdat⟩:=hm
 have ty:s.TypeIs (.ref d) "dict" :=⟨o,ho,hc.1⟩
 refine wpAny_pyIter_slot ty F.slot_dict_iter (w9 F.slot_dict_iter ty F.entry_dict_iter ?go (F.args_dict_iter_1 _))
 unfold Builtin.«dict.__iter__» Builtin.Dict.dictSlotNone
 refine zr (zr (wpAny_notOrdered_dict ty ?go2));refine(zD ?go3:wpAny _ _ (pure (Value.ref d)) _ _ s)
 refine(?go7:wpAny _ _ (Builtin.Dict.showsAll d >>= _) _ _ s);unfold Builtin.Dict.showsAll
 rw[zx (by rw[hd];exact qC)];refine zr (zD ?go5)
 refine zr (wpAny_dictEntries ho hdat (zr (wpAny_dictEpoch ho hdat (zr (wx (zD ⟨_,rfl, "dict_keyiterator",_,⟨_,qD _ rfl,rfl⟩,Ws.lookup,?go6⟩))))))
 simpa [rawInt] using hQ
theorem zcM{e:DictEntry}{Q:Option Value->Shared->Prop}(hit:s.heap.IsKeyIter it d i es.size ep)(hm:RawD s.heap d es ep)(hx:es[i]? =some e)
  (hQ:∀h',h'.IsKeyIter it d (i+1) es.size ep->Heap.SameBut it s.heap h'->Q (some e.key) { s with heap:=h' }):wpAny (model prog w) A (pyNext (.ref it)) Q E s:=by
 obtain⟨o,ho,hc,hd⟩:=id hit
 obtain⟨od,hod,hcd,hdd⟩:=hm
 have ty:=hit.typeIs
 obtain⟨lt,ee⟩:∃h:i<es.size,es[i]=e:=YB.mp hx
 unfold pyNext
 refine zr (yp (ZO (name:=Str.ofString "__next__") ty Ws (w9 Ws ty zdT ?a (zdU _))))
 refine zr (zD ?a1);refine zr (zr ?a2)
 first| refine zr (wpAny_typeNameOfWhole_keyiter ty (zD ?a3)) | refine zr (wpAny_typeNameOf_keyiter ty (zD ?a3))
 refine zr (wpAny_fieldsOf ho hd ?a4)
 simp only[show Builtin.Dict_items.ownsTuple "dict_keyiterator" = false by decide,J7,if_false]
 refine(?a5:wpAny _ _ (if(Value.ref d==Value.none)=true then _ else _) _ _ s)
 rw[zx (show ¬((Value.ref d==Value.none)=true) from qC)];refine zr (zD (zr (wpAny_dictEntries hod hdd ?a6)))
 rw[zx (by simp)];refine zr (zD (zr (wpAny_dictEpoch hod hdd ?a7)))
 rw[zx (by simp)];refine zD ?a8
 simp only[show ¬((i:Int)<0) from by omega,if_false,vf,Ve lt];refine zr ?a9
 first| refine zr (wpAny_typeNameOfWhole_keyiter ty (zD ?b1)) | refine zr (wpAny_typeNameOf_keyiter ty (zD ?b1))
 refine zr (wpAny_isOneOf_keyiter ty ?b2);refine(?b3:wpAny _ _ (setField (.ref it) 1 (rawInt ((i:Int)+1)) >>= _) _ _ s)
 have hit':(s.heap.update it (Obj.mapFields (·.setIfInBounds 1 (rawInt ((i:Int)+1))))).IsKeyIter it d (i+1) es.size ep:=
  ⟨_,QU _ ho (Yt (Q5 hd _)),(Yk ..).trans hc,(by rw[Q5 hd];simp[rawInt])⟩
 refine zr (wpAny_setField ho hd (by simp) (zr (w6 (zr (wpAny_isOneOf_keyiter (s:={ s with heap:=s.heap.update it (Obj.mapFields (·.setIfInBounds 1 (rawInt ((i:Int)+1)))) }) hit'.typeIs ?b4)))))
 refine(?b5:wpAny _ _ (pure es[i].key) _ _ _)
 rw[ee];exact zD (zD ⟨_,rfl,zD (hQ _ hit' (Q6 ..))⟩)
theorem zd9{Q:Option Value->Shared->Prop}(hh:A.handled=none)(hit:s.heap.IsKeyIter it d i es.size ep)(hm:RawD s.heap d es ep)(hx:es.size<=i)
  (hQ:∀h',Heap.ExtBut it s.heap h'->Q none { s with heap:=h' }):wpAny (model prog w) A (pyNext (.ref it)) Q E s:=by
 obtain⟨o,ho,hc,hd⟩:=id hit
 obtain⟨od,hod,hcd,hdd⟩:=hm
 have ty:=hit.typeIs
 unfold pyNext
 refine zr (yp (ZO (name:=Str.ofString "__next__") ty Ws (w9 Ws ty zdT ?a (zdU _))))
 refine zr (zD ?a1);refine zr (zr ?a2)
 first| refine zr (wpAny_typeNameOfWhole_keyiter ty (zD ?a3)) | refine zr (wpAny_typeNameOf_keyiter ty (zD ?a3))
 refine zr (wpAny_fieldsOf ho hd ?a4)
 simp only[show Builtin.Dict_items.ownsTuple "dict_keyiterator" = false by decide,J7,if_false]
 refine(?a5:wpAny _ _ (if(Value.ref d==Value.none)=true then _ else _) _ _ s)
 rw[zx (show ¬((Value.ref d==Value.none)=true) from qC)];refine zr (zD (zr (wpAny_dictEntries hod hdd ?a6)))
 rw[zx (by simp)];refine zr (zD (zr (wpAny_dictEpoch hod hdd ?a7)))
 rw[zx (by simp)];refine zD ?a8
 simp only[show ¬((i:Int)<0) from by omega,if_false,vf,Array.getElem?_eq_none hx];refine zr ?a9
 first| refine zr (wpAny_typeNameOfWhole_keyiter ty (zD ?b1)) | refine zr (wpAny_typeNameOf_keyiter ty (zD ?b1))
 refine(?b3:wpAny _ _ (setField (.ref it) 0 .none >>= _) _ _ s);refine zr (wpAny_setField ho hd (by simp) ?b4)
 refine(?b5:wpAny _ _ (newExc (.type "StopIteration") [] >>= _) _ _ _);refine zr ?b6
 simp only[newExc,newTuple];refine zr (wx ?b7 (by size_fits))
 refine zr (m:=firstArgMember _ _) (wpAny_of_eq (a:=Value.none) (by first| rfl | (simp only[firstArgMember];rfl)) (wx ?b8 (by size_fits)))
 simp only[raiseNew];refine zr (wpAny_handled ?b9)
 rw[show A.in1.handled=none from hh];refine zr (zD (wpAny_throw ?c1))
 exact zr (ZL (T:= "StopIteration") (b:=true) ⟨_,qD _ rfl,rfl⟩ isSubtype_stop (zD (hQ _ (((Q6 ..).extBut.push _).push _))))
end
end PySem
namespace L2
open PySem PySem.Spec PyProof.Rows
section
variable{X:Cx}{tg:Expr}
end
section
variable{prog:Program}{w:World}{A:Around}{R:Result->Shared->Prop}{s:Shared}
end
section
variable{X:Cx}{kx vx tg1 iter1:Expr}{ifs1:List Expr}{tg iter:Expr}{ifs:List Expr}{scope:Scope}{pos:Pos}{wi wi1:TI}{g g1:TG}{tf tf1:TT}{tk tv:TE}
end
abbrev j3(X:Cx)(N':List Str)(scope:Scope)(x:Str)(C:Addr)(s:Shared)(H:Hp)(ex:List Addr):Cx where
 prog:=X.prog
 w:=X.w
 K:=X.K
 mg:=X.mg
 base:=X.base
 A:=X.A
 N:=N'
 s₀:=s
 H₀:=H
 env:=compEnvC scope ((x,C+1)::jF X.env.cells scope.names []) C X.env
 outer:=X.stack
 stack:=X.stack
 ex:=ex
 fn:=fun y=>y==x
 calm:=X.calm
 pn:=[]
 xe:=fun _ _=>False
def XN(sn on:List (Str×NameKind))(N:List Str)(x:Str)(fr:List Str)(js:List Nat):Bool:=
 (sn.filter fun y=>y.2==.cell)==[(x,.cell)]&&sn.lookup x==some .cell&&decide ([x]++fr).Nodup&&sn.all (fun y=>(y.2 != .local||sn.lookup y.1==some .local)&&(y.2 != .free||(on.lookup y.1==some .cell||on.lookup y.1==some .free)))&&fr.length==js.length
  && (fr.zip js).all fun p=>sn.lookup p.1==some .free&&N[p.2]? ==some p.1
structure BlkOkC(sn on:List (Str×NameKind))(N:List Str)(x:Str)(fr:List Str)(js:List Nat):Prop where
 one:(sn.filter fun y=>y.2==.cell)=[(x,.cell)]
 lk:sn.lookup x=some .cell
 nd:([x]++fr).Nodup
 loc:∀y∈sn,y.2=NameKind.local->sn.lookup y.1=some .local
 free:∀y∈sn,y.2=NameKind.free->on.lookup y.1=some .cell\/on.lookup y.1=some .free
 len:fr.length=js.length
 fr:∀(k:Nat) (x:Str),fr[k]? =some x->sn.lookup x=some .free/\∃j:Nat,js[k]? =some j/\N[j]? =some x
theorem BlkOkC.is{sn on:List (Str×NameKind)}{N:List Str}{x:Str}{fr:List Str}{js:List Nat}(B:BlkOkC sn on N x fr js){y:Str×NameKind}(h:y∈sn)(e:y.2=.cell):y.1=x:=by
 have:y∈sn.filter fun y=>y.2==.cell:=jn.mpr ⟨h,by rw[e];rfl⟩
 rw[B.one,qo] at this
 rw[this]
theorem J2{sn on:List (Str×NameKind)}{N:List Str}{x:Str}{fr:List Str}{js:List Nat}(h:XN sn on N x fr js=true):BlkOkC sn on N x fr js:=by
 unfold XN at h
 simp only[jG,xF,xT,decide_eq_true_eq] at h
 obtain⟨⟨⟨⟨⟨h0,h1⟩,hn⟩,h2⟩,h3⟩,h4⟩:=h
 refine⟨h0,h1,hn,fun y hy e=>?_,fun y hy e=>?_,h3,fun k x e=>?_⟩
 ·have:=(h2 y hy).1
  simp only[Q0,bne_iff_ne,xT] at this
  exact this.resolve_left fun z=>z e
 ·have:=(h2 y hy).2
  simp only[Q0,bne_iff_ne,xT] at this
  exact this.resolve_left fun z=>z e
 ·have hk:k<fr.length:=(zW.mp e).1
  have hj:k<js.length:=by omega
  have hm:(x,js[k])∈fr.zip js:=by
   refine qU (i:=k) ?_
   rw[YA]
   exact⟨e,by simp[hj]⟩
  have:=h4 _ hm
  exact⟨this.1,js[k],by simp[hj],this.2⟩
theorem QK:∀{names:List (Str×NameKind)} (n:Nat) (acc:List (Str×Addr)) (h:Heap),(names.filter fun y=>y.2==.cell)=[]->cellsFrom n names acc=acc/\pushCells h names=h
 | [],_,_,_,_=>⟨rfl,rfl⟩
 | (a,k)::r,n,acc,h,e=>by
  by_cases q:(k==NameKind.cell)=true
  ·rw[ZK,zH (show((a,k).2==NameKind.cell)=true from q)] at e
   cases e
  ·rw[ZK,zx (show ¬((a,k).2==NameKind.cell)=true from q)] at e
   unfold cellsFrom pushCells
   rw[zx q,zx q]
   exact QK n acc h e
theorem JX{x:Str}:∀{names:List (Str×NameKind)} (n:Nat) (acc:List (Str×Addr)) (h:Heap),(names.filter fun y=>y.2==.cell)=[(x,.cell)]->cellsFrom n names acc=(x,n)::acc/\pushCells h names=h.push { cls:=.type "cell",data:=.cell none }
 | [],_,_,_,e=>by cases e
 | (a,k)::r,n,acc,h,e=>by
  by_cases q:(k==NameKind.cell)=true
  ·rw[ZK,zH (show((a,k).2==NameKind.cell)=true from q)] at e
   injection e with e1 e2
   cases e1
   unfold cellsFrom pushCells
   rw[zH q,zH q]
   exact QK _ _ _ e2
  ·rw[ZK,zx (show ¬((a,k).2==NameKind.cell)=true from q)] at e
   unfold cellsFrom pushCells
   rw[zx q,zx q]
   exact JX n acc h e
theorem WQ{M:Model}{A:Around}{E:Value->Shared->Prop}{s:Shared}{scope:Scope}{globals:Addr}{cl:List (Str×Addr)}{qual:Str}{env:Env}{x:Str}{Q:Env->Shared->Prop}(one:(scope.names.filter fun y=>y.2==.cell)=[(x,.cell)])
  (hQ:Q { scope:=scope,locals:=s.heap.objs.size,globals:=globals,cells:=(x,s.heap.objs.size+1)::cl,qual:=qual,func:=none,code:=env.code,frame:=env.frame,builtins:=env.builtins } { s with heap:=(s.heap.push { cls:=.type "dict",data:=.dict #[] }).push { cls:=.type "cell",data:=.cell none } }) :
  wpAny M A (newFunctionEnv scope globals cl [] qual none .none (some env)) Q E s:=by
 simp only[newFunctionEnv,Option.isSome_some,if_true]
 refine zr (wpAny_alloc (zr (wpAny_layCells _ (fun name kind cells=>by cases hkc:kind==NameKind.cell<;>simp[hkc]) _ _ _ _ ?_)))
 obtain⟨e1,e2⟩:=JX (names:=scope.names) (x:=x) (s.heap.push { cls:=.type "dict",data:=.dict #[] }).objs.size cl (s.heap.push { cls:=.type "dict",data:=.dict #[] }) one
 rw[e1,e2,xh]
 exact zr (zD (zD hQ))
theorem yg{env:Env}{x:Str}:∀{names:List (Str×NameKind)},names.lookup x=some .cell->(names.map fun(n,k)=>if(k==NameKind.free&&env.scope.kind==.function&&env.kindOf n==some .cell) then(n,NameKind.cell) else(n,k)).lookup x=some .cell
 | [],h=>by simp at h
 | (n,k)::r,h=>by
  show List.lookup x ((if(k==NameKind.free&&env.scope.kind==.function&&env.kindOf n==some .cell)=true then(n,NameKind.cell) else(n,k))::_)=some NameKind.cell
  by_cases hx:(x==n)=true
  ·rw[jQ,hx] at h
   cases(jT h)
   split<;>simp[jQ,hx]
  ·have hx':(x==n)=false:=by simpa using hx
   rw[jQ,hx'] at h
   split
   ·rw[jQ,hx'];exact yg h
   ·rw[jQ,hx'];exact yg h
section
variable{X:Cx}{elt tg iter:Expr}{ifs:List Expr}{scope:Scope}{pos:Pos}{wi:TI}{g:TG}{tf:TT}{te:TE}{x:Str}
theorem W8{pins:List (Addr×Obj)}{σ:St}{H:Hp}{s:Shared}{fp:List Addr}(fr:List Str)(js:List Nat)(I:Inv X pins σ H s)(B:BlkOkC scope.names X.env.scope.names X.N x fr js)(hk:scope.kind=.function)
  (f2:∀b∈fp,vm X pins H b) (fl:∀b∈fp,b<s.heap.objs.size) {D C:Addr} (hD:D=s.heap.objs.size) {h3 h1:Heap} (e3:h3=s.heap.push { cls:=.type "list",dict:=none,data:=.seq ([]:List Value).toArray }) (hC:C=h3.objs.size)
  {m:Str->Option Value} (hns:h1.Ns C m) (hcell:h1.IsCell (C+1) none) (k4:∀b o,h3.get? b=some o->h1.get? b=some o) {t4:Nat} :
  Inv (j3 X ([x]++fr) scope x C { s with heap:=h3 } H (D::fp)) [] (upS 1 js σ) H { s with heap:=h1,toks:=t4 }:=by
 have k3:∀b o,s.heap.get? b=some o->h3.get? b=some o:=fun b o e=>by rw[e3];exact qx _ e
 have I3:Inv X pins σ H { s with heap:=h3 }:=I.kept (t':=s.toks) k3
 have hz:h3.objs.size=s.heap.objs.size+1:=by rw[e3,xh]
 have hasF:∀y∈scope.names,y.2=NameKind.free->∃c,X.env.cells.lookup y.1=some c:=fun y hy e=>I.ok.has y.1 (B.free y hy e)
 have cellLt:∀x c,X.env.cells.lookup x=some c->c<s.heap.objs.size:=fun x c e=>by
  obtain⟨v,q⟩:=I.cell x c e
  exact q.lt
 have clt:∀y c,(jF X.env.cells scope.names []).lookup y=some c->c<C:=fun y c e=>by
  have:=cellLt y c (qN e hasF)
  rw[hC,hz];exact yX this
 have look:∀y c,((x,C+1)::jF X.env.cells scope.names []).lookup y=some c->(y=x/\c=C+1)\/(y≠x/\(jF X.env.cells scope.names []).lookup y=some c):=fun y c e=>by
  rw[jQ] at e
  by_cases q:(y==x)=true
  ·rw[q] at e
   exact .inl ⟨by simpa using q,(jT e).symm⟩
  ·rw[(Zw _).mp q] at e
   exact .inr ⟨fun z=>q (by simpa using z),e⟩
 refine⟨⟨I.ok.mod,hk,I.ok.glob,I.ok.blt,yn hC.symm,fun y1 y2 c e1 e2=>?_,fun y hy=>?_,fun y c hf e=>?_,fun hc=>I.ok.hd hc,I.ok.frames,.inl rfl,fun b hb=>?_,I3.bs,ja I.ok.bsz I3.sz,fun b o e hb=>?_,fun b hb hf=>?_,I3.stack,I3.stkFree⟩,
  rfl,I.bare,Un.kept k4,⟨m,hns,fun i y v e1 e2 e3'=>?_⟩,fun y c e=>?_,?_,fun y c e=>?_,fun p hp=>absurd (show p∈([]:List (Addr×Obj)) from hp) (by simp),I3.hok.kept k4,?_⟩
 ·rcases look _ _ e1 with ⟨a1,a2⟩ | ⟨a1,a2⟩<;>rcases look _ _ e2 with ⟨b1,b2⟩ | ⟨b1,b2⟩
  ·rw[a1,b1]
  ·have:=clt _ _ b2
   rw[a2] at this
   exact absurd this (Nat.not_lt.mpr (wC _))
  ·have:=clt _ _ a2
   rw[b2] at this
   exact absurd this (Nat.not_lt.mpr (wC _))
  ·exact I.ok.inj _ _ c (qN a2 hasF) (qN b2 hasF)
 ·by_cases q:y=x
  ·subst q
   exact⟨C+1,by show List.lookup y ((y,C+1)::_)=_;simp[jQ]⟩
  obtain⟨k,e,z⟩:∃k,scope.names.lookup y=some k/\(k=.free):=by
   rcases hy with hx | hx
   ·obtain⟨k,e,z⟩:=we hx
    rcases z with z | z
    ·subst z;exact absurd (B.is (ya e) rfl) q
    ·exact⟨k,e,z.1⟩
   ·obtain⟨k,e,z⟩:=we hx
    rcases z with z | z
    ·subst z;exact⟨_,e,rfl⟩
    ·exact⟨k,e,z.1⟩
  subst z
  refine⟨(X.env.cells.lookup y).getD 0,?_⟩
  show List.lookup y ((x,C+1)::_)=_
  rw[jQ,show(y==x)=false from by simpa using q]
  exact wP e
 ·rcases look _ _ e with ⟨a1,a2⟩ | ⟨a1,a2⟩
  ·rw[a2]
   show h3.objs.size<=C+1
   rw[hC];exact wC _
  ·exact absurd (by simpa using hf) a1
 ·have ncell:∀b,b<C->∀y c,((x,C+1)::jF X.env.cells scope.names []).lookup y=some c->(∀y c,X.env.cells.lookup y=some c->c≠b)->c≠b:=fun b hb y c e h=>by
   rcases look _ _ e with ⟨a1,a2⟩ | ⟨a1,a2⟩
   ·rw[a2];exact vc (yX hb)
   ·exact h y c (qN a2 hasF)
  rcases zZ.mp hb with z | hb
  ·subst z
   refine⟨by rw[hD,hC,hz];exact qm (ZM _),fun y c e=>ncell _ (by rw[hD,hC,hz];exact ZM _) y c e fun y c e=>?_⟩
   have:=cellLt y c e
   rw[hD];exact qm this
  ·have hlt:b<C:=by rw[hC,hz];exact yX (fl b hb)
   exact⟨qm hlt,fun y c e=>ncell _ hlt y c e fun y c e=>(f2 b hb).2.2.2.2.1 y c e⟩
 ·rcases zZ.mp hb with z | hb
  ·have:=zR (I.bk b o e)
   rw[z,hD] at this
   exact vv _ this
  ·rcases(f2 b hb).2.2.2.1 with z | z
   ·exact I.ok.noex b o e z
   ·exact absurd (j9 (zR (I.ok.bs b o e).1) z) (vv _)
 ·have hf':=zZ.mp (I.stkSub b hf)
  rcases zZ.mp hb with z | hb
  ·rcases hf' with y | y
   ·have:=I.lt
    rw[<- y,z,hD] at this
    exact vv _ this
   ·exact I.nofs (a:=b) (by rw[z,hD];exact zJ _) y
  ·rcases hf' with y | y
   ·exact(f2 b hb).2.1 y
   ·exact(f2 b hb).2.2.1 y
 ·obtain⟨hn,_,j,ej,es⟩:=yy e2
  have ex:fr[i-1]? =some y:=by
   rw[wA (show([x]:List Str).length<=i from hn)] at e1
   exact e1
  obtain⟨hfx,j',ej',eN⟩:=B.fr _ y ex
  have:j'=j:=by rw[ej] at ej';exact(jT ej').symm
  subst this
  have hkx:=B.free _ (ya hfx) rfl
  obtain⟨m0,_,hl⟩:=I.loc
  obtain⟨u,r,l⟩:=hl j' y v eN es (by rcases hkx with z | z;exact .inr (.inl z);exact .inr (.inr z))
  refine⟨u,r,.inr ?_⟩
  have yx:y≠x:=fun z=>by
   have:=B.lk
   rw[<- z,hfx] at this
   cases this
  rcases l with ⟨kl,_⟩ | ⟨_,c,ec,o,eo,ed⟩
  ·have kl':X.env.scope.names.lookup y=some .local:=kl
   rcases hkx with z | z
   ·exact absurd (z.symm.trans kl') (by decide)
   ·exact absurd (z.symm.trans kl') (by decide)
  ·obtain⟨k',e',z⟩:=yf (env:=X.env) hfx
   have eq:((x,C+1)::jF X.env.cells scope.names []).lookup y=some c:=by
    rw[jQ,show(y==x)=false from by simpa using yx]
    show(jF X.env.cells scope.names []).lookup y=some c
    rw[wP hfx,ec];rfl
   refine⟨?_,c,eq,o,k4 c o (k3 c o eo),ed⟩
   rcases z with z | z
   ·subst z;exact .inl e'
   ·subst z;exact .inr e'
 ·rcases look _ _ e with ⟨a1,a2⟩ | ⟨a1,a2⟩
  ·rw[a2];exact⟨none,hcell⟩
  ·obtain⟨v,o,eo,ed⟩:=I.cell y c (qN a2 hasF)
   exact⟨v,o,k4 c o (k3 c o eo),ed⟩
 ·exact I3.hok.fresh (yn hC.symm)
 ·rcases look _ _ e with ⟨a1,a2⟩ | ⟨a1,a2⟩
  ·rw[a2]
   exact I3.hok.fresh (by show h3.objs.size<=C+1;rw[hC];exact wC _)
  ·exact I.freeC y c (qN a2 hasF)
 ·rw[YI,<- B.len]
  show _=([x]++fr).length
  rw[zV];rfl
end
end L2
namespace L2
end L2
namespace L2
open PySem PySem.W PySem.Spec PyProof.Rows
abbrev bmV:List Value:=[.type "ValueError",.type "Exception",.type "BaseException",.type "object"]
def zh8(K:Frag)(C:Addr)(ini:Option Value):Bool:=match K.lookup C with
 | some ⟨.type "type",_,.cls cd,sl⟩=>(match cd.mro with
  | .ref C'::bm=>(match sl.toList with
   | [_,_,_,_,some (.builtin n),_]=>C'==C&&(n == "ValueError.__new__" && (!cd.hasDel&&(tailIn K bmV bm&&(nsOkIn K cd.ns&&nsIn K cd.ns "__init__" == some ini))))
   | _=>false)
  | _=>false)
 | _=>false
structure Xc(h:Heap)(C:Addr)(ini:Option Value):Prop where
 is:∃(bm:List Value) (N:Addr) (nm qn:Str) (bs:List Value) (hd:Bool) (sn:List Str) (sub:List Value) (ab:Bool) (col:Option Bool) (dd:Option Addr) (k0 k1 k2 k3 k5:Option Value) (mN:Str->Option Value),
  h.get? C=some (excClassObj nm qn C N bs bm hd sn sub ab col dd k0 k1 k2 k3 k5 "ValueError.__new__")/\h.Ns N mN/\mN "__init__" = ini/\OwnTail h bmV bm
end L2
namespace L2
open PySem PySem.W PySem.Spec PyProof.Rows
section
variable{P:Program}{w:World}{H:Hp}{h h':Heap}{a:Addr}{o:HO}
theorem ObjOk.has(x:ObjOk P w H h a o):∃u,h.get? a=some u:=by
 cases o with
 | lst xs=>obtain⟨_,_,_,_,e⟩:=x;exact⟨_,e⟩
 | tup xs=>obtain⟨_,_,_,⟨u,e,_⟩,_⟩:=x;exact⟨u,e⟩
 | dK kvs=>obtain⟨_,_,_,_,u,_,_,e,_⟩:=x;exact⟨u,e⟩
 | dT kvs=>obtain⟨_,_,_,_,u,_,_,e,_⟩:=x;exact⟨u,e⟩
 | set S n=>obtain⟨u,_,_,_,e,_⟩:=x;exact⟨u,e⟩
 | ins C dx fs=>obtain⟨_,_,_,e,_⟩:=x;exact⟨_,e⟩
 | own y=>obtain⟨u,e⟩:=x;exact⟨u,e⟩
 | xd fs=>obtain⟨_,⟨u,_,_,e,_⟩,_⟩:=x;exact⟨u,e⟩
 | rng lo hi=>obtain⟨_,_,_,e⟩:=x;exact⟨_,e⟩
 | frz ob u=>obtain⟨e,_⟩:=x;exact⟨_,e⟩
 | tbl ps=>exact⟨_,show h.get? a=some _ from x⟩
 | met f y=>exact⟨_,show h.get? a=some _ from x⟩
 | ext φ=>obtain⟨_,⟨u,e⟩,_⟩:=x;exact⟨u,e⟩
theorem HOk.none_of(x:HOk P w H h)(e:h.get? a=none):H a=none:=by
 cases q:H a with
 | none=>rfl
 | some u=>obtain⟨z,ez⟩:=(x a u q).has;rw[e] at ez;cases ez
end
section
variable{X:Cx}{pins:List (Addr×Obj)}{σ:St}{H:Hp}{s:Shared}{h':Heap}
theorem Inv.laidN{a:Addr}{o:HO}{t':Nat}(I:Inv X pins σ H s)(k:∀b u,s.heap.get? b=some u->h'.get? b=some u)(hn:s.heap.get? a=none)(new:ObjOk X.prog X.w (upd H a o) h' a o) :
  Inv X pins σ (upd H a o) { s with heap:=h',toks:=t' }:=by
 have hH:=I.hok.none_of hn
 have ne:∀b u,s.heap.get? b=some u->b≠a:=fun b u q z=>by rw[z,hn] at q;cases q
 have neH:∀b u,H b=some u->b≠a:=fun b u q z=>by rw[z,hH] at q;cases q
 refine I.un ⟨fun b u q _ _ _=>k b u q,fun b u q _ _ _=>⟨u.slots,k b u q⟩,fun b u q n _=>by rw[zi (ne b u q)];exact n,fun b u q _=>⟨u,k b u q⟩,
  fun b xs q=>by rw[zi (neH b _ q)];exact q,fun b u xs q=>by rw[zi (neH b _ q)];exact q,fun b ps q=>⟨#[],by rw[zi (neH b _ q),q];simp⟩⟩ ?_
 intro b u e
 by_cases hb:b=a
 ·subst hb;rw[zb] at e;cases e;exact new
 ·rw[zi hb] at e
  exact(I.hok b u e).stay (fun c v _ q=>k c v q) (fun c q=>by rw[zi (neH c _ q)];exact q) fun c xs q=>by rw[zi (neH c _ q)];exact q
end
section
variable{prog:Program}{w:World}{A:Around}{E:Value->Shared->Prop}{h:Heap}{g:Array GenState}{d:Drawn}{t:Nat}{os:OsState}{C:Addr}
end
section
variable{prog:Program}{w:World}{A:Around}{E:Value->Shared->Prop}{h:Heap}{g:Array GenState}{d:Drawn}{t:Nat}{os:OsState}
variable{nm q:Str}{C N:Addr}{bs bm:List Value}{hdct:Bool}{sn:List Str}{sub:List Value}{ab:Bool}{col:Option Bool}{dd:Option Addr}{k0 k1 k2 k3 k5:Option Value}
end
end L2
namespace L2
open PySem PySem.W PySem.Spec PyProof.Rows
structure XK2(K:Frag)(C:Addr)(ini:Option Value):Prop where
 cls:zh8 K C ini=true
 sa:findIn K (.ref C) "__setattr__" = some (some (.builtin "object.__setattr__"))
 ga:findIn K (.ref C) "__getattribute__" = some (some (.builtin "BaseException.__getattribute__"))
 gh:findIn K (.ref C) "__getattr__" = some none
 ob:mroIn K C (.type "object")=some true
 be:mroIn K C (.type "BaseException")=some true
 hd:hasDictIn K C=true
section
variable{prog:Program}{w:World}{A:Around}{E:Value->Shared->Prop}{h:Heap}{g:Array GenState}{d:Drawn}{t:Nat}{os:OsState}{K:Frag}{C e t0:Addr}{ini:Option Value}{f:Str}{v:Value}
end
end L2
namespace L2
open PySem PySem.W PySem.Spec PyProof.Rows
section
variable{prog:Program}{w:World}{A:Around}{E:Value->Shared->Prop}{h:Heap}{g:Array GenState}{d:Drawn}{t:Nat}{os:OsState}{K:Frag}{C e t0 dx:Addr}{od:Option Addr}{ini:Option Value}{f:Str}{v:Value}{mA:Str->Option Value}
end
end L2
namespace L2
open PySem PySem.W PySem.Spec PyProof.Rows
structure XKc(K:Frag)(C:Addr):Prop where
 lk:findIn K (.ref C) "__class__" = some (some (.builtin "object.__class__"))
 gt:specialIn K (.builtin "object.__class__") "__get__" = some (some (.builtin "getset_descriptor.__get__"))
 tk:takesIn K (.builtin "object.__class__")=some true
section
variable{prog:Program}{w:World}{A:Around}{E:Value->Shared->Prop}{h:Heap}{g:Array GenState}{d:Drawn}{t:Nat}{os:OsState}{K:Frag}{C C' e t0:Addr}{dx:Option Addr}{ini:Option Value}{od:Option Obj}
end
end L2
namespace L2
open PySem PySem.W PySem.Spec PyProof.Rows
structure XOk(K:Frag)(C:Addr)(ini:Option Value):Prop where
 k:XK2 K C ini
 c:XKc K C
 kp:keepIn K (.ref C)=true
 ty:typeIn K (.ref C)=some (.type "type")
 cd:∃cd,clsIn K C=some cd
 ve:mroIn K C (.type "ValueError")=some true
section
variable{X:Cx}{CX:CXT}{k:Nat}{f C:Addr}{fd:FuncData}{ps:List Str}{ds:List Value}{dvs:List V}{sp:Sp}{E:XK}{x m:Str}{p pos apos:Pos}{e o value:Expr}{es:List Expr}{t:TA}{ta tv:TE}{ini:Option Value}
end
end L2
namespace L2
open PySem PySem.W PySem.Spec PyProof.Rows
section
variable{X:Cx}
end
structure Xs(K:Frag)(mg:Str->Option Value)(x:Str)(C:Addr)(ini:Option Value):Prop where
 ok:XOk K C ini
 gl:mg x=some (.ref C)
structure XsI(P:Program)(w:World)(K:Frag)(mg:Str->Option Value)(base:Heap)(x:Str)(C f:Addr)(k:Nat)(ps:List Str)(sp:Sp):Prop extends Xs K mg x C (some (.ref f)) where
 ex:∃fd oF,qH P w K mg base CX0 k f fd ps sp/\K.lookup f=some oF/\oF.cls=.type "function" /\ Binds K fd ps []
section
variable{X:Cx}{x:Str}{k:Nat}{C f:Addr}{ps:List Str}{sp:Sp}{p pos:Pos}{e:Expr}{es:List Expr}{t:TA}
end
end L2
namespace L2
open PySem PySem.Spec PyProof.Rows
theorem Qf:∀{us:List Value} {ns:List Int},IntsAre us ns->Vals (ns.map V.int) us
 | _,_,.nil=>.nil
 | _,_,.cons n t r=>.cons ⟨t,rfl⟩ (Qf r)
section
variable{X:Cx}
inductive wE(K:PySem.W.Frag)(xs:List V)(H:Hp)(Q:VK):Prop
 | mk (a:Addr) (ns:List Int) (_:xs=[.ref a]) (_:SqL K H a (ns.map V.int)) (_:ns.length<64) (_:∀(p:Addr) (ms:List Int),H p=none->ms.Perm ns->ms.Pairwise (·<= ·)->Q (.ref p) (upd H p (.lst (ms.map V.int)))):wE K xs H Q
theorem xC:CallR X (.builtin "sorted") (wE X.K):=by
 intro pins s σ H xs us Q I r h
 obtain⟨a,ns,rfl,hx,hl,q⟩:=h
 obtain⟨u,rfl,ru⟩:=Vals.one r
 cases(show u=Value.ref a from ru)
 obtain⟨its,r',pl,hz⟩:=I.list hx
 have len:=r'.length
 rw[zq] at len
 refine sorted_ints pl.isList (W0 r') (by omega) fun out ms a1 a2 a3=>?_
 obtain⟨e,he⟩:=sortedAll_at s.heap its out
 have hn:H (s.heap.objs.size+1)=none:=I.hok.fresh (wC _)
 refine⟨.ref (s.heap.objs.size+1),_,I.laid (a:=s.heap.objs.size+1) (o:=.lst (ms.map V.int)) (t':=s.toks) (fun _ _=>sortedAll_old) (wC _) ⟨?_,out.toList,e,Qf a1,?_⟩,rfl,q _ ms hn a2 a3⟩
 ·rw[zq,a2.length_eq,sizeLine_eq];omega
 ·rw[he]
end
section
variable{prog:Program}{w:World}{κ:Type}[DecidableEq κ]{knd:PySem.KeyKind prog w κ}{A:Around}{E:Value->Shared->Prop}{s:Shared}
theorem zcq{d:Addr}{kvs:List (κ×Value)}{k:κ}{key dflt:Value}{Q:Value->Shared->Prop}(hkey:knd.is k key=true)(hm:s.heap.DictOf knd d kvs)(hsz:kvs.length<=sizeLine)
  (hthere:∀v,valueAt kvs k=some v->Q v { s with toks:=s.toks+1 })
  (hnew:valueAt kvs k=none->∀h',h'.DictOf knd d (stored kvs k dflt)->Heap.SameBut d s.heap h'->Q dflt { s with heap:=h',toks:=s.toks+1 }) :
  wpAny (model prog w) A (dictSetDefault d key dflt) Q E s:=by
 obtain⟨o,es,ep,ho,hc,hd,hk,hp,hn⟩:=id hm
 obtain⟨o',es',ep',ho',-,hd',-,hf⟩:=hm.mapOf
 rw[ho] at ho'
 injection ho' with ho'
 subst ho'
 rw[hd] at hd'
 injection hd' with hd1 hd2
 subst hd1
 have hes:es.size<=sizeLine:=by
  have e1:=hp.length
  have e2:es.toList.length=es.size:=by simp
  omega
 have at_:(es.findIdx? fun en=>knd.is k en.key)=kvs.findIdx? fun p=>decide (p.1=k):=by
  obtain⟨l⟩:=es
  rw[<- hp.findIdx k]
  simp
 unfold dictSetDefault
 refine w6 (zr (knd.pyHash hkey (zr (wpAny_dictFind_of (s:={ s with toks:=s.toks+1 }) hkey ho hd hk ?_))))
 cases hi:es.findIdx? fun en=>knd.is k en.key with
 | some i=>
  have hlt:i<es.size:=(Array.findIdx?_eq_some_iff_findIdx_eq.mp hi).1
  have hfk:valueAt kvs k=(es[i]?).map (·.val):=by rw[<- hf k,findBy_of_findIdx?,hi]
  rw[Ve hlt] at hfk
  refine zr (wpAny_dictEntries (s:={ s with toks:=s.toks+1 }) ho hd ?_)
  rw[Ve hlt]
  exact zr (vW (zD (hthere _ hfk)))
 | none=>
  have fresh:k∉kvs.map (·.1):=not_mem_of_findIdx_none (at_▸hi)
  have hany:¬(kvs.any fun kv=>decide (kv.1=k))=true:=fun z=>by
   obtain⟨kv,h1,h2⟩:=vP.mp z
   exact fresh (qB.mpr ⟨kv,h1,qZ h2⟩)
  have hfk:valueAt kvs k=none:=by rw[<- hf k,findBy_of_findIdx?,hi]
  have est:stored kvs k dflt=kvs++[(k,dflt)]:=by rw[stored,zx hany]
  refine zr (vW (zr (wpAny_updateDictKeys (s:={ s with toks:=s.toks+1 }) (hz:=hes) ho hd (zD (hnew hfk _ ?_ (Q6 ..))))))
  rw[est]
  refine⟨_,_,ep+1,QU _ ho (Obj.isFreed_of_dict (Obj.data_mapDictKeys hd _)),hc.mapDictKeys _,Obj.data_mapDictKeys hd _,hk.push hkey _,?_,?_⟩
  ·have z:=hp.append hkey (knd.hash k) dflt
   obtain⟨l⟩:=es
   simpa using z
  ·rw[zX,List.nodup_append]
   refine⟨hn,by simp,fun a ha b hb z=>fresh ?_⟩
   rw[show List.map (·.1) [(k,dflt)]=[k] from rfl,qo] at hb
   rw[<- hb,<- z]
   exact ha
end
section
variable{prog:Program}{w:World}{κ:Type}[DecidableEq κ]{knd:PySem.KeyKind prog w κ}
theorem zdd{d:Addr}{k:κ}{key x:Value}(hkey:knd.is k key=true)(hs:(d==sysModules)=false) :
  MeetsIn prog w (Builtin.«dict.setdefault» ⟨[.ref d,key,x],[]⟩) (fun _ R s=>∃kvs,s.heap.DictOf knd d kvs/\kvs.length<=sizeLine/\(∀v,valueAt kvs k=some v->R (.ok (.ret v)) { s with toks:=s.toks+1 }) /\
   (valueAt kvs k=none->∀h',h'.DictOf knd d (stored kvs k x)->Heap.SameBut d s.heap h'->R (.ok (.ret x)) { s with heap:=h',toks:=s.toks+1 })):=
 .of_wp fun A R s ⟨kvs,hm,hz,h1,h2⟩=>by
  delta Builtin.«dict.setdefault» Builtin.Dict.keyAndDefault
  refine zr (zr (wpAny_notOrdered_dict hm.typeIs (zD (a:=(d,key,some x)) ?_)))
  have off:¬(d==sysModules)=true:=by rw[hs];exact qC
  refine(show wpAny _ _ (if(d==sysModules)=true then _ else(dictSetDefault d key x >>= _)) _ _ _ from ?_)
  rw[zx off]
  exact zr (zcq hkey hm hz (fun v hv=>zD ⟨v,rfl,h1 v hv⟩) fun hn h' hm' hs'=>zD ⟨x,rfl,h2 hn h' hm' hs'⟩)
end
section
variable{X:Cx}{td ty tx:TE}{o e f:Expr}{apos cpos:Pos}
def zii(td ty tx:TE):TE:=fun σ H Q=>td σ H fun x H1=>∃a,x=.ref a/\IsD H1 a/\ty σ H1 fun y H2=>tx σ H2 fun z H3=>∃kvs k,H3 a=some (.dK kvs)/\y=kV k/\kvs.length<sizeLine /\
 (∀v,jq kvs k=some v->Q v H3)/\(jq kvs k=none->Q z (upd H3 a (.dK (xG kvs k z))))
theorem zge(ho:PE X o td)(he:PE X e ty)(hf:PE X f tx)(m:M2 X o "setdefault" apos e f cpos):PE X (.Call (.Attribute o "setdefault" apos) [e,f] [] cpos) (zii td ty tx):=by
 intro pins s σ H Q I h
 refine wpAny_Call_method m.base m.few m.line Yv zdQ PySem.F.type_dict_setdefault (thn (ho pins s σ H _ I h) fun u s1 ⟨x,H1,I1,rx,a,ex,d,q1⟩=>?_)
 subst ex
 obtain rfl:u=Value.ref a:=rx
 obtain⟨t1,t2,_⟩:=WZ I1 d
 refine⟨t1,t2,?_⟩
 rw[m.trees]
 refine Wr rfl (Va (QT (thn (he pins s1 σ H1 _ I1 q1) fun iv s2 ⟨y,H2,I2,ry,q2⟩=>
  QT (thn (hf pins s2 σ H2 _ I2 q2) fun fv s3 ⟨z,H3,I3,rz,kvs,k,ea,ey,l,g1,g2⟩=>Q4 ?_))))
 subst ey
 obtain⟨zz,hd,vs,rel,dd⟩:=Wc I3.hok ea
 have hz:vs.length<=sizeLine:=by rw[<- rel.length];exact zz
 refine call_meetsIn zdQ dd.typeIs PySem.F.entry_dict_setdefault (PySem.F.args_dict_setdefault_3 _ _ _) (zdd (knd:=qh X.prog X.w) (wU ry) hd) ⟨vs,dd,hz,fun v hv=>?_,fun hn h' dd' hs=>?_⟩
 ·have rv:=rel.val k
  rw[hv] at rv
  cases ev:jq kvs k with
  | none=>rw[ev] at rv;exact rv.elim
  | some v'=>
   rw[ev] at rv
   exact⟨v',H3,I3.tok _,rv,g1 v' ev⟩
 ·have rv:=rel.val k
  rw[hn] at rv
  have ev:jq kvs k=none:=by
   cases ev:jq kvs k with
   | none=>rfl
   | some v'=>rw[ev] at rv;exact rv.elim
  have hl:(xG kvs k z).length<=sizeLine:=by have:=xR kvs k z;omega
  have ee:∃q,h'.get? a=some q:=let ⟨q,_,_,hq,_⟩:=dd';⟨q,hq⟩
  exact⟨z,_,yP I3 (by rw[ea];exact True.intro) hs ee (QI hl hd (rel.put k rz) dd'),rz,g2 ev⟩
end
theorem zdl{P:Program}{w:World}{k:Key}{u:Value}(h:(qh P w).is k u=true):RelV (kV k) u:=by
 rw[WT] at h
 rcases jf h with ⟨i,t,rfl,rfl⟩ | ⟨x,t,rfl,rfl⟩
 ·exact⟨t,rfl⟩
 ·exact⟨t,rfl⟩
theorem KV.get:∀{kvs:List (Key×V)} {vs:List (Key×Value)} {j:Nat} {q:Key×Value},KV kvs vs->vs[j]? =some q->∃p,kvs[j]? =some p/\p.1=q.1/\RelV p.2 q.2
 | _,_,j,_,.nil,e=>by simp at e
 | _,_,0,_,.cons h _,e=>by simp at e;subst e;exact⟨_,rfl,h⟩
 | _,_,j+1,_,.cons _ t,e=>by
  obtain⟨p,e1,r⟩:=KV.get (j:=j) t (by simpa using e)
  exact⟨p,by simpa using e1,r⟩
theorem YH:∀{xs:List V} {us:List Value},xs.length=us.length->(∀(j:Nat) u,us[j]? =some u->∃x,xs[j]? =some x/\RelV x u)->Vals xs us
 | [],[],_,_=>.nil
 | [],_::_,h,_=>by simp at h
 | _::_,[],h,_=>by simp at h
 | x::xs,u::us,h,f=>by
  refine .cons ?_ (YH (by simpa using h) fun j v e=>?_)
  ·obtain⟨y,e1,r⟩:=f 0 u rfl
   cases e1
   exact r
  ·obtain⟨y,e1,r⟩:=f (j+1) v (by simpa using e)
   exact⟨y,by simpa using e1,r⟩
section
variable{X:Cx}
inductive yc(xs:List V)(H:Hp)(Q:VK):Prop
 | mk (a:Addr) (kvs:List (Key×V)) (_:xs=[.ref a]) (_:Rd H a (.dK kvs)) (_:∀p,H p=none->Q (.ref p) (upd H p (.lst (kvs.map fun kv=>kV kv.1)))):yc xs H Q
theorem Wl(hh:X.A.handled=none):CallR X (.type "list") (yc):=by
 intro pins s σ H xs us Q I r h
 obtain⟨a,kvs,rfl,hx,q⟩:=h
 obtain⟨u,rfl,ru⟩:=Vals.one r
 cases(show u=Value.ref a from ru)
 obtain⟨zz,hd,vs,rel,dd⟩:=ZF I.hok hx
 obtain⟨ep,da⟩:=dd.dictAt
 have ln:=rel.length
 refine PySem.W.kdl_call (PySem.W.kdl_dict (prog:=X.prog) (w:=X.w) (knd:=qh X.prog X.w) (d:=a) (kvs:=vs) (ep:=ep) hd) hh da (by omega) fun h' tk acc c keep at_ its=>?_
 have hn:H s.heap.objs.size=none:=I.hok.fresh (zJ _)
 refine⟨.ref s.heap.objs.size,_,I.laid (a:=s.heap.objs.size) (o:=.lst (kvs.map fun kv=>kV kv.1)) (t':=tk) keep (zJ _) ⟨by rw[zq];exact zz,acc.toList,c,YH ?_ ?_,by rw[at_]⟩,rfl,q _ hn⟩
 ·have z:=its.1
  have y:acc.toList.length=acc.size:=J9
  rw[zq]
  omega
 ·intro j u e
  rw[Yr] at e
  obtain⟨k,x,e1,e2⟩:=its.2 j u e
  obtain⟨p,e3,e4,_⟩:=KV.get rel e1
  exact⟨kV p.1,by rw[qr,e3];rfl,by rw[e4];exact zdl e2⟩
end
section
variable{X:Cx}{td ty:TE}{o e:Expr}{apos cpos:Pos}
def zg9(td ty:TE):TE:=fun σ H Q=>td σ H fun x H1=>∃a,x=.ref a/\IsD H1 a/\ty σ H1 fun y H2=>∃b kvs more,y=.ref b/\a≠b/\H2 a=some (.dK kvs)/\H2 b=some (.dK more)/\kvs.length+more.length<=sizeLine/\Q .non (upd H2 a (.dK (jE kvs more)))
theorem zaw(ho:PE X o td)(he:PE X e ty)(m:M1 X o "update" apos e cpos):PE X (.Call (.Attribute o "update" apos) [e] [] cpos) (zg9 td ty):=by
 intro pins s σ H Q I h
 refine wpAny_Call_method m.base m.few m.line Yv PySem.F.slot_dict_update PySem.F.type_dict_update (thn (ho pins s σ H _ I h) fun u s1 ⟨x,H1,I1,rx,a,ex,d,q1⟩=>?_)
 subst ex
 obtain rfl:u=Value.ref a:=rx
 obtain⟨t1,t2,_⟩:=WZ I1 d
 refine⟨t1,t2,?_⟩
 rw[m.trees]
 refine Wr rfl (Va (QT (thn (he pins s1 σ H1 _ I1 q1) fun iv s2 ⟨y,H2,I2,ry,b,kvs,more,ey,ne,ea,eb,l,q2⟩=>Q4 ?_)))
 subst ey
 obtain rfl:iv=Value.ref b:=ry
 obtain⟨_,sa,vs,ra,da⟩:=Wc I2.hok ea
 obtain⟨_,sb,ws,rb,db⟩:=Wc I2.hok eb
 have la:=ra.length
 have lb:=rb.length
 refine call_meetsIn PySem.F.slot_dict_update da.typeIs PySem.F.entry_dict_update (PySem.F.args_dict_update_2 _ _) (meets_dict_update (qh X.prog X.w) a b ne sb) ⟨vs,ws,da,db,by omega,fun h' da' _ hs=>?_⟩
 have ee:∃q,h'.get? a=some q:=let ⟨q,_,_,hq,_⟩:=da';⟨q,hq⟩
 exact⟨.non,_,yP (t':=s2.toks) I2 (by rw[ea];exact True.intro) hs ee (QI (ja (xM more kvs) l) sa (rb.merge ra) da'),rfl,q2⟩
end
theorem zaI:∀{ns:List Int} {us:List Value},ns.length=us.length->(∀(j:Nat) u,us[j]? =some u->∃i t,ns[j]? =some i/\u=.int i t)->IntsAre us ns
 | [],[],_,_=>.nil
 | [],_::_,h,_=>by simp at h
 | _::_,[],h,_=>by simp at h
 | n::ns,u::us,h,f=>by
  obtain⟨i,t,e1,e2⟩:=f 0 u rfl
  cases e1
  subst e2
  refine .cons n t (zaI (by simpa using h) fun j v e=>?_)
  obtain⟨i,t,e1,e2⟩:=f (j+1) v (by simpa using e)
  exact⟨i,t,by simpa using e1,e2⟩
section
variable{X:Cx}
inductive v1(xs:List V)(H:Hp)(Q:VK):Prop
 | mk (a:Addr) (kvs:List (Int×V)) (_:xs=[.ref a]) (_:Rd H a (.dK (kvs.map fun kv=>(Sum.inl kv.1,kv.2)))) (_:kvs.length<64) (_:∀(p:Addr) (ms:List Int),H p=none->ms.Perm (kvs.map (·.1))->ms.Pairwise (·<= ·)->Q (.ref p) (upd H p (.lst (ms.map V.int)))):v1 xs H Q
theorem Jm(hh:X.A.handled=none):CallR X (.builtin "sorted") (v1):=by
 intro pins s σ H xs us Q I r h
 obtain⟨a,kvs,rfl,hx,h64,q⟩:=h
 obtain⟨u,rfl,ru⟩:=Vals.one r
 cases(show u=Value.ref a from ru)
 obtain⟨zz,hd,vs,rel,dd⟩:=ZF I.hok hx
 obtain⟨ep,da⟩:=dd.dictAt
 have ln:=rel.length
 rw[zq] at ln
 have sz:sizeLine=16777216:=sizeLine_eq
 refine Calls.call_function_entry kind_sorted plain_sorted entry_sorted (args_sorted1 _) ?_
 delta Builtin.«sorted»
 refine zr (m:=checkCount "sorted" 1 1 _) (zD (zr (PySem.W.kdu_collect (PySem.W.kdl_dict (prog:=X.prog) (w:=X.w) (knd:=qh X.prog X.w) (d:=a) (kvs:=vs) (ep:=ep) hd) hh da (by omega) fun h' tk acc keep its=>?_)))
 have al:acc.toList.length=vs.length:=by rw[J9];exact its.1
 have hI:IntsAre acc.toList (kvs.map (·.1)):=zaI (by rw[zq];omega) fun j u e=>by
  rw[Yr] at e
  obtain⟨k,x,e1,e2⟩:=its.2 j u e
  obtain⟨p,e3,e4,_⟩:=KV.get rel e1
  rw[qr] at e3
  obtain⟨kv,e5,rfl⟩:=jb.mp e3
  have e4:Sum.inl kv.1=k:=e4
  subst e4
  obtain⟨t,rfl⟩:=zdl e2
  exact⟨kv.1,t,by rw[qr,e5];rfl,rfl⟩
 refine zr (wpAny_newList ?_ (by omega))
 have at_:(h'.push (seqObj "list" acc.toList.toArray 0)).get? h'.objs.size=some (seqObj "list" acc.toList.toArray 0):=qD _ rfl
 refine zr (w6 (w9 slot_list_sort ⟨_,at_,rfl⟩ entry_list_sort (list_sort_tree (s:={ s with heap:=h'.push (seqObj "list" acc.toList.toArray 0),toks:=tk }) at_ hI (by omega) fun out ms a1 a2 a3=>⟨_,rfl,?_⟩) (args_list_sort _)))
 have new:s.heap.get? h'.objs.size=none:=by
  cases z:s.heap.get? h'.objs.size with
  | none=>rfl
  | some o=>exact absurd (zR (keep _ _ z)) (vv _)
 obtain⟨ep2,fin⟩:=sortedHeap_at (out:=out) at_
 refine zD ⟨_,rfl,.ref h'.objs.size,_,I.laidN (a:=h'.objs.size) (o:=.lst (ms.map V.int)) (t':=tk) (fun b o e=>?_) new ⟨?_,out.toList,ep2,Qf a1,?_⟩,rfl,q _ ms (I.hok.none_of new) a2 a3⟩
 ·have lt:=zR (keep b o e)
  rw[sortedHeap_old (qm lt) (by rw[xh];exact yX lt)]
  exact qx _ (keep b o e)
 ·rw[zq,a2.length_eq,zq];omega
 ·rw[fin]
end
def zdX(d:Addr)(o:Obj)(kvs:List (Key×V)):It:=
 ⟨fun i H=>H d=some (.frz o (.dK kvs))/\i<kvs.length,fun i H x H'=>H'=H/\∃k v,kvs[i]? =some (k,v)/\x=kV k,fun i H=>H d=some (.frz o (.dK kvs))/\kvs.length<=i⟩
theorem JH{P:Program}{w:World}:∀{es:List DictEntry} {vs:List (Key×Value)},Pairs (qh P w) es vs->∀{i:Nat} {q:Key×Value},vs[i]? =some q->∃en,es[i]? =some en/\(qh P w).is q.1 en.key=true
 | _,_,.nil,_,_,h=>by simp at h
 | _,_,.cons h1 _ t,0,_,h=>by simp at h;subst h;exact⟨_,rfl,h1⟩
 | _,_,.cons _ _ t,i+1,_,h=>by
  obtain⟨en,e,r⟩:=JH t (i:=i) (by simpa using h)
  exact⟨en,by simpa using e,r⟩
theorem KV.back:∀{kvs:List (Key×V)} {vs:List (Key×Value)} {j:Nat} {p:Key×V},KV kvs vs->kvs[j]? =some p->∃q,vs[j]? =some q/\p.1=q.1
 | _,_,j,_,.nil,e=>by simp at e
 | _,_,0,_,.cons h _,e=>by simp at e;subst e;exact⟨_,rfl,h.1⟩
 | _,_,j+1,_,.cons _ t,e=>by
  obtain⟨q,e1,r⟩:=KV.back (j:=j) t (by simpa using e)
  exact⟨q,by simpa using e1,r⟩
theorem V8{P:Program}{w:World}{H:Hp}{h:Heap}{d:Addr}{o:Obj}{kvs:List (Key×V)}{es:Array DictEntry}{ep:Nat}(ok:HOk P w H h)(e:H d=some (.frz o (.dK kvs)))(he:o.data=.dict es ep):RawD h d es ep/\es.size=kvs.length /\
  ∀(i:Nat) (k:Key) (v:V),kvs[i]? =some (k,v)->∃en:DictEntry,es[i]? =some en/\RelV (kV k) en.key:=by
 obtain⟨e1,z,y,vs,r,o',es',ep',h1,h2,h3,h4,h5,h6⟩:=(show ObjOk P w H h d (.frz o (.dK kvs)) from ok d _ e)
 rw[e1] at h1
 cases h1
 rw[he] at h3
 cases h3
 have l1:=h5.length
 have l2:=r.length
 have l3:es.toList.length=es.size:=J9
 refine⟨⟨o,e1,h2,he⟩,by omega,fun i k v hk=>?_⟩
 obtain⟨q,e2,e3⟩:=KV.back r hk
 obtain⟨en,e4,e5⟩:=JH h5 e2
 have e3:k=q.1:=e3
 exact⟨en,by rw[<- Yr];exact e4,by rw[e3];exact zdl e5⟩
theorem Wx{P:Program}{w:World}{K:PySem.W.Frag}{tg:Expr}(d it:Addr)(o:Obj)(kvs:List (Key×V))(es:Array DictEntry)(ep:Nat)(he:o.data=.dict es ep):Jb P w K tg (zdX d o kvs) [it] it (fun i h=>h.IsKeyIter it d i es.size ep) where
 mem:=by simp
 obj:=fun i h st b hb=>by
  have e:b=it:=by simpa using hb
  subst e
  obtain⟨o,e,c,d⟩:=st
  exact⟨o,e,fun v z=>by rw[d] at z;cases z⟩
 keep:=fun i h h' st k=>st.at fun o e=>k it (by simp) o e
 item:=by
  intro X hP hw hK hc i pins s σ H E I hf st hg
  subst hP hw hK
  obtain⟨hd,hi⟩:=hg
  obtain⟨rd,sz,all⟩:=V8 I.hok hd he
  obtain⟨⟨k,v⟩,hx⟩:∃p,kvs[i]? =some p:=⟨kvs[i],by simp[hi]⟩
  obtain⟨en,hen,ek⟩:=all i k v hx
  obtain⟨f0,f1,f2,f3,f4,f5⟩:=hf it (by simp)
  refine zcM st rd hen fun h' st' sb=>?_
  have I1:Inv X pins σ H { s with heap:=h' }:=I.turned (t':=s.toks) (fun b o hb e=>(sb.2 b hb).trans e) f0 f1 f3 f4 f5
  obtain⟨o',e',c',d'⟩:=id st'
  exact⟨_,rfl,zaN (s:={ s with heap:=h' }) e' c' d' (by decide) ⟨kV k,H,I1,ek,⟨rfl,k,v,hx,rfl⟩,st',fun b hb=>(hf b hb).1⟩⟩
 done:=by
  intro X hP hw hK hc i pins s σ H E I hf st hg
  subst hP hw hK
  obtain⟨hd,hi⟩:=hg
  obtain⟨rd,sz,_⟩:=V8 I.hok hd he
  obtain⟨f0,f1,f2,f3,f4,f5⟩:=hf it (by simp)
  exact zd9 (I.ok.hd hc) st rd (by omega) fun h' eb=>⟨rfl,I.turned (t':=s.toks) (fun b o hb e=>eb b o hb e) f0 f1 f3 f4 f5⟩
 self:=fun _ _ _ _ _ st h=>wpAny_pyIter_keyiter st h
section
variable{X:Cx}{tg:Expr}
def zgL(td:TE):TI:=fun σ H R=>td σ H fun x H1=>∃d kvs,x=.ref d/\H1 d=some (.dK kvs)/\∀o,R (zdX d o kvs) (upd H1 d (.frz o (.dK kvs)))
theorem zcS{l:Expr}{tl:TE}(hl:PE X l tl):PI X tg l (zgL tl):=by
 intro pins s σ H R I h
 refine thn (hl pins s σ H _ I h) fun v s1 ⟨x,H1,I1,r1,q1⟩=>?_
 obtain⟨d,kvs,e,hd,q⟩:=q1
 subst e
 cases r1
 obtain⟨z,y,vs,r,o,es,ep,h1,h2,h3,h4,h5,h6⟩:=(show ObjOk X.prog X.w H1 s1.heap d (.dK kvs) from I1.hok d _ hd)
 refine zcL y ⟨o,h1,h2,h3⟩ ?_
 have I2:Inv X pins σ (upd H1 d (.frz o (.dK kvs))) { s1 with heap:=s1.heap.push { cls:=.type "dict_keyiterator",data:=.fields #[.ref d,.int 0 0,.int es.size 0,.int ep 0] },toks:=s1.toks }:=by
  refine I1.write (x:=d) (e:=d) (by rw[hd];exact True.intro) (.inl rfl) (fun b u _ e=>qx _ e) ⟨o,qx _ h1⟩ ?_
  exact⟨qx _ h1,z,y,vs,r,o,es,ep,qx _ h1,h2,h3,h4,h5,h6⟩
 refine⟨s1.heap.objs.size,[s1.heap.objs.size],_,_,_,rfl,I2,Wx d _ o kvs es ep h3,⟨_,qD _ rfl,rfl,rfl⟩,fun b hb=>?_,q o⟩
 have e:b=s1.heap.objs.size:=by simpa using hb
 subst e
 refine I1.fpOk (zJ _) ?_
 rw[zi (qy (zn hd (I1.hok.fresh (zJ _))))]
 exact I1.hok.fresh (zJ _)
end
theorem zdh{d:Addr}{o:Obj}{kvs:List (Key×V)}{n:Nat}{g:TG}{tf:TT}{te:TE}{σ0:St}{R:List V->Hp->Prop}{H:Hp}(Pv:Nat->List V->Hp->Prop)(h0:Pv 0 [] H)
  (h1:∀i zs H,Pv i zs H->H d=some (.frz o (.dK kvs)))
  (hs:∀i k v zs H,kvs[i]? =some (k,v)->Pv i zs H->g (kV k) σ0 H fun σ4 H4=>σ4.drop n=σ0.drop n/\tf σ4 H4 fun b H5=>if b=true then te σ4 H5 fun v H6=>zs.length<sizeLine/\Pv (i+1) (zs++[v]) H6 else Pv (i+1) zs H5)
  (hd:∀zs H,Pv kvs.length zs H->zs.length<=sizeLine/\R zs H) :
  ∃W:Nat->Nat->List V->Hp->Prop,(∃m,W 0 m [] H)/\∀i m zs H2,W i m zs H2 ->
   ((zdX d o kvs).stop i H2/\zs.length<=sizeLine/\R zs H2) \/
   ((zdX d o kvs).go i H2/\∃M:List V->Hp->Prop,(∀zs H',M zs H'->∃m',m'<m/\W (i+1) m' zs H')/\∀x H3,(zdX d o kvs).yld i H2 x H3->g x σ0 H3 fun σ4 H4=>σ4.drop n=σ0.drop n/\tf σ4 H4 fun b H5=>
    if b=true then te σ4 H5 fun y H6=>zs.length<sizeLine/\M (zs++[y]) H6 else M zs H5):=by
 refine⟨fun i m zs H2=>m=kvs.length-i/\i<=kvs.length/\Pv i zs H2,⟨_,rfl,qe _,h0⟩,?_⟩
 rintro i m zs H2 ⟨rfl,hi,p⟩
 by_cases hlt:i<kvs.length
 ·refine .inr ⟨⟨h1 i zs H2 p,hlt⟩,Pv (i+1),fun zs' H' p'=>⟨_,by omega,rfl,hlt,p'⟩,fun x H3 y=>?_⟩
  obtain⟨e,k,v,hk,rfl⟩:=y
  subst e
  exact hs i k v zs _ hk p
 ·have e:i=kvs.length:=by omega
  subst e
  obtain⟨z1,z2⟩:=hd zs H2 p
  exact .inl ⟨⟨h1 _ zs H2 p,zJ _⟩,z1,z2⟩
section
variable{X:Cx}{tg:Expr}
def zhL(K:PySem.W.Frag)(tl:TE):TI:=fun σ H R=>tl σ H fun x H1=>∃a,x=.ref a/\(((∃xs,SqL K H1 a xs)/\R (Itl K a) H1)\/((∃xs,SqT K H1 a xs)/\R (Itt K a) H1))
theorem zcR{l:Expr}{tl:TE}(hl:PE X l tl):PI X tg l (zhL X.K tl):=by
 intro pins s σ H R I h
 refine thn (hl pins s σ H _ I h) fun v s1 ⟨x,H1,I1,r1,q1⟩=>?_
 obtain⟨a,e,q⟩:=q1
 subst e
 cases r1
 have fp:∀b∈[s1.heap.objs.size],_:=fun b hb=>by
  have e:b=s1.heap.objs.size:=by simpa using hb
  subst e
  exact I1.fpOk (zJ _) (I1.hok.fresh (zJ _))
 rcases q with ⟨⟨xs,hq⟩,q⟩ | ⟨⟨xs,hq⟩,q⟩
 ·obtain⟨its,rv,p,hz⟩:=I1.list hq
  refine wpAny_pyIter_list p.isList ⟨s1.heap.objs.size,[s1.heap.objs.size],_,_,H1,rfl,I1.kept (t':=s1.toks) fun b o e=>qx _ e,Js a _,⟨_,qD _ rfl,rfl,rfl⟩,?_,q⟩
  exact fp
 ·obtain⟨its,rv,p,hz⟩:=I1.tuple hq
  refine wpAny_pyIter_tuple (show s1.heap.IsTuple a its.toArray from p) ⟨s1.heap.objs.size,[s1.heap.objs.size],_,_,H1,rfl,I1.kept (t':=s1.toks) fun b o e=>qx _ e,Qi a _,⟨_,qD _ rfl,rfl,rfl⟩,?_,q⟩
  exact fp
end
open Sem (wp)
theorem Xy:typeLookup (.type "list") "keys" = pure none:=by rw[typeLookup_type,builtinLookup_eq_fast];kernel_rfl
theorem Xz:typeLookup (.type "list") "__getattr__" = pure none:=by rw[typeLookup_type,builtinLookup_eq_fast];kernel_rfl
theorem Zc:isSubtype (.type "AttributeError") (.type "AttributeError")=pure true:=by rw[isSubtype_type];kernel_rfl
section
variable{prog:Program}{w:World}{A:Around}{E:Value->Shared->Prop}{s:Shared}
theorem WF{α:Type}{M:Model}{o:Value}{name msg:Str}{Q:α->Shared->Prop}(hh:A.handled=none)(hm:msg.length<=sizeLine)
  (hq:∀h' t' e,(∀b p,s.heap.get? b=some p->h'.get? b=some p)->(∃ob,h'.get? e=some ob/\ob.cls=.type "AttributeError")->E (.ref e) { s with heap:=h',toks:=t' }) :
  wpAny M A (raiseAttrError o name msg:Sem α) Q E s:=by
 unfold raiseAttrError newExc newTuple
 refine zr (wpAny_mkStr (zr (zr (wx (zr (m:=firstArgMember _ _) (wpAny_of_eq (a:=Value.none) (by simp only[firstArgMember];rfl) (wx ?_)))))) hm)
 refine zr (wpAny_mkText (zr (show wpAny _ _ (noteAttr _ _ _) _ _ _ from ?_)))
 unfold noteAttr
 dsimp only
 unfold lacksNameAndObj
 refine zr (zr (ZL (T:= "AttributeError") ⟨_,qD _ rfl,rfl⟩ Zc ?_))
 refine zr (wpAny_load (qD _ rfl) ?_)
 refine zD ?_
 refine zr (vW (zr (wpAny_typeOf (T:= "AttributeError") ⟨_,qD _ rfl,rfl⟩ ?_)))
 refine wpAny_layMembers (qD _ rfl) rfl ?_
 unfold raiseNew;refine zr (wpAny_handled ?_);rw[hh];refine zr (zD (wpAny_throw ?_))
 refine hq _ _ _ (fun b p e=>?_) ⟨_,QU _ (qD _ rfl) (Yt (Q5 rfl _)),Yk _ _⟩
 rw[Xa _ _ (vc (j9 (zR e) (by simp)))]
 exact qx _ (qx _ e)
end
section
variable{prog:Program}{w:World}{A:Around}{E:Value->Shared->Prop}{h:Heap}{g:Array GenState}{d:Drawn}{t:Nat}{os:OsState}{a:Addr}{n:Nat}{its:Array Value}
theorem ZU{tk:Tok}{Q:Fin->Shared->Prop}(hh:A.handled=none)(hx:h.get? a=some { cls:=.type "list",data:=.seq its n })
  (hq:∀h' t' e,(∀b p,h.get? b=some p->h'.get? b=some p)->(∃ob,h'.get? e=some ob/\ob.cls=.type "AttributeError")->E (.ref e) ⟨h',g,d,t',os⟩) :
  wpAny (model prog w) A (Builtin.«object.__getattribute__» ⟨[.ref a,.str "keys" tk],[]⟩) Q E ⟨h,g,d,t,os⟩:=by
 have hT:(⟨h,g,d,t,os⟩:Shared).TypeIs (.ref a) "list" :=⟨_,hx,rfl⟩
 have f4:=Xy
 repeat(any_goals (first| assumption | wp_step))
 refine WF hh ?_ hq
 rw[sizeLine_eq]
 decide +kernel
theorem Qy{tk:Tok}{R:Result->Shared->Prop}(hh:A.handled=none)(hx:h.get? a=some { cls:=.type "list",data:=.seq its n })
  (hq:∀h' t' e,(∀b p,h.get? b=some p->h'.get? b=some p)->(∃ob,h'.get? e=some ob/\ob.cls=.type "AttributeError")->R (.error (.ref e)) ⟨h',g,d,t',os⟩) :
  codeAny (model prog w) A (.call (.builtin "list.__getattribute__") ⟨[.ref a,.str "keys" tk],[]⟩) R ⟨h,g,d,t,os⟩:=
 codeAny_call_builtin Vd.plain F.entry_list_ga (Vd.check _ _ _ _ _ _ _ _ (show(⟨h,g,d,t,os⟩:Shared).TypeIs (.ref a) "list" from ⟨_,hx,rfl⟩) (F.args_list_getattribute_2 _ _) (ZU hh hx hq))
theorem XB{tk:Tok}{Q:Value->Shared->Prop}(hh:A.handled=none)(hx:h.get? a=some { cls:=.type "list",data:=.seq its n })
  (hq:∀h' t' e,(∀b p,h.get? b=some p->h'.get? b=some p)->(∃ob,h'.get? e=some ob/\ob.cls=.type "AttributeError")->E (.ref e) ⟨h',g,d,t',os⟩):wpAny (model prog w) A (getAttrBy (.ref a) (.str "keys" tk) false) Q E ⟨h,g,d,t,os⟩:=by
 have hT:(⟨h,g,d,t,os⟩:Shared).TypeIs (.ref a) "list" :=⟨_,hx,rfl⟩
 have f2:=Vd.lookup
 have f3:=Vd.bind (.ref a)
 repeat(any_goals (first| assumption | wp_step))
 refine Qy hh hx fun h' t' e k ⟨ob,ho,hc⟩=>?_
 dsimp only
 unfold getattributeRaised
 refine zr (ZL (T:= "AttributeError") ⟨_,ho,hc⟩ Zc ?_)
 rw[zH rfl]
 unfold hookBehind
 refine zr ?_
 rw[zx (by decide)]
 refine wpAny_of_eq Xz ?_
 unfold hookOrError attributeErrorLeaves
 dsimp only
 rw[zH (show(!false)=true from rfl)]
 first
  | exact wpAny_throw (hq h' t' e k ⟨ob,ho,hc⟩)
  | exact zr (wpAny_throw (hq h' t' e k ⟨ob,ho,hc⟩))
theorem Qz{Q:Option Value->Shared->Prop}(hh:A.handled=none)(hx:h.get? a=some { cls:=.type "list",data:=.seq its n })
  (hq:∀h' t',(∀b p,h.get? b=some p->h'.get? b=some p)->Q none ⟨h',g,d,t',os⟩):wpAny (model prog w) A (getAttr? (.ref a) "keys") Q E ⟨h,g,d,t,os⟩:=by
 unfold getAttr? getAttrBy?
 refine zr (wpAny_mkText (zr (yp (XB hh hx fun h' t' e k ⟨ob,ho,hc⟩=>?_))))
 dsimp only
 refine zr (ZL (T:= "AttributeError") ⟨_,ho,hc⟩ Zc ?_)
 rw[zH rfl]
 exact zD (hq h' t' k)
end
end L2
namespace L2
open PySem PySem.Spec PyProof.Rows
theorem wW:entryFor table "dict.update.loop" = some Builtin.«dict.update.loop»:=entryFor_of_tree (by kernel_rfl)
theorem xL:plainId "dict.update.loop" = true:=by decide +kernel
theorem V0{K:Type}[DecidableEq K](kvs more:List (K×Value))(i:Nat)(kv:K×Value)(h:more[i]? =some kv):merged (stored kvs kv.1 kv.2) (more.drop (i+1))=merged kvs (more.drop i):=by
 obtain⟨h1,h2⟩:=zW.mp h
 rw[List.drop_eq_getElem_cons h1,h2]
 rfl
section
variable{prog:Program}{w:World}{K:Type}[DecidableEq K]{knd:KeyKind prog w K}{A:Around}{R:Result->Shared->Prop}{it l D:Addr}{items:Array Value}{pairs:List (K×Value)}{res:Value}
theorem zeS(hh:A.handled=none)(hil:l≠it)(hlD:l≠D)(hiD:it≠D)(hlen:pairs.length=items.size) :
  ∀(m:Nat) (s:Shared) (i:Nat) (kvs:List (K×Value)),items.size-i=m->i<=items.size->s.heap.IsListIter it l i->s.heap.IsList l items->s.heap.DictOf knd D kvs->kvs.length+m<=sizeLine ->
   (∀(j:Nat) (u:Value),items[j]? =some u->∃(T:Addr) (k:K) (key v:Value),u=.ref T/\T≠it/\T≠D/\IsTup s.heap T #[key,v]/\knd.is k key=true/\pairs[j]? =some (k,v)) ->
   (∀h' tk,h'.DictOf knd D (merged kvs (pairs.drop i))->(∀b o,b≠it->b≠D->s.heap.get? b=some o->h'.get? b=some o)->R (.ok (.ret res)) { s with heap:=h',toks:=tk }) ->
   codeAny (model prog w) A (.builtin "dict.update.loop" ⟨[.ref D,.ref it,.int i 0,res],[]⟩) R s:=by
 intro m
 induction m with
 | zero=>
  intro s i kvs hm hi ii il dd hz ht q
  have hend:items[i]? =none:=by simp;omega
  refine codeAny_builtin wW ?_
  rw[Q8 xL _]
  show wpAny _ A.in1 (pyNext (.ref it) >>= _) _ _ s
  refine zr (wpAny_pyNext_list_end hh ii il hend fun h' hx=>?_)
  show wpAny _ _ (Builtin.Dict.addKeywords D [] >>= _) _ _ _
  refine zr (zD (zD ?_))
  have e0:merged kvs (pairs.drop i)=kvs:=by rw[List.drop_eq_nil_of_le (by omega)];rfl
  have:=q h' s.toks (by rw[e0];exact dd.extBut hx (qy hiD)) (fun b o hb _ e=>?_)
  ·exact this
  ·exact hx b o hb e
 | succ m ih=>
  intro s i kvs hm hi ii il dd hz ht q
  have hlt:i<items.size:=by omega
  obtain⟨u,hu⟩:∃u,items[i]? =some u:=⟨_,Ve hlt⟩
  obtain⟨T,k,key,v,rfl,nT,nD,tT,kk,ep⟩:=ht i u hu
  refine codeAny_builtin wW ?_
  rw[Q8 xL _]
  show wpAny _ A.in1 (pyNext (.ref it) >>= _) _ _ s
  refine zr (wpAny_pyNext_list_item ii il hu fun h1 i1 s1=>?_)
  dsimp only
  refine zr (w6 (zr ?_))
  obtain⟨oT,eT,cT,nn,dT⟩:=tT
  have k1:∀b o,b≠it->s.heap.get? b=some o->h1.get? b=some o:=fun b o hb e=>(s1.2 b hb).trans e
  have hT1:({ s with heap:=h1 }:Shared).TypeIs (.ref T) "tuple" :=⟨_,k1 _ _ nT eT,cT⟩
  show wpAny _ _ (tryCatch (Builtin.Dict.pairItems (.ref T)) _) _ _ _
  refine Zt ?_
  unfold Builtin.Dict.pairItems
  refine zr (wpAny_typeOf hT1 ?_)
  rw[zH (show(Value.type "tuple" == Value.type "list" || Value.type "tuple" == Value.type "tuple")=true by decide)]
  refine zr (vZ (k1 _ _ nT eT) dT (zD ?_))
  show wpAny _ _ (holding [key,v] (dictSet D key v)) _ _ _
  refine w6 (wpAny_dictSet_pairs kk (dd.sameBut s1 (qy hiD)) (hsz:=by omega) fun h2 d2 s2=>?_)
  refine zD ⟨plainId_quiet xL _,?_⟩
  have k2:∀b o,b≠it->b≠D->s.heap.get? b=some o->h2.get? b=some o:=fun b o hb hb' e=>(s2.2 b hb').trans (k1 b o hb e)
  have lst:(stored kvs k v).length<=kvs.length+1:=stored_length_le kvs k v
  have:=ih { s with heap:=h2,toks:=s.toks+1 } (i+1) (stored kvs k v) (by omega) hlt (i1.at fun o e=>(s2.2 it hiD).trans e) (il.at fun o e=>k2 l o hil hlD e) d2 (by omega)
   (fun j u hj=>by
    obtain⟨T',k',key',v',z1,z2,z3,z4,z5,z6⟩:=ht j u hj
    obtain⟨o',e',r'⟩:=z4
    exact⟨T',k',key',v',z1,z2,z3,⟨o',k2 _ _ z2 z3 e',r'⟩,z5,z6⟩)
   (fun h' tk d' kp=>q h' tk (by rw[<- V0 kvs pairs i (k,v) ep];exact d') fun b o hb hb' e=>kp b o hb hb' (k2 b o hb hb' e))
  exact this
end
def zgT:Obj:={ cls:=.type "dict",data:=.dict #[] }
theorem Ji:(Value.type "list" != Value.type "dict")=true:=by decide
section
variable{prog:Program}{w:World}{K:Type}[DecidableEq K]{knd:KeyKind prog w K}{A:Around}{E:Value->Shared->Prop}{s:Shared}
theorem ZX{l:Addr}{items:Array Value}{n:Nat}{pairs:List (K×Value)}{Q:Value->Shared->Prop}(hh:A.handled=none)(hl:s.heap.get? l=some { cls:=.type "list",data:=.seq items n })(hlen:pairs.length=items.size)(hsz:items.size<=sizeLine)
  (ht:∀(j:Nat) (u:Value),items[j]? =some u->∃(T:Addr) (k:K) (key v:Value),u=.ref T/\IsTup s.heap T #[key,v]/\knd.is k key=true/\pairs[j]? =some (k,v))
  (h:∀h' tk,h'.DictOf knd s.heap.objs.size (merged [] pairs)->(∀b o,s.heap.get? b=some o->h'.get? b=some o)->Q (.ref s.heap.objs.size) { s with heap:=h',toks:=tk }) :
  wpAny (model prog w) A (call (.type "dict") [.ref l]) Q E s:=by
 have dk:(s.heap.push zgT).DictOf knd s.heap.objs.size []:=.new s.heap
 have hl':=qx zgT hl
 refine callType_codes (Q₁:=fun u s1=>u=.ref s.heap.objs.size/\s1={ s with heap:=s.heap.push zgT }) F.kt_called_dict (F.kt_typeCall_dict_1 _) F.entry_dict_init (kt_code_dict_new _ ⟨rfl,rfl⟩) fun u s1 e=>?_
 obtain⟨eu,es⟩:=e
 subst eu es
 refine⟨dk.typeIs,F.args_dict_init_2 _ _,?_⟩
 show wpAny _ _ (Builtin.Dict.selfAndRest _ _ >>= fun x=>Builtin.Dict.updateCommon _ _ x.1 x.2 _) _ _ _
 refine zr (zr (wpAny_notOrdered_dict dk.typeIs ?_))
 refine zD (show wpAny _ _ (Builtin.Dict.updateFrom "dict.__init__" s.heap.objs.size (.ref l) [] .none) _ _ _ from ?_)
 refine zr (wpAny_typeOf (T:= "list") ⟨_,hl',rfl⟩ ?_)
 rw[zH Ji]
 refine zr (Qz hh hl' fun h1 t1 k1=>?_)
 rw[zH (show(none:Option Value).isNone=true from rfl)]
 refine zr (vW (zr (wpAny_pyIter_list ⟨_,k1 _ _ hl',rfl,n,rfl⟩ ?_)))
 have dD:=dk.keep k1
 have ltl:=zR hl
 obtain⟨oD,_,_,eD,_⟩:=id dD
 have ltD:=zR eD
 have kk:∀b o,s.heap.get? b=some o->(h1.push { cls:=.type "list_iterator",data:=.fields #[.ref l,.int 0 0] }).get? b=some o:=fun b o e=>qx _ (k1 _ _ (qx _ e))
 have lt1:∀b o,s.heap.get? b=some o->b<h1.objs.size:=fun b o e=>zR (k1 _ _ (qx _ e))
 refine zD ⟨plainId_quiet xL _,?_⟩
 refine zeS (knd:=knd) (s:=⟨h1.push { cls:=.type "list_iterator",data:=.fields #[.ref l,.int 0 0] },s.gens,s.drawn,t1,s.os⟩) (l:=l) (it:=h1.objs.size) (D:=s.heap.objs.size) (items:=items) (pairs:=pairs) (A:=A.in1) (res:=.none) hh (qm (lt1 _ _ hl)) (qm ltl) (vc ltD) hlen items.size 0 [] rfl (qe _) ⟨_,qD _ rfl,rfl,rfl⟩ ⟨_,kk _ _ hl,rfl,n,rfl⟩ (dD.push _) (by simpa using hsz) (fun j u hj=>?_) (fun h' tk d' kp=>?_)
 ·obtain⟨T,k,key,v,rfl,⟨o,e,r⟩,z,y⟩:=ht j u hj
  exact⟨T,k,key,v,rfl,qm (lt1 _ _ e),qm (zR e),⟨o,kk _ _ e,r⟩,z,y⟩
 ·exact⟨rfl,h h' tk (by simpa using d') fun b o e=>kp b o (qm (lt1 _ _ e)) (qm (zR e)) (kk _ _ e)⟩
end
def PrsL(H:Hp)(xs:List V)(kps:List (Key×V)):Prop:=xs.length=kps.length/\∀(j:Nat) (x:V),xs[j]? =some x->∃(T:Addr) (k:Key) (v:V),x=.ref T/\H T=some (.tup [kV k,v])/\kps[j]? =some (k,v)
theorem PrsL.nil{H:Hp}:PrsL H [] []:=⟨rfl,fun j x e=>by simp at e⟩
theorem PrsL.same{H H':Hp}{xs:List V}{kps:List (Key×V)}(h:PrsL H xs kps)(s:Same H H'):PrsL H' xs kps:=⟨h.1,fun j x e=>let ⟨T,k,v,a,b,c⟩:=h.2 j x e;⟨T,k,v,a,s _ _ b,c⟩⟩
theorem PrsL.snoc{H:Hp}{xs:List V}{kps:List (Key×V)}{T:Addr}{k:Key}{v:V}(h:PrsL H xs kps)(e:H T=some (.tup [kV k,v])):PrsL H (xs++[.ref T]) (kps++[(k,v)]):=by
 refine⟨by rw[zV,zV,h.1];rfl,fun j x ex=>?_⟩
 have l:=h.1
 by_cases hj:j<xs.length
 ·rw[wz hj] at ex
  obtain⟨T',k',v',a,b,c⟩:=h.2 j x ex
  exact⟨T',k',v',a,b,by rw[wz (by omega)];exact c⟩
 ·rw[wA (by omega)] at ex
  have:j=xs.length:=by
   have:=(zW.mp ex).1
   simp at this;omega
  subst this
  simp at ex
  subst ex
  exact⟨T,k,v,rfl,e,by rw[l,wA (zJ _)];simp⟩
theorem zfE:∀{kps:List (Key×V)} {ps:List (Key×Value)},kps.length=ps.length->(∀(j:Nat) p,ps[j]? =some p->∃q,kps[j]? =some q/\q.1=p.1/\RelV q.2 p.2)->KV kps ps
 | [],[],_,_=>.nil
 | [],_::_,h,_=>by simp at h
 | _::_,[],h,_=>by simp at h
 | x::xs,u::us,h,f=>by
  refine .cons ?_ (zfE (by simpa using h) fun j v e=>?_)
  ·obtain⟨y,e1,r⟩:=f 0 u rfl
   cases e1
   exact r
  ·obtain⟨y,e1,r⟩:=f (j+1) v (by simpa using e)
   exact⟨y,by simpa using e1,r⟩
theorem ZI{α β:Type}:∀(P:Nat->α->β->Prop) (l:List α),(∀j u,l[j]? =some u->∃b,P j u b)->∃bs:List β,bs.length=l.length/\∀j u,l[j]? =some u->∃b,bs[j]? =some b/\P j u b
 | _,[],_=>⟨[],rfl,fun j u e=>by simp at e⟩
 | P,x::l,f=>by
  obtain⟨b,hb⟩:=f 0 x rfl
  obtain⟨bs,h1,h2⟩:=ZI (fun j=>P (j+1)) l fun j u e=>f (j+1) u (by simpa using e)
  refine⟨b::bs,by simp[h1],fun j u e=>?_⟩
  cases j with
  | zero=>simp at e;subst e;exact⟨b,rfl,hb⟩
  | succ j=>
   obtain⟨c,h3,h4⟩:=h2 j u (by simpa using e)
   exact⟨c,by simpa using h3,h4⟩
theorem Vals.at:∀{xs:List V} {us:List Value} {i:Nat} {u:Value},Vals xs us->us[i]? =some u->∃x,xs[i]? =some x/\RelV x u:=fun {xs us i u} r e=>by
 have l:=Vals.length r
 have h:=(zW.mp e).1
 obtain⟨v,e1,r1⟩:=r.get (i:=i) (x:=xs[i]'(by omega)) (ji _)
 rw[e] at e1
 cases e1
 exact⟨_,ji _,r1⟩
section
variable{X:Cx}
inductive Za(xs:List V)(H:Hp)(Q:VK):Prop
 | mk (a:Addr) (ys:List V) (kps:List (Key×V)) (_:xs=[.ref a]) (_:H a=some (.lst ys)) (_:PrsL H ys kps) (_:∀p,H p=none->Q (.ref p) (upd H p (.dK (jE [] kps)))):Za xs H Q
theorem W7(hh:X.A.handled=none):CallR X (.type "dict") (Za):=by
 intro pins s σ H xs us Q I r h
 obtain⟨a,ys,kps,rfl,hx,pr,q⟩:=h
 obtain⟨u,rfl,ru⟩:=Vals.one r
 cases(show u=Value.ref a from ru)
 obtain⟨zz,its,n,rel,hl⟩:=(show ObjOk X.prog X.w H s.heap a (.lst ys) from I.hok a _ hx)
 have ln:=rel.length
 have kn:=pr.1
 have at_:∀(j:Nat) (u:Value),its[j]? =some u->∃(T:Addr) (k:Key) (key v:Value) (y:V),u=.ref T/\IsTup s.heap T #[key,v]/\(qh X.prog X.w).is k key=true/\kps[j]? =some (k,y)/\RelV y v:=fun j u hj=>by
  obtain⟨x,ex,rx⟩:=Vals.at rel hj
  obtain⟨T,k,v,rfl,eT,ek⟩:=pr.2 j x ex
  cases(show u=Value.ref T from rx)
  obtain⟨_,ts,rt,it,_⟩:=(show ObjOk X.prog X.w H s.heap T (.tup [kV k,v]) from I.hok T _ eT)
  obtain⟨u1,u2,rfl,r1,r2⟩:=Vals.two rt
  exact⟨T,k,u1,u2,v,rfl,it,wU r1,ek,r2⟩
 obtain⟨ps,lp,hp⟩:=ZI (fun j u (p:Key×Value)=>∃(T:Addr) (key:Value) (y:V),u=.ref T/\IsTup s.heap T #[key,p.2]/\(qh X.prog X.w).is p.1 key=true/\kps[j]? =some (p.1,y)/\RelV y p.2) its fun j u e=>by
  obtain⟨T,k,key,v,y,a,b,c,d,f⟩:=at_ j u e
  exact⟨(k,v),T,key,y,a,b,c,d,f⟩
 have kv:KV kps ps:=zfE (by omega) fun j p e=>by
  have hj:=(zW.mp e).1
  obtain⟨b,e1,T,key,y,_,_,_,e2,r2⟩:=hp j _ (ji (by omega))
  rw[e] at e1
  cases e1
  exact⟨_,e2,rfl,r2⟩
 have mg:(jE [] kps).length<=sizeLine:=by
  have:=xM kps []
  rw[X1] at this
  omega
 have hn:H s.heap.objs.size=none:=I.hok.fresh (zJ _)
 refine ZX (knd:=qh X.prog X.w) (pairs:=ps) (items:=its.toArray) hh hl (by simp[lp]) (by simp;omega) (fun j u e=>?_) fun h' tk d' kp=>?_
 ·rw[List.getElem?_toArray] at e
  obtain⟨p,e1,T,key,y,a,b,c,d,f⟩:=hp j u e
  exact⟨T,p.1,key,p.2,a,b,c,e1⟩
 ·have ns:(s.heap.objs.size==sysModules)=false:=beq_eq_false_iff_ne.mpr (vc I.big)
  exact⟨.ref s.heap.objs.size,_,I.laid (a:=s.heap.objs.size) (o:=.dK (jE [] kps)) (t':=tk) kp (zJ _) (QI mg ns (KV.merge kv .nil) d'),rfl,q _ hn⟩
theorem zeg{K:PySem.W.Frag}(h:X.K=K){tg l:Expr}{tl:TE}(hl:PE X l tl):PI X tg l (zhL K tl):=by rw[<- h];exact zcR hl
end
section
variable{X:Cx}{elt tg iter:Expr}{ifs:List Expr}{scope:Scope}{pos:Pos}{wi:TI}{g:TG}{tf:TT}{te:TE}{x:Str}
theorem zf7{yt:Str}{py spos:Pos}{g2:TG}(fr:List Str)(js:List Nat)(hc:X.calm=true)(hk:scope.kind=.function)(hb:XN scope.names X.env.scope.names X.N x fr js=true)(hi:PI X tg iter wi)
  (hg:∀C s H ex,PG (j3 X ([x]++fr) scope x C s H ex) tg g) (hf:∀C s H ex,PF (j3 X ([x]++fr) scope x C s H ex) ifs tf) (he:∀C s H ex,PE (j3 X ([x]++fr) scope x C s H ex) elt te)
  (hg2:PG X (.Name yt py) g2) (hsw:swapsWith (.ListComp elt [⟨tg,iter,ifs,0⟩] scope pos) (some (.Name yt py)) spos.line X.env=pure true:=by rfl)
  (hs:∀x,foldedSetIterable iter X.env x=pure x:=by intro _;rfl):PS X (.Assign [.Name yt py] (.ListComp elt [⟨tg,iter,ifs,0⟩] scope pos) spos) (WA (tLC wi 1 js g tf te) g2):=by
 intro pins s σ H Dn I h
 have B:=J2 hb
 have hasF:∀y∈scope.names,y.2=NameKind.free->∃c,X.env.cells.lookup y.1=some c:=fun y hy e=>I.ok.has y.1 (B.free y hy e)
 rw[exec_Assign_Name_used _ _ _ _ hsw]
 refine zr (wpAny_standAt (zr ?_))
 show wpAny _ X.A (do let _<-comprehension (.ListComp elt [⟨tg,iter,ifs,0⟩] scope pos) scope X.env _ (newList []) false (eval iter X.env) (some (assign (.Name yt py) X.env))) _ _ s
 refine zr (xZ (wpAny_comprehension_free (use:=some (assign (.Name yt py) X.env)) (Q:=fun _ s'=>∃σ' H',Inv X pins σ' H' s'/\Dn.nx σ' H') rfl hs (zaW hasF) hk (fun y hy e=>B.loc y hy e) (thn (hi pins s σ H _ I h) fun v s1 h1=>thn h1 fun itv s2 h2=>?_)) (fun _ s' hq=>zD (zD hq)) fun _ _ e=>e)
 obtain⟨it,fp,tn,J,H2,e,I2,T,st2,f2,W,⟨m0,w0⟩,turn⟩:=h2
 subst e
 have fl:∀b∈fp,b<s2.heap.objs.size:=fun b hb=>let ⟨o,e,_⟩:=T.obj _ _ st2 b hb;zR e
 refine wx (WQ B.one ?_)
 dsimp only
 generalize e3:s2.heap.push { cls:=.type "list",dict:=none,data:=.seq ([]:List Value).toArray }=h3
 have hns:((h3.push { cls:=.type "dict",data:=.dict #[] }).push { cls:=.type "cell",data:=.cell none }).Ns h3.objs.size (fun _=>none):=(Heap.Ns.new h3 (.type "dict")).keeps fun b o e=>qx _ e
 have hcell:((h3.push { cls:=.type "dict",data:=.dict #[] }).push { cls:=.type "cell",data:=.cell none }).IsCell (h3.objs.size+1) none:=⟨_,by have:=qD (h3.push { cls:=.type "dict",data:=.dict #[] }) (o:={ cls:=.type "cell",data:=.cell none }) rfl;rwa[xh] at this,rfl⟩
 have k4:∀b o,h3.get? b=some o->((h3.push { cls:=.type "dict",data:=.dict #[] }).push { cls:=.type "cell",data:=.cell none }).get? b=some o:=fun b o e=>qx _ (qx _ e)
 generalize (h3.push { cls:=.type "dict",data:=.dict #[] }).push { cls:=.type "cell",data:=.cell none }=h1 at hns hcell k4
 have k3:∀b o,s2.heap.get? b=some o->h3.get? b=some o:=fun b o e=>by rw[<- e3];exact qx _ e
 have I4:Inv (j3 X ([x]++fr) scope x h3.objs.size { s2 with heap:=h3 } H2 (s2.heap.objs.size::fp)) [] (upS 1 js σ) H2 { s2 with heap:=h1 }:=
  W8 fr js I2 B hk f2 fl rfl e3.symm rfl hns hcell k4
 have I3:Inv X pins σ H2 { s2 with heap:=h3 }:=I2.kept (t':=s2.toks) k3
 have hz:h3.objs.size=s2.heap.objs.size+1:=by rw[<- e3,xh]
 have hDl:s2.heap.objs.size≠h3.objs.size:=by rw[hz];exact qm (ZM _)
 have hacc:h1.get? s2.heap.objs.size=some { cls:=.type "list",data:=.seq ([]:List Value).toArray }:=k4 _ _ (by rw[<- e3];exact qD _ rfl)
 have fpC:=(I3.fpOk (b:=h3.objs.size) (zJ _) (I3.hok.fresh (zJ _))).2
 generalize eD:s2.heap.objs.size=D at *
 generalize eC:h3.objs.size=C at *
 have fD:∀b∈fp,D≠b:=fun b hb=>vc (fl b hb)
 have look:∀y c,((x,C+1)::jF X.env.cells scope.names []).lookup y=some c->c=C+1\/X.env.cells.lookup y=some c:=fun y c e=>by
  rw[jQ] at e
  by_cases q:(y==x)=true
  ·rw[q] at e
   exact .inl (jT e).symm
  ·rw[(Zw _).mp q] at e
   exact .inr (qN e hasF)
 have hx:∀y c,((x,C+1)::jF X.env.cells scope.names []).lookup y=some c->c≠D:=fun y c e=>by
  rcases look y c e with z | z
  ·rw[z,hz];exact vc (yX (ZM _))
  ·obtain⟨v,q⟩:=I2.cell y c z
   rw[<- eD];exact qm q.lt
 have hx2:∀b∈fp,∀y c,((x,C+1)::jF X.env.cells scope.names []).lookup y=some c->c≠b:=fun b hb y c e=>by
  rcases look y c e with z | z
  ·rw[z,hz];exact vc (yX (yX (fl b hb)))
  ·exact(f2 b hb).2.2.2.2.1 y c z
 have nfs:∀b∈D::fp,b∉frs X.stack:=I4.ok.exfs
 have fpB:∀{pins':List (Addr×Obj)} {H':Hp} {b:Addr},b∈fp->H' b=none->(∀p∈pins',p.1≠b)->vm (j3 X ([x]++fr) scope x C { s2 with heap:=h3 } H2 (D::fp)) pins' H' b:=fun {pins' H' b} hb hn hp=>
  ⟨hn,(I4.ok.exf b (jv _ hb)).1,nfs b (jv _ hb),.inl (jv _ hb),fun x c e=>hx2 b hb x c e,fun p h=>hp p (by simpa using h)⟩
 have fpD:∀{pins':List (Addr×Obj)} {H':Hp},H' D=none->(∀p∈pins',p.1≠D)->vm (j3 X ([x]++fr) scope x C { s2 with heap:=h3 } H2 (D::fp)) pins' H' D:=fun {pins' H'} hn hp=>
  ⟨hn,hDl,nfs D j8,.inl j8,fun x c e=>hx x c e,fun p h=>hp p (by simpa using h)⟩
 have loop:∀s4:Shared,s4={ s2 with heap:=h1 } ->
   codeAny (model X.prog X.w) X.A (.compLoop (.ListComp elt [⟨tg,iter,ifs,0⟩] scope pos) 0 (.ref it) (.ref D) (compEnvC scope ((x,C+1)::jF X.env.cells scope.names []) C X.env))
    (compPost (model X.prog X.w) X.A X.xe (some (assign (.Name yt py) X.env)) (fun _ s'=>∃σ' H',Inv X pins σ' H' s'/\Dn.nx σ' H') (.ref D) C) s4:=by
  intro s4 e4
  refine Wp (fun n s'=>∃i ys its H',∃z:Nat,Inv (j3 X ([x]++fr) scope x C { s2 with heap:=h3 } H2 (D::fp)) [] (upS 1 js σ) H' s'/\tn i s'.heap/\(∀b∈fp,H' b=none)/\H' D=none /\
   s'.heap.get? D=some { cls:=.type "list",data:=.seq (its:List Value).toArray z }/\Vals ys its/\W i n ys H') ?_ m0 ?_
  ·rintro n s5 ⟨i,ys,its,H5,z5,I5,st5,fr5,hD5,ho5,rv5,w5⟩
   have I5':=I5.pinned (fp:=[D]) (fun b hb=>by rw[qo.mp hb];exact fpD hD5 (fun p hp=>absurd hp (by simp))) (fun b hb=>by
    rw[qo.mp hb];exact⟨_,ho5,fun v q=>nomatch q⟩)
   have pD:∀p∈[]++jk [D] s5.heap,p.1=D:=fun p hp=>by
    rw[Q1] at hp
    exact qo.mp (Zl hp).1
   have mD:(D,({ cls:=.type "list",data:=.seq its.toArray z5 }:Obj))∈[]++jk [D] s5.heap:=by
    rw[Q1];exact jY (qo.mpr rfl) ho5
   have fp5:∀{H':Hp},(∀b∈fp,H' b=none)->∀b∈fp,vm (j3 X ([x]++fr) scope x C { s2 with heap:=h3 } H2 (D::fp)) ([]++jk [D] s5.heap) H' b:=fun hn b hb=>fpB hb (hn b hb) fun p hp=>by
    rw[pD p hp];exact fD b hb
   rcases turn i n ys H5 w5 with ⟨stop,hlen,q⟩ | ⟨go,N,hN,step⟩
   ·refine thn (T.done (j3 X ([x]++fr) scope x C { s2 with heap:=h3 } H2 (D::fp)) rfl rfl rfl hc i _ s5 _ H5 _ I5' (fp5 fr5) st5 stop) fun r s6 ⟨hr,I6⟩=>?_
    subst hr
    obtain⟨m6,hn6,_⟩:=I6.loc
    obtain⟨o6,nD6,_⟩:=I6.pin (D,_) (jL _ mD)
    have k7:∀b o,b≠C->s6.heap.get? b=some o->s6.heap.get? b=some o:=fun b o _ e=>e
    have J0:Inv X pins σ (upd H5 D (.lst ys)) s6:=by
     refine I3.call' (s':=s6) (ch:=D::fp) I6.os (Vm (zb4 I6.base (yn eC) k7) j8 (I2.hok.fresh ?_)) (JP (zaM I6.hok I6.free k7) nD6 ⟨hlen,its,z5,rv5,k7 D _ hDl o6⟩) I6.bare fun b hb=>?_
     ·rw[<- eD];exact zJ _
     ·rcases zZ.mp hb with y | hb
      ·subst y
       refine⟨.inr (by rw[<- eD];exact I2.sz),by rw[<- eD];exact vc I2.lt,fun x c e=>?_,fun p hp=>?_⟩
       ·obtain⟨v,q⟩:=I2.cell x c e
        rw[<- eD];exact qm q.lt
       ·rw[<- eD];exact qm (zR (I2.pin p hp).1)
      ·obtain⟨_,g1,_,g3,g4,g5⟩:=f2 b hb
       exact⟨g3,g1,g4,g5⟩
    obtain⟨oC,eoC,dC⟩:∃o,s6.heap.get? C=some o/\∀v,o.data≠.cell v:=by
     obtain⟨o,es,ep,ho,hd,_⟩:=hn6
     exact⟨o,ho,fun v z=>by rw[hd] at z;cases z⟩
    have hC0:(upd H5 D (.lst ys)) C=none:=by
     rw[zi (qy hDl)];exact I6.free
    have J1:=J0.pinned (fp:=[C]) (fun b hb=>by rw[qo.mp hb];exact⟨hC0,fpC⟩) (fun b hb=>by rw[qo.mp hb];exact⟨oC,eoC,dC⟩)
    have mC:(C,oC)∈pins++jk [C] s6.heap:=jL _ (jY (qo.mpr rfl) eoC)
    refine thn (hg2 _ s6 σ _ (.ref D) (.ref D) _ J1 rfl (q D nD6)) fun _ s8 ⟨σ8,H8,I8,q8⟩=>?_
    obtain⟨e8,n8,_⟩:=I8.pin (C,oC) (jL _ mC)
    refine⟨m6,?_,fun h9 hs9=>⟨σ8,H8,?_,q8⟩⟩
    ·obtain⟨o,es,ep,ho,r⟩:=hn6
     have ho':s6.heap.get? C=some o:=ho
     rw[eoC] at ho';cases ho'
     exact⟨oC,es,ep,e8,r⟩
    ·obtain⟨g1,_,g3,g4,g5⟩:=fpC
     exact(I8.unpinned).turned (t':=s8.toks) (it:=C) (fun b o hb e=>hs9.extBut b o hb e) n8 g1 g3 g4 g5
   ·refine thn (T.item (j3 X ([x]++fr) scope x C { s2 with heap:=h3 } H2 (D::fp)) rfl rfl rfl hc i _ s5 _ H5 _ I5' (fp5 fr5) st5 go) fun r s6 ⟨u,hr,h6⟩=>?_
    subst hr
    refine thn h6 fun _ s7 ⟨x7,H7,I7,r7,y7,st7,fr7⟩=>?_
    have I7':=I7.pinned (fp5 fr7) (T.obj _ _ st7)
    refine thn (hg _ _ _ _ _ s7 _ H7 x7 u _ I7' r7 (step x7 H7 y7)) fun _ s8 ⟨σ8,H8,I8,hd8,q8⟩=>?_
    refine thn (hf _ _ _ _ _ s8 σ8 H8 _ I8 q8) fun ok s9 ⟨H9,I9,q9⟩=>?_
    have weak:∀{H':Hp} {s':Shared},Inv (j3 X ([x]++fr) scope x C { s2 with heap:=h3 } H2 (D::fp)) (([]++jk [D] s5.heap)++jk fp s7.heap) σ8 H' s' ->
      Inv (j3 X ([x]++fr) scope x C { s2 with heap:=h3 } H2 (D::fp)) [] (upS 1 js σ) H' s':=fun {H' s'} J=>by
     refine(J.unpinned).unpinned.weak (I5.len.trans J.len.symm) fun k v e=>?_
     obtain⟨hn,e1,_⟩:=yy e
     rw[<- hd8,X7] at e1
     rw[<- e1]
     congr 1
     omega
    have mF:∀b∈fp,∀o,s7.heap.get? b=some o->(b,o)∈([]++jk [D] s5.heap)++jk fp s7.heap:=fun b hb o e=>jL _ (jY hb e)
    have mD':=vw (jk fp s7.heap) mD
    have frB:∀{H':Hp} {s':Shared},Inv (j3 X ([x]++fr) scope x C { s2 with heap:=h3 } H2 (D::fp)) (([]++jk [D] s5.heap)++jk fp s7.heap) σ8 H' s'->∀b∈fp,H' b=none:=fun {H' s'} J b hb=>by
     obtain⟨o,e,_⟩:=T.obj _ _ st7 b hb
     exact(J.pin (b,o) (jL _ (mF b hb o e))).2.1
    cases ok with
    | false=>
     have q9':N ys H9:=by simpa using q9
     obtain⟨m',hm,w'⟩:=hN _ _ q9'
     obtain⟨o9,nD9,_⟩:=I9.pin (D,_) (jL _ mD')
     exact⟨m',hm,i+1,ys,its,H9,z5,weak I9,T.keep _ _ _ st7 fun b hb o e=>(I9.pin (b,o) (jL _ (mF b hb o e))).1,frB I9,nD9,o9,rv5,w'⟩
    | true=>
     have q9':te σ8 H9 fun y H6=>ys.length<sizeLine/\N (ys++[y]) H6:=by simpa using q9
     refine thn (he _ _ _ _ _ s9 σ8 H9 _ I9 q9') fun yv s10 ⟨y,H10,I10,r10,hlt,w10⟩=>?_
     obtain⟨m',hm,w'⟩:=hN _ _ w10
     obtain⟨o10,nD10,_⟩:=I10.pin (D,_) (jL _ mD')
     refine wpAny_list_append_plain (l:=D) (items:=its.toArray) (hsz:=by rw[qv,<- rv5.length];exact yo hlt) ⟨_,o10⟩ fun h11 hl11 hs11=>?_
     obtain⟨z11,e11⟩:=hl11
     refine⟨m',hm,i+1,ys++[y],its++[yv],H10,z11,?_,T.keep _ _ _ st7 fun b hb o e=>hs11.extBut b o (qy (fD b hb)) (I10.pin (b,o) (jL _ (mF b hb o e))).1,frB I10,nD10,?_,rv5.append (.cons r10 .nil),w'⟩
     ·exact(weak I10).turned (t':=s10.toks) (it:=D) (fun b o hb e=>hs11.extBut b o hb e) nD10 hDl (.inl j8) (fun x c e=>hx x c e) fun p hp=>absurd (show p∈([]:List (Addr×Obj)) from hp) (by simp)
     ·rw[e11];simp
  ·subst e4
   exact⟨0,[],[],H2,0,I4,T.keep _ _ _ st2 fun b hb o e=>k4 b o (k3 b o e),fun b hb=>(f2 b hb).1,I2.hok.fresh (by rw[<- eD];exact zJ _),hacc,.nil,w0⟩
 exact codeAny_compStart_list (loop _ rfl) (T.self X.A 0 _ _ _ (T.keep _ _ _ st2 fun b hb o e=>k4 b o (k3 b o e)) (loop _ rfl))
theorem zf6{px:Pos}{yt:Str}{py spos:Pos}{g2:TG}(fr:List Str)(js:List Nat)(hc:X.calm=true)(hk:scope.kind=.function)(hb:XN scope.names X.env.scope.names X.N x fr js=true)(hi:PI X (.Name x px) iter wi)
  (hf:∀C s H ex,PF (j3 X ([x]++fr) scope x C s H ex) ifs tf) (he:∀C s H ex,PE (j3 X ([x]++fr) scope x C s H ex) elt te)
  (hg2:PG X (.Name yt py) g2) (hsw:swapsWith (.ListComp elt [⟨.Name x px,iter,ifs,0⟩] scope pos) (some (.Name yt py)) spos.line X.env=pure true:=by rfl)
  (hs:∀x,foldedSetIterable iter X.env x=pure x:=by intro _;rfl):PS X (.Assign [.Name yt py] (.ListComp elt [⟨.Name x px,iter,ifs,0⟩] scope pos) spos) (WA (tLC wi 1 js (vY 0) tf te) g2):=by
 have B:=J2 hb
 refine zf7 fr js hc hk hb hi (fun C s H ex=>?_) hf he hg2 hsw hs
 have lk:(compEnvC scope ((x,C+1)::jF X.env.cells scope.names []) C X.env).scope.names.lookup x=some .cell:=yg B.lk
 exact zy (X:=j3 X ([x]++fr) scope x C s H ex) B.nd rfl (.inr lk) (.inl (by show(x==x)=true;simp))
variable{y:Str}{px py tp:Pos}{kk:Nat}
theorem zei{K:PySem.W.Frag}(hK:X.K=K)(fr:List Str)(js:List Nat)(hc:X.calm=true)(hk:scope.kind=.function)(hb:yk scope.names X.env.scope.names X.N [x,y] fr js=true)(hi:PI X (.Tuple [.Name x px,.Name y py] kk tp) iter wi)
  (hf:∀C s H ex,PF (jd X ([x,y]++fr) scope C s H ex) ifs tf) (he:∀C s H ex,PE (jd X ([x,y]++fr) scope C s H ex) elt te)
  (hs:∀x,foldedSetIterable iter X.env x=pure x:=by intro _;rfl):PE X (.ListComp elt [⟨.Tuple [.Name x px,.Name y py] kk tp,iter,ifs,0⟩] scope pos) (tLC wi 2 js (zds K 2 (ZD (vY 0) (ZD (vY 1) zeO))) tf te):=by
 subst hK
 exact vA fr js hc hk hb hi hf he hs
end
def Up(xs:Array Nat):Prop:=xs.toList.Pairwise (·< ·)
theorem Up.lt{xs:Array Nat}(h:Up xs){i j:Nat}{a b:Nat}(hi:xs[i]? =some a)(hj:xs[j]? =some b)(hij:i<j):a<b:=by
 have h1:=YB.mp hi
 have h2:=YB.mp hj
 obtain⟨l1,e1⟩:=h1
 obtain⟨l2,e2⟩:=h2
 have:=List.pairwise_iff_getElem.mp h i j (by simpa using l1) (by simpa using l2) hij
 simpa [e1,e2] using this
structure TabOk(b:Bool)(t:SetTable):Prop where
 up:Up t.place
 no:t.dummies=#[]
 led:t.led=b
theorem zb2(n:Nat):Up (Array.range n):=by
 unfold Up
 rw[Array.toList_range]
 exact List.pairwise_lt_range
theorem TabOk.stand{b:Bool}{t:SetTable}(h:TabOk b t)(n:Nat):TabOk b (t.standIn n):=⟨zb2 n,rfl,h.led⟩
theorem TabOk.plain{b p:Bool}{t:SetTable}(h:TabOk b t):TabOk b { t with plain:=p }:=⟨h.up,h.no,h.led⟩
theorem TabOk.or{b:Bool}{t:SetTable}(h:TabOk b t)(n:Nat):TabOk b (t.orStandIn n):=by
 unfold SetTable.orStandIn
 split
 ·exact h
 ·exact h.stand n
theorem TabOk.fresh(b:Bool):TabOk b (.fresh 0 0 b):=⟨List.Pairwise.nil,rfl,rfl⟩
theorem VR{α β:Type}{R:α->β->Prop}{ys ys':List β}(p:ys'.Perm ys):∀{xs:List α},Paired R xs ys->∃xs',xs'.Perm xs/\Paired R xs' ys':=by
 induction p with
 | nil=>intro xs h;exact⟨xs,.refl _,h⟩
 | cons y _ ih=>
  intro xs h
  cases h with
  | cons r t=>
   obtain⟨xs',p',h'⟩:=ih t
   exact⟨_::xs',p'.cons _,.cons r h'⟩
 | swap y z l=>
  intro xs h
  cases h with
  | cons r t=>
   cases t with
   | cons r2 t2=>exact⟨_,.swap _ _ _,.cons r2 (.cons r t2)⟩
 | trans _ _ ih1 ih2=>
  intro xs h
  obtain⟨x1,p1,h1⟩:=ih2 h
  obtain⟨x2,p2,h2⟩:=ih1 h1
  exact⟨x2,p2.trans p1,h2⟩
theorem Qr{α β:Type}{R:α->β->Prop}{x:α}{y:β}(r:R x y):∀{xs:List α} {ys:List β},Paired R xs ys->Paired R (xs++[x]) (ys++[y])
 | _,_,.nil=>.cons r .nil
 | _,_,.cons h t=>.cons h (Qr r t)
theorem Qq{α β:Type}{R:α->β->Prop}:∀{xs:List α} {ys:List β},Paired R xs ys->(∀x∈xs,∃y∈ys,R x y)/\∀y∈ys,∃x∈xs,R x y
 | _,_,.nil=>⟨fun x h=>(nomatch h),fun y h=>(nomatch h)⟩
 | _,_,.cons h t=>by
  obtain⟨a,b⟩:=Qq t
  refine⟨fun x hx=>?_,fun y hy=>?_⟩
  ·rcases zZ.mp hx with z | z
   ·rw[z];exact⟨_,j8,h⟩
   ·obtain⟨y,hy,r⟩:=a x z
    exact⟨y,jv _ hy,r⟩
  ·rcases zZ.mp hy with z | z
   ·rw[z];exact⟨_,j8,h⟩
   ·obtain⟨x,hx,r⟩:=b y z
    exact⟨x,jv _ hx,r⟩
section
variable{prog:Program}{w:World}{K:Type}[DecidableEq K](knd:KeyKind prog w K)
def ElX(es:List (Int×Value))(ks:List K):Prop:=ElemsOf knd es/\∃ks',ks'.Perm ks/\Paired (fun k (e:Int×Value)=>knd.is k e.2=true) ks' es
def ObX(b:Bool)(o:Obj)(ks:List K):Prop:=∃es ep t,o.ExactSet/\o.data=.set es ep t/\ElX knd es.toList ks/\ks.Nodup/\es.size<scanBound/\t.fits es.size=true/\TabOk b t
def SetX(b:Bool)(h:Heap)(a:Addr)(ks:List K):Prop:=∃o,h.get? a=some o/\ObX knd b o ks
variable{knd}
theorem ElX.perm{es es':List (Int×Value)}{ks:List K}(h:ElX knd es ks)(p:es'.Perm es):ElX knd es' ks:=by
 obtain⟨h1,ks',p',pr⟩:=h
 obtain⟨ks2,p2,pr2⟩:=VR p pr
 exact⟨h1.perm p,ks2,p2.trans p',pr2⟩
theorem ElX.len{es:List (Int×Value)}{ks:List K}(h:ElX knd es ks):es.length=ks.length:=by
 obtain⟨_,ks',p',pr⟩:=h
 rw[<- p'.length_eq]
 exact(XW pr).symm
theorem ElX.mem{es:List (Int×Value)}{ks:List K}(h:ElX knd es ks)(k:K):k∈ks↔∃e∈es,knd.is k e.2=true:=by
 obtain⟨_,ks',p',pr⟩:=h
 obtain⟨a,b⟩:=Qq pr
 rw[<- p'.mem_iff]
 refine⟨a k,fun ⟨e,he,r⟩=>?_⟩
 obtain⟨k',hk,r'⟩:=b e he
 rwa[knd.inj _ _ _ r r']
theorem ElX.snoc{es:List (Int×Value)}{ks:List K}(h:ElX knd es ks){k:K}{x:Value}(hk:knd.is k x=true)(hx:x.scannable=true):ElX knd (es++[(knd.hash k,x)]) (ks++[k]):=by
 obtain⟨h1,ks',p',pr⟩:=h
 exact⟨h1.push hk hx,ks'++[k],p'.append_right _,Qr (R:=fun k (e:Int×Value)=>knd.is k e.2=true) hk pr⟩
theorem SetX.at{b:Bool}{h h':Heap}{a:Addr}{ks:List K}(x:SetX knd b h a ks)(k:∀o,h.get? a=some o->h'.get? a=some o):SetX knd b h' a ks:=let ⟨o,e,r⟩:=x;⟨o,k o e,r⟩
variable{A:Around}{E:Value->Shared->Prop}{s:Shared}
end
section
variable{K:Type}[DecidableEq K]
variable{prog:Program}{w:World}{knd:KeyKind prog w K}{A:Around}{R:Result->Shared->Prop}{it l S:Addr}{items:Array Value}{keys:List K}{b:Bool}
end
section
variable{prog:Program}{w:World}{A:Around}{E:Value->Shared->Prop}{s:Shared}
end
section
variable{prog:Program}{w:World}{K:Type}[DecidableEq K]{knd:KeyKind prog w K}{A:Around}{E:Value->Shared->Prop}{s:Shared}
end
section
variable{M:Model}{A:Around}{E:Value->Shared->Prop}{s:Shared}
end
section
variable{prog:Program}{w:World}{A:Around}{E:Value->Shared->Prop}{h:Heap}{g:Array GenState}{d:Drawn}{tk:Nat}{os:OsState}{it a:Addr}{o:Obj}{es:Array (Int×Value)}{ep:Nat}{t:SetTable}{i:Nat}
end
section
variable{prog:Program}{w:World}{A:Around}{E:Value->Shared->Prop}{s:Shared}{a:Addr}{o:Obj}{es:Array (Int×Value)}{ep:Nat}{t:SetTable}{i sl:Nat}
end
section
variable{prog:Program}{w:World}{A:Around}{E:Value->Shared->Prop}{h:Heap}{g:Array GenState}{d:Drawn}{tk:Nat}{os:OsState}{it a T:Addr}{o oT:Obj}{es:Array (Int×Value)}{ep:Nat}{t:SetTable}{i n c:Nat}{ps:Array Value}
end
section
variable{prog:Program}{w:World}{A:Around}{E:Value->Shared->Prop}{s:Shared}{it:Addr}{oi:Obj}
end
section
variable{prog:Program}{w:World}{A:Around}
variable{it a T:Addr}{o oT:Obj}{es:Array (Int×Value)}{ep c:Nat}{t:SetTable}
end
section
variable{prog:Program}{w:World}{A:Around}{E:Value->Shared->Prop}{s:Shared}{a:Addr}{o:Obj}{es:Array (Int×Value)}{ep:Nat}{t:SetTable}
end
section
variable{X:Cx}
end
section
variable{X:Cx}{elt iter1 iter:Expr}{ifs1 ifs:List Expr}{scope:Scope}{pos:Pos}{wi wi1:TI}{tf tf1:TT}{te:TE}{x y z u:Str}{px py pz pu tp tp2:Pos}{kk kk2:Nat}
variable{oo e:Expr}{ees:List Expr}{to:TE}{tt:TA}{name:Str}{apos cpos:Pos}{T id:String}{r:V->List V->Hp->VK->Prop}
theorem zgf{K:PySem.W.Frag}(hK:X.K=K)(pa:PlainAttrs T)(slot:Slot T name id)(hty:typeOf (.builtin id)=pure (.type "method_descriptor"))(hm:MtR X id r)(ho:PE X oo to)(ha:PA X (e::ees) tt)
  (hbase:attributeBase oo name X.env (eval oo X.env)=eval oo X.env:=by rfl)
  (hfew:((backTo cpos (starEach (e::ees) X.env)).all (fun x=>!x.1)&&(backToKw cpos (keywordEach [] X.env)).all (fun x=>x.1.isSome)&&decide ((e::ees).length+([]:List Keyword).length+(if([]:List Keyword).isEmpty then 0 else 1)<30))=true:=by rfl)
  (hline:(apos.endLine==cpos.line)=true:=by rfl) (hs:starEach (e::ees) X.env=(false,eval e X.env)::starEach ees X.env:=by rfl) (hplain:(backTo cpos (starEach ees X.env)).any (·.1)=false:=by rfl) :
  PE X (.Call (.Attribute oo name apos) (e::ees) [] cpos) (tBM K T r to tt):=by
 subst hK
 exact jm pa slot hty hm ho ha hbase hfew hline hs hplain
end
end L2
namespace L2
open PySem PySem.Spec PyProof.Rows PySem.W
section
variable{n:Nat}{r:Nat->Nat}
structure Gd(n:Nat)(p:Array Nat):Prop where
 pm:p.toList.Perm (List.range n)
theorem Gd.rev{p:Array Nat}(g:Gd n p)(i j:Nat):Gd n (kas_rev p i j):=⟨(Array.perm_iff_toList_perm.mp (mirror_perm p i j _)).trans g.pm⟩
variable{bt:Nat->Nat->Bool}(ri:∀i j,i<n->j<n->r i=r j->i=j)(hb:∀i j,i<n->j<n->bt i j=decide (r i<r j))
include ri hb
end
end L2
namespace L2
open PySem PySem.Spec PyProof.Rows PySem.W
section
variable{prog:Program}{w:World}{A:Around}{E:Value->Shared->Prop}{s:Shared}
end
end L2
namespace L2
open PySem PySem.Spec PyProof.Rows PySem.W
section
variable{X:Cx}{pins:List (Addr×Obj)}{σ:St}{s:Shared}
end
end L2
namespace L2
open PySem PySem.Spec PyProof.Rows PySem.W
section
variable{X:Cx}
end
end L2
namespace L2
open PySem PySem.Spec PyProof.Rows
section
variable{X:Cx}
variable{elt iter:Expr}{ifs:List Expr}{scope:Scope}{pos:Pos}{wi:TI}{tf:TT}{te:TE}{x y z:Str}{px py pz tp:Pos}{kk:Nat}
end
section
variable{X:Cx}
end
section
variable{X:Cx}{elt tg iter:Expr}{ifs:List Expr}{scope:Scope}{pos:Pos}{wi:TI}{g:TG}{tf:TT}{te:TE}{x:Str}
end
end L2
namespace L2
open PySem PySem.Spec PyProof.Rows PySem.W
section
variable{prog:Program}{w:World}{A:Around}{E:Value->Shared->Prop}{s:Shared}
end
end L2
namespace L2
open PySem PySem.Spec PyProof.Rows PySem.W
def PrR(H:Hp)(zs:List V)(ps:List (Int×Int)):Prop:=zs.length=ps.length/\∀(j:Nat) q,ps[j]? =some q->∃T,zs[j]? =some (.ref T)/\H T=some (.tup [.int q.1,.int q.2])
theorem PrR.rev{H:Hp}{zs:List V}{ps:List (Int×Int)}(h:PrR H zs ps):PrR H zs.reverse ps.reverse:=by
 refine⟨by rw[X9,X9,h.1],fun j q e=>?_⟩
 have hj:=(zW.mp e).1
 rw[X9] at hj
 rw[List.getElem?_reverse hj] at e
 obtain⟨T,e1,e2⟩:=h.2 _ q e
 exact⟨T,by rw[List.getElem?_reverse (by rw[h.1];exact hj),h.1];exact e1,e2⟩
section
variable{X:Cx}
def zfJ(X:Cx)(f:Value)(kw:List (Str×Value))(r:List V->Hp->VK->Prop):Prop:=
 ∀(pins:List (Addr×Obj)) (s:Shared) (σ:St) (H:Hp) (xs:List V) (us:List Value) (Q:VK),Inv X pins σ H s->Vals xs us->r xs H Q->wpAny (model X.prog X.w) X.A (call f us kw) (EP X pins σ Q) X.xe s
end
end L2
namespace L2
open PySem PySem.Spec PyProof.Rows
section
variable{X:Cx}
end
def AtQ(K:PySem.W.Frag)(H:Hp)(t:Bool)(a:Addr)(xs:List V):Prop:=if t=true then SqT K H a xs else H a=some (.lst xs)
def SqQ(K:PySem.W.Frag)(H:Hp)(t:Bool)(a:Addr)(xs:List V):Prop:=if t=true then SqT K H a xs else SqL K H a xs
section
variable{X:Cx}
end
end L2
namespace PySem
section
variable{prog:Program}{w:World}{A:Around}{d:Addr}{es:Array DictEntry}{ep:Nat}
end
end PySem
namespace L2
open PySem PySem.Spec PyProof.Rows
section
variable{X:Cx}
end
section
variable{X:Cx}
variable{o e:Expr}{es:List Expr}{to:TE}{t:TA}{name:Str}{apos cpos:Pos}{id:String}{r:V->List V->Hp->VK->Prop}
end
end L2
namespace L2
open PySem PySem.Spec PyProof.Rows PySem.W
section
variable{X:Cx}
end
end L2
namespace L2
open PySem PySem.Spec PyProof.Rows PySem.W
section
variable{X:Cx}
end
end L2
namespace L2
open PySem PySem.Spec PyProof.Rows PySem.W
section
variable{X:Cx}
end
end L2
namespace L2
open PySem PySem.Spec PyProof.Rows PySem.W
section
variable{prog:Program}{w:World}{A:Around}{E:Value->Shared->Prop}{s:Shared}
inductive zbY(prog:Program)(w:World)(A:Around)(s:Shared):List Value->List Value->Bool->Prop
 | nil:zbY prog w A s [] [] false
 | nl {y ys}:zbY prog w A s [] (y::ys) true
 | ln {x xs}:zbY prog w A s (x::xs) [] false
 | eq {x y xs ys b} (h:∀(Q:Bool->Shared->Prop) E,Q true s->wpAny (model prog w) A (eqBool x y) Q E s) (t:zbY prog w A s xs ys b):zbY prog w A s (x::xs) (y::ys) b
 | ne {x y xs ys b} (h:∀(Q:Bool->Shared->Prop) E,Q false s->wpAny (model prog w) A (eqBool x y) Q E s) (g:∀(Q:Value->Shared->Prop) E,Q (.bool b) s->wpAny (model prog w) A (richCompare .Lt x y) Q E s):zbY prog w A s (x::xs) (y::ys) b
theorem eq_int(x y:Int)(t u:Tok){Q:Bool->Shared->Prop}(h:Q (decide (x=y)) s):wpAny (model prog w) A (eqBool (.int x t) (.int y u)) Q E s:=by
 refine(qh prog w).eqBool (a:=Sum.inl x) (b:=Sum.inl y) (wU ⟨t,rfl⟩) (wU ⟨u,rfl⟩) ?_
 rw[show decide ((Sum.inl x:Key)=Sum.inl y)=decide (x=y) from decide_eq_decide.mpr ⟨fun z=>wY z,fun z=>by rw[z]⟩]
 exact h
theorem zeH(x y:Int)(t u:Tok){Q:Value->Shared->Prop}(h:Q (.bool (decide (x<y))) s):wpAny (model prog w) A (richCompare .Lt (.int x t) (.int y u)) Q E s:=
 richCompare_gives (op:=.Lt) (typeIs_int s _ t) (typeIs_int s _ u) F.slot_int_lt F.entry_int_lt (F.args_int_lt_2 _ _) (gives_int_lt _ _ t u) (fun x=>nomatch x) h
end
section
variable{prog:Program}{w:World}{A:Around}{R:Result->Shared->Prop}{I S:Addr}{fp wr:List Addr}{n:Nat}{P:Nat->Value->Prop}{St:Nat->Heap->Prop}
end
end L2
namespace L2
open PySem PySem.Spec PyProof.Rows PySem.W
def WkR(H:Hp)(zs:List V)(ps:List (Int×List Int)):Prop:=zs.length=ps.length/\∀(j:Nat) q,ps[j]? =some q->∃T U,zs[j]? =some (.ref T)/\H T=some (.tup [.int q.1,.ref U])/\H U=some (.tup (q.2.map V.int))
section
variable{X:Cx}
end
end L2
namespace L2
open PySem PySem.Spec PyProof.Rows PySem.W
section
variable{X:Cx}
end
end L2
namespace L2
open PySem PySem.Spec PyProof.Rows
section
variable{X:Cx}
end
section
variable{prog:Program}{w:World}{K:Type}[DecidableEq K]{knd:KeyKind prog w K}{A:Around}{E:Value->Shared->Prop}{s:Shared}
end
section
variable{X:Cx}
end
end L2
namespace L2
open PySem PySem.Spec PyProof.Rows PySem.W
theorem zbV(a:Value):argsOk "min" ⟨[a],[(Str.ofString "default",.none)]⟩:=by unfold argsOk;kernel_rfl
section
variable{prog:Program}{w:World}{A:Around}{R:Result->Shared->Prop}{I S:Addr}{fp wr:List Addr}{n:Nat}{P:Nat->Value->Prop}{St:Nat->Heap->Prop}
theorem WU(W:Walks prog w A.in1 I fp wr n P St)(bt:Nat->Nat->Bool)(J:Heap->Prop)(hJ:∀h h',J h->(∀b o,b∉wr->b≠S->h.get? b=some o->h'.get? b=some o)->J h')
  (hc:∀i j vi vj (s:Shared) (Q:Value->Shared->Prop) (E:Value->Shared->Prop),J s.heap->P i vi->P j vj->Q (.bool (bt i j)) s->wpAny (model prog w) A.in1 (richCompare .Lt vi vj) Q E s) (hSf:S∉fp) :
  ∀(k j:Nat) (s:Shared) (vb:Value) (c:Nat),n=j+1+k->St (j+1) s.heap->J s.heap->P (argBest bt j) vb->s.heap.get? S=some (seqObj "list" #[vb,vb] c) ->
   (∀v h' tk,P (argBest bt (n-1)) v->(∀b o,b∉wr->b≠S->s.heap.get? b=some o->h'.get? b=some o)->R (.ok (.ret v)) { s with heap:=h',toks:=tk }) ->
   codeAny (model prog w) A (.builtin "min.loop" ⟨[.ref I,.none,.ref S],[("default",.none)]⟩) R s:=by
 have nw:S∉wr:=fun h=>hSf (W.sub _ h)
 have nm:(toString "min" ++ toString ".loop" : String) = "min.loop" :=by decide
 intro k
 induction k with
 | zero=>
  intro j s vb c hn st j0 pb hS hR
  refine codeAny_builtin Yi ?_
  rw[Q8 QS _]
  show wpAny _ A.in1 (seqItems? (.ref S) >>= _) _ _ s
  refine zr (vZ hS rfl ?_)
  show wpAny _ A.in1 (tryCatch (pyNext (.ref I)) _ >>= _) _ _ s
  have st':St n s.heap:=by rw[hn];exact st
  refine zr (Zt (W.done s _ _ st' fun h' tk kk=>?_))
  show wpAny _ A.in1 (updateSeq S (fun _=>#[]) >>= _) _ _ _
  refine zr (wpAny_updateSeq (kk S _ nw hS) rfl (zr (ym (zD ?_))))
  exact hR vb _ tk (by rw[hn];exact pb) fun b o b1 b2 e=>(Xa _ _ (qy b2)).trans (kk b o b1 e)
 | succ k ih=>
  intro j s vb c hn st j0 pb hS hR
  refine codeAny_builtin Yi ?_
  rw[Q8 QS _]
  show wpAny _ A.in1 (seqItems? (.ref S) >>= _) _ _ s
  refine zr (vZ hS rfl ?_)
  show wpAny _ A.in1 (tryCatch (pyNext (.ref I)) _ >>= _) _ _ s
  refine zr (Zt (W.item (j+1) s _ _ (by omega) st fun v h' tk pv st2 kk=>?_))
  have hS2:=kk S _ nw hS
  have j2:J h':=hJ _ _ j0 fun b o b1 _ e=>kk b o b1 e
  show wpAny _ A.in1 (tryCatch (holding [v,v] (richCompare .Lt v vb >>= _)) _ >>= _) _ _ _
  refine zr (Zt (w6 (zr (hc (j+1) (argBest bt j) v vb { s with heap:=h',toks:=tk } _ _ j2 pv pb ?_))))
  refine zr (w6 (yY (zr (ym (zD ?_)))))
  cases hb:bt (j+1) (argBest bt j) with
  | true=>
   simp only[if_true]
   refine zr (wpAny_updateSeq hS2 rfl (zr (ym ?_)))
   rw[nm]
   have oth:∀b o,b≠S->h'.get? b=some o->(h'.update S (Obj.mapSeq fun _=>#[v,v])).get? b=some o:=fun b o b2 e=>(Xa _ _ (qy b2)).trans e
   refine zD ⟨plainId_quiet QS _,ih (j+1) _ v _ (by omega) (W.frame _ _ _ st2 fun b bf o e=>oth b o (fun z=>hSf (by rw[<- z];exact bf)) e) (hJ _ _ j2 fun b o _ b2 e=>oth b o b2 e) (by simp only[argBest,hb,if_true];exact pv) (QU _ hS2 rfl) fun v' h2 tk2 p2 k2=>?_⟩
   exact hR v' h2 tk2 p2 fun b o b1 b2 e=>k2 b o b1 b2 (oth b o b2 (kk b o b1 e))
  | false=>
   simp only[J7,if_false]
   refine zr (ym ?_)
   rw[nm]
   refine zD ⟨plainId_quiet QS _,ih (j+1) _ vb c (by omega) st2 j2 (by simp only[argBest,hb,J7,if_false];exact pb) hS2 fun v' h2 tk2 p2 k2=>?_⟩
   exact hR v' h2 tk2 p2 fun b o b1 b2 e=>k2 b o b1 b2 (kk b o b1 e)
end
section
variable{X:Cx}
theorem WI{id:String}{r:List V->Hp->VK->Prop}{x:Str}{p pos kp:Pos}{e kv:Expr}{es:List Expr}{t:TA}(hc:zfJ X (.builtin id) [(Str.ofString "default",.none)] r)(hg:Gl X x)(hm:X.mg x=none)(hv:bootBuiltins x=some (.builtin id))(ha:PA X (e::es) t)(hk:PE X kv (tC .non))
  (hn:x ≠ "__name__" :=by decide) (hdb:(x==("__debug__" : Str))=false:=by decide)
  (he:backTo pos (starEach (e::es) X.env)=(false,eval e X.env)::backTo pos (starEach es X.env):=by rfl)
  (hplain:(backTo pos (starEach (e::es) X.env)).any (·.1)=false:=by rfl) :
  PE X (.Call (.Name x p) (e::es) [⟨some (Str.ofString "default"),kv,kp⟩] pos) (tCB r t):=by
 intro pins s σ H Q I h
 refine wpAny_Call_Name_kw (vC I hg hm hv ?_ hn hdb)
 refine callWith_kw (thn (ha pos pins s σ H _ I h) fun us s1 ⟨vs,H1,I1,r1,q1⟩=>kws_cons (thn (hk pins s1 σ H1 (fun u H2=>u=.non/\r vs H2 Q) I1 ⟨rfl,q1⟩) fun v s2 ⟨u,H2,I2,ru,eu,q2⟩=>kws_nil ?_)) he hplain rfl rfl
 subst eu
 cases(show v=Value.none from ru)
 exact hc pins s2 σ H2 vs us Q I2 r1 q2
end
end L2
namespace L2
open PySem PySem.Spec PyProof.Rows
section
variable{X:Cx}
end
end L2
namespace L2
open PySem PySem.Spec PyProof.Rows PySem.W
theorem za1(f:Nat->Int):∀n,argBest (fun i j=>decide (f i<f j)) n<=n/\∀j,j<=n->f (argBest (fun i j=>decide (f i<f j)) n)<=f j
 | 0=>⟨zJ _,fun j hj=>by rw[show j=0 by omega];exact XS _⟩
 | n+1=>by
  obtain⟨h1,h2⟩:=za1 f n
  cases hb:decide (f (n+1)<f (argBest (fun i j=>decide (f i<f j)) n)) with
  | true=>
   have e:argBest (fun i j=>decide (f i<f j)) (n+1)=n+1:=by simp only[argBest,hb,if_true]
   rw[e]
   refine⟨zJ _,fun j hj=>?_⟩
   have b:=qZ hb
   rcases Nat.lt_or_ge j (n+1) with z | z
   ·have a:=h2 j (by omega)
    omega
   ·rw[show j=n+1 by omega];exact XS _
  | false=>
   have e:argBest (fun i j=>decide (f i<f j)) (n+1)=argBest (fun i j=>decide (f i<f j)) n:=by simp only[argBest,hb,J7,if_false]
   rw[e]
   refine⟨by omega,fun j hj=>?_⟩
   have b:=of_decide_eq_false hb
   rcases Nat.lt_or_ge j (n+1) with z | z
   ·exact h2 j (by omega)
   ·rw[show j=n+1 by omega];omega
section
variable{X:Cx}
inductive y9(K:PySem.W.Frag)(xs:List V)(H:Hp)(Q:VK):Prop
 | mk (p:Addr) (ps:List Int) (_:xs=[.ref p]) (_:SqL K H p (ps.map V.int)) (_:(ps=[]->Q .non H)) (_:∀m,m∈ps->(∀k∈ps,m<=k)->Q (.int m) H):y9 K xs H Q
theorem W6(hc:X.calm=true)(hu:X.A.units+64<cLine):zfJ X (.builtin "min") [(Str.ofString "default",.none)] (y9 X.K):=by
 intro pins s σ H xs us Q I r h
 obtain⟨p,ps,rfl,hq,qn,q⟩:=h
 obtain⟨u,rfl,ru⟩:=vn r
 cases(show u=_ from ru)
 obtain⟨its,rv,pl,hz⟩:=I.list hq
 have hl:=pl.isList
 have len:=rv.length
 have wl:(ps.map V.int).length=ps.length:=zq ..
 have il0:its.length=ps.length:=by rw[<- wl];first| exact len | exact len.symm
 have hplt:p<s.heap.objs.size:=let ⟨_,e,_⟩:=hl;zR e
 have nm:(toString "min" ++ toString ".loop" : String) = "min.loop" :=by decide
 have hu':X.A.in1.in1.units<cLine:=J8 (Yo (by decide:2<=64) _) hu
 have hu2:X.A.in1.units<cLine:=J8 (Yo (by decide:1<=64) _) hu
 have tup:∀(j:Nat) v,its[j]? =some v->∃q t,v=Value.int q t/\ps[j]? =some q:=fun j v hj=>by
  have hjl:=(zW.mp hj).1
  have ek:ps[j]? =some (ps[j]'(by omega)):=ji _
  generalize ps[j]'(by omega)=k at ek
  obtain⟨v',e4,e5⟩:=rv.get (show(ps.map V.int)[j]? =some (.int k) by rw[qr,ek];rfl)
  rw[hj] at e4
  cases e4
  obtain⟨t,rfl⟩:=e5
  exact⟨k,t,rfl,ek⟩
 refine kmk_tree F.kind_min F.plain_min F.entry_min (zbV _) ?_
 show wpAny _ X.A.in1 (Builtin.Builtins.bindParams "min" ["key", "default"] 0 ⟨[],[(Str.ofString "default",.none)]⟩ >>= _) _ _ s
 refine zr (wpAny_of_eq (show Builtin.Builtins.bindParams "min" ["key", "default"] 0 ⟨[],[(Str.ofString "default",.none)]⟩=pure [none,some .none] from rfl) (zr (zD (zr (wpAny_pyIter_list hl ?_)))))
 refine zr (wx ?_)
 rw[nm]
 have hI:s.heap.objs.size<(s.heap.push { cls:=.type "list_iterator",data:=.fields #[.ref p,.int 0 0] }).objs.size:=by rw[xh];exact ZM _
 have it0:(s.heap.push { cls:=.type "list_iterator",data:=.fields #[.ref p,.int 0 0] }).IsListIter s.heap.objs.size p 0:=⟨_,qD _ rfl,rfl,rfl⟩
 have hl1:(s.heap.push { cls:=.type "list_iterator",data:=.fields #[.ref p,.int 0 0] }).IsList p its.toArray:=hl.push _
 have k1:∀b o,s.heap.get? b=some o->(s.heap.push { cls:=.type "list_iterator",data:=.fields #[.ref p,.int 0 0] }).get? b=some o:=fun b o e=>qx _ e
 generalize s.heap.push { cls:=.type "list_iterator",data:=.fields #[.ref p,.int 0 0] }=h1 at hI it0 hl1 k1
 have W:=QX (prog:=X.prog) (w:=X.w) (A:=X.A.in1.in1) (I.ok.hd hc) s.heap.objs.size p (qm hplt) its.toArray
 have W':=QX (prog:=X.prog) (w:=X.w) (A:=X.A.in1) (I.ok.hd hc) s.heap.objs.size p (qm hplt) its.toArray
 have hSf:h1.objs.size∉[s.heap.objs.size,p]:=by
  intro z
  rcases zZ.mp z with z | z
  ·omega
  ·exact vv _ (QZ hplt (qo.mp z▸hI))
 have hS:(h1.push { cls:=.type "list",data:=.seq ([]:List Value).toArray }).get? h1.objs.size=some (seqObj "list" #[] 0):=qD _ rfl
 refine zD ⟨plainId_quiet QS _,codeAny_builtin Yi ?_⟩
 rw[Q8 QS _]
 show wpAny _ _ (seqItems? (.ref h1.objs.size) >>= _) _ _ _
 refine zr (vZ hS rfl ?_)
 show wpAny _ _ (tryCatch (pyNext (.ref s.heap.objs.size)) _ >>= _) _ _ _
 by_cases hne:ps=[]
 ·have il:its.length=0:=by rw[il0,hne];rfl
  have e0:its.toArray.size=0:=by rw[qv];exact il
  refine zr (Zt (W'.done { s with heap:=h1.push { cls:=.type "list",data:=.seq ([]:List Value).toArray } } _ _ (by rw[e0];exact⟨it0.at fun o e=>qx _ e,hl1.push _⟩) fun h' tk kk=>?_))
  show wpAny _ _ (rule _ >>= _) _ _ _
  refine zr (vW ?_)
  refine zD ?_
  exact⟨.non,H,I.kept (h':=h') (t':=tk) (fun b o e=>kk b o (fun z=>qm (zR e) (qo.mp z)) (qx _ (k1 b o e))),rfl,qn hne⟩
 ·have h0:0<ps.length:=X8.mpr hne
  refine zr (Zt (W'.item 0 { s with heap:=h1.push { cls:=.type "list",data:=.seq ([]:List Value).toArray } } _ _ (by rw[qv];omega) ⟨it0.at fun o e=>qx _ e,hl1.push _⟩ fun v h' tk pv st' kk=>?_))
  have nw:h1.objs.size∉[s.heap.objs.size]:=fun z=>hSf (by simp at z;omega)
  have hS':=kk _ _ nw hS
  show wpAny _ _ (updateSeq h1.objs.size (fun _=>#[v,v]) >>= _) _ _ _
  refine zr (wpAny_updateSeq hS' rfl ?_)
  rw[nm]
  have oth:∀b o,b≠h1.objs.size->h'.get? b=some o->(h'.update h1.objs.size (Obj.mapSeq fun _=>#[v,v])).get? b=some o:=fun b o b2 e=>(Xa _ _ (qy b2)).trans e
  have all:∀b o,s.heap.get? b=some o->b≠s.heap.objs.size/\b≠h1.objs.size:=fun b o e=>⟨qm (zR e),qm (QZ (zR e) hI)⟩
  have j0:∀b o,s.heap.get? b=some o->(h'.update h1.objs.size (Obj.mapSeq fun _=>#[v,v])).get? b=some o:=fun b o e=>
   oth b o (all b o e).2 (kk b o (fun z=>(all b o e).1 (qo.mp z)) (qx _ (k1 b o e)))
  refine zD ⟨plainId_quiet QS _,WU (S:=h1.objs.size) W' (fun i j=>decide (ps.getD i 0<ps.getD j 0)) (fun h=>∀b o,s.heap.get? b=some o->h.get? b=some o) (fun h h2 a b c o e=>b c o (fun z=>(all c o e).1 (qo.mp z)) (all c o e).2 (a c o e)) ?_ hSf (its.length-1) 0 _ v _ (by rw[qv];omega) (W'.frame _ _ _ st' fun b bf o e=>oth b o (fun z=>hSf (by rw[<- z];exact bf)) e) j0 pv (QU _ hS' rfl) fun v' h2 tk2 p2 k2=>?_⟩
  ·intro i j vi vj s2 Q2 E2 jj hi hj hq2
   have ei:its[i]? =some vi:=by simpa using hi
   have ej:its[j]? =some vj:=by simpa using hj
   obtain⟨qi,ti,rfl,fi⟩:=tup i vi ei
   obtain⟨qj,tj,rfl,fj⟩:=tup j vj ej
   rw[Xb,fi,Xb,fj] at hq2
   exact zeH _ _ _ _ hq2
  ·rw[qv] at p2
   have hl2:its.length=ps.length:=by omega
   have e2:its[argBest (fun i j=>decide (ps.getD i 0<ps.getD j 0)) (ps.length-1)]? =some v':=by
    rw[<- hl2]
    simpa using p2
   obtain⟨hm,hle⟩:=za1 (fun i=>ps.getD i 0) (ps.length-1)
   obtain⟨m,t,rfl,em⟩:=tup _ _ e2
   have eg:ps.getD (argBest (fun i j=>decide (ps.getD i 0<ps.getD j 0)) (ps.length-1)) 0=m:=by rw[Xb,em];rfl
   refine⟨.int m,H,I.kept (h':=h2) (t':=tk2) (fun b o e=>k2 b o (fun z=>(all b o e).1 (qo.mp z)) (all b o e).2 (j0 b o e)),⟨t,rfl⟩,q m (qU em) fun k hk=>?_⟩
   obtain⟨j,hj,ej⟩:=List.getElem_of_mem hk
   have:=hle j (by omega)
   rw[eg,Xb,ji hj,ej] at this
   exact this
end
end L2
namespace L2
open PySem PySem.Spec PyProof.Rows
section
variable{X:Cx}
end
section
variable{prog:Program}{w:World}{A:Around}{E:Value->Shared->Prop}{s:Shared}
end
section
variable{X:Cx}
end
section
variable{prog:Program}{w:World}{A:Around}{E:Value->Shared->Prop}{R:Result->Shared->Prop}{s:Shared}
variable{K:Type}[DecidableEq K]{knd:KeyKind prog w K}
end
section
variable{X:Cx}{elt tg iter:Expr}{ifs:List Expr}{scope:Scope}{pos:Pos}{wi:TI}{g:TG}{tf:TT}{te:TE}
end
section
variable{X:Cx}{x y:Str}{px py tp:Pos}{kk:Nat}{elt iter:Expr}{ifs:List Expr}{scope:Scope}{pos:Pos}{wi:TI}{tf:TT}{te:TE}
end
section
variable{X:Cx}
end
open Sem (wp)
section
variable{X:Cx}
end
end L2
namespace L2
open PySem PySem.Spec PyProof.Rows
section
variable{X:Cx}{pos:Pos}
end
end L2
namespace L2
open PySem PySem.Spec PyProof.Rows PySem.W
section
variable{X:Cx}
variable{tg:Expr}
end
end L2
namespace L2
open PySem PySem.Spec PyProof.Rows
section
variable{prog:Program}{w:World}{K:Type}[DecidableEq K](knd:KeyKind prog w K)
variable{knd}
variable{A:Around}{E:Value->Shared->Prop}{s:Shared}
end
end L2
namespace PySem
section
variable{prog:Program}{w:World}{A:Around}{E:Value->Shared->Prop}{s:Shared}{d it:Addr}{es:Array DictEntry}{ep i:Nat}
end
end PySem
namespace L2
open PySem PySem.Spec PyProof.Rows PySem.W
section
variable{X:Cx}{pins:List (Addr×Obj)}{σ:St}{H:Hp}{s:Shared}
end
end L2
namespace L2
open PySem PySem.Spec PyProof.Rows PySem.W
section
variable{X:Cx}
end
end L2
namespace L2
open PySem PySem.Spec PyProof.Rows
abbrev zgY:=Addr->V->V->Hp->(Hp->Prop)->Prop
section
variable{X:Cx}{kx vx tg iter:Expr}{ifs:List Expr}{scope:Scope}{pos:Pos}{wi:TI}{g:TG}{tf:TT}{tk tv:TE}{mk:Addr->HO}{t:zgY}
end
end L2
namespace L2
open PySem PySem.Spec PyProof.Rows PySem.W
section
variable{X:Cx}{elt kx vx iter:Expr}{ifs:List Expr}{scope:Scope}{pos:Pos}{wi:TI}{tf:TT}{te tk tv:TE}{mk:Addr->HO}{t:zgY}{x y z u:Str}{px py pz pu tp tp2 tp3:Pos}{kk kk2 kk3:Nat}
end
end L2
namespace L2
open PySem PySem.Spec PyProof.Rows
section
variable{X:Cx}{kx vx tg iter:Expr}{ifs:List Expr}{scope:Scope}{pos:Pos}{wi:TI}{g:TG}{tf:TT}{tk tv:TE}{mk:Addr->HO}{t:zgY}
end
end L2
namespace L2
open PySem PySem.Spec PyProof.Rows PySem.W
end L2
namespace L2
open PySem PySem.W PySem.Spec PyProof.Rows
section
variable{X:Cx}
end
end L2
namespace L2
open PySem PySem.Spec PyProof.Rows
def pr2(q:Int×Int):List V:=[.int q.1,.int q.2]
section
variable{X:Cx}{pins:List (Addr×Obj)}{σ:St}{H:Hp}{s:Shared}
end
section
variable{X:Cx}
end
def eqS:Dat->V->Bool
 | .non,.non=>true
 | .bl a,.bl b=>a==b
 | .bl a,.int b=>(if a then 1 else 0)==b
 | .int a,.bl b=>a==(if b then 1 else 0)
 | .int a,.int b=>a==b
 | .str a,.str b=>a==b
 | _,_=>false
section
variable{X:Cx}
inductive Xg(K:PySem.W.Frag)(x:V)(y:V)(H:Hp)(Q:VK):Prop
 | mk (d:_) (_:Rep K H d x) (_:xg y=true) (_:Q (.bl (eqS d y)) H):Xg K x y H Q
theorem Xv(hu:X.A.units<cLine):OpR X (compareOp .Eq) (Xg X.K):=by
 intro pins s σ H x y v u Q I rx ry h
 obtain⟨d,rd,fy,q⟩:=h
 have fin:∀{b:Bool},b=eqS d y->SeqAt.RcAt X.A s v u b->wpAny (model X.prog X.w) X.A (compareOp .Eq v u) (fun w' s'=>∃z H',Inv X pins σ H' s'/\RelV z w'/\Q z H') X.xe s:=fun e r=>r _ _ _ _ ⟨.bl _,H,I,rfl,by rw[e];exact q⟩
 cases d with
 | non=>
  cases(show x=_ from rd)
  cases(show v=_ from rx)
  cases y with
  | non=>cases ry;exact fin rfl SeqAt.RcAt.none_none
  | bl b=>cases ry;exact fin rfl (SeqAt.RcAt.none_bool b)
  | int b=>obtain⟨t,rfl⟩:=ry;exact fin rfl (SeqAt.RcAt.none_int b t)
  | str b=>obtain⟨t,rfl⟩:=ry;exact fin rfl (SeqAt.RcAt.none_str b t)
  | _=>exact absurd (show false=true from fy) qC
 | bl a=>
  cases(show x=_ from rd)
  cases(show v=_ from rx)
  cases y with
  | non=>cases ry;exact fin rfl (SeqAt.RcAt.bool_none a)
  | bl b=>cases ry;exact fin rfl (SeqAt.RcAt.bool_bool a b)
  | int b=>obtain⟨t,rfl⟩:=ry;exact fin rfl (SeqAt.RcAt.bool_int a b t)
  | str b=>obtain⟨t,rfl⟩:=ry;exact fin rfl (SeqAt.RcAt.bool_str a b t)
  | _=>exact absurd (show false=true from fy) qC
 | int a=>
  cases(show x=_ from rd)
  obtain⟨ta,rfl⟩:=rx
  cases y with
  | non=>cases ry;exact fin rfl (SeqAt.RcAt.int_none a ta)
  | bl b=>cases ry;exact fin rfl (SeqAt.RcAt.int_bool a ta b)
  | int b=>obtain⟨t,rfl⟩:=ry;exact fin rfl (SeqAt.RcAt.int_int a ta b t)
  | str b=>obtain⟨t,rfl⟩:=ry;exact fin rfl (SeqAt.RcAt.int_str a ta b t)
  | _=>exact absurd (show false=true from fy) qC
 | str a=>
  cases(show x=_ from rd)
  obtain⟨ta,rfl⟩:=rx
  cases y with
  | non=>cases ry;exact fin rfl (SeqAt.RcAt.str_none a ta)
  | bl b=>cases ry;exact fin rfl (SeqAt.RcAt.str_bool a ta b)
  | int b=>obtain⟨t,rfl⟩:=ry;exact fin rfl (SeqAt.RcAt.str_int a ta b t)
  | str b=>obtain⟨t,rfl⟩:=ry;exact fin rfl (SeqAt.RcAt.str_str a ta b t)
  | _=>exact absurd (show false=true from fy) qC
 | lst ds=>
  obtain⟨a,xs,rfl,hq,_⟩:=id rd
  cases(show v=_ from rx)
  obtain⟨its,r,pl,hz⟩:=I.list hq
  cases y with
  | non=>cases ry;exact fin rfl (SeqAt.RcAt.list_none pl.isList hu)
  | bl b=>cases ry;exact fin rfl (SeqAt.RcAt.list_bool b pl.isList hu)
  | int b=>obtain⟨t,rfl⟩:=ry;exact fin rfl (SeqAt.RcAt.list_int b t pl.isList hu)
  | str b=>obtain⟨t,rfl⟩:=ry;exact fin rfl (SeqAt.RcAt.list_str b t pl.isList hu)
  | _=>exact absurd (show false=true from fy) qC
 | tup ds=>
  obtain⟨a,xs,rfl,hq,_⟩:=id rd
  cases(show v=_ from rx)
  obtain⟨its,r,pl,hz⟩:=I.tuple hq
  cases y with
  | non=>cases ry;exact fin rfl (SeqAt.RcAt.tuple_none pl hu)
  | bl b=>cases ry;exact fin rfl (SeqAt.RcAt.tuple_bool b pl hu)
  | int b=>obtain⟨t,rfl⟩:=ry;exact fin rfl (SeqAt.RcAt.tuple_int b t pl hu)
  | str b=>obtain⟨t,rfl⟩:=ry;exact fin rfl (SeqAt.RcAt.tuple_str b t pl hu)
  | _=>exact absurd (show false=true from fy) qC
end
def BoxAt(H:Hp)(b:Addr)(n:Int):Prop:=∃b0 b1 b2:Int,H b=some (.lst [.int b0,.int b1,.int b2])/\0<=b0/\0<=b1/\b1<2147483648/\0<=b2/\b2<=n
def SameB(b:Addr)(H H':Hp):Prop:=∀c o,H c=some o->c≠b->H' c=some o
theorem ZH{i j:Int}(h1:0<=i)(h2:i<18446744073709551616):CMul i j:=by
 have e1:(-(2^64):Int)= -18446744073709551616:=by decide
 have e2:((2^64):Int)=18446744073709551616:=by decide
 refine .inl ⟨?_,?_⟩
 ·rw[e1];omega
 ·rw[e2];exact h2
theorem zfH{a m j:Int}(h:0<m)(h2:m<18446744073709551616):CMul (a % m) j:=ZH (yU _ (by omega)) (Int.lt_trans (y3 _ h) h2)
section
variable{P:Program}{w:World}{K:PySem.W.Frag}{mg:Str->Option Value}{base:Heap}
inductive Vq(vs:List V)(H:Hp)(Q:VK):Prop
 | mk (b:Addr) (size n:Int) (_:vs=[.ref b,.int size]) (_:BoxAt H b n) (_:n<1099511627776) (_:0<size) (_:size<1073741824) (_:∀(r:Int) H',0<=r->r<size->BoxAt H' b (n+1)->SameB b H H'->Q (.int r) H'):Vq  vs H Q
def jW:Sp:=fun vs H Q _=>Vq  vs H Q
theorem zct:zF ["_law_box_here", "_law_size", "_law_found", "_law_step", "_law_once", "_law_twice"] ["_law_box_here", "_law_size"] (zt (topL 29)):=⟨rfl,rfl,rfl,by decide +kernel,rfl,by decide +kernel,by decide +kernel⟩
theorem zeq{f:Addr}{fd:FuncData}(F:Fun K "_law_take" "_law_take" (topL 29) f fd)(B:Blt mg):qH P w K mg base CX0 1 f fd ["_law_box_here", "_law_size"] jW:=by
 have nd:=zct.nd
 refine F.ok zct (fun vs H Q E h=>?_) (fun cdv A outer s H vs Q E hr h=>?_)
 ·obtain⟨b,size,n,rfl,_⟩:=h
  rfl
 ·obtain⟨b,size,n,rfl,⟨b0,b1,b2,hb,p0,p1,p1',p2,p2'⟩,hn,hs0,hs1,k⟩:=h
  refine⟨_,(zg (je (zO Qt (zu zS (pv 0) zf (fun _ _=>rfl)) zf (zQ _))
   (zg (xj (zp Wm rfl B.divmod Wn (za (zu zS (pv 0) zf (fun _ _=>rfl)) (za (pv 1) ze))) (xm rfl (zT (Zh (pv 0) zf vF) (zT (zy (i:=2) nd rfl (Or.inl rfl)) jN))))
    (zo (zE (pv 2))))
   qI)
   (zg (xj (zA qw (zu zS (pv 0) zf (fun _ _=>rfl)) zf) (Zh (pv 0) zf vF))
   (zg (zC (i:=3) nd rfl (Or.inl rfl) (zA qw zf (zA va (zu zS (pv 0) zf (fun _ _=>rfl)) (zu zS (pv 0) zf (fun _ _=>rfl)))))
   (zg (zC (i:=4) nd rfl (Or.inl rfl) (zA xY (zA va (zA qw (zu zS (pv 0) zf (fun _ _=>rfl)) (zA va zf (zu zS (pv 0) zf (fun _ _=>rfl)))) (pv 3)) zf))
   (zg (zC (i:=5) nd rfl (Or.inl rfl) (zA xY (zA qw (zA va (pv 4) (zA qw (zA xY (pv 4) zf) zf)) (zu zS (pv 0) zf (fun _ _=>rfl))) zf))
   (zo (zE (zA xY (zA zax (zA xY (zA va (pv 5) (zA qw (zA xY (pv 5) zf) zf)) zf) zf) (pv 1))))))))),?_⟩
  refine⟨_,rfl,b,_,_,_,rfl,rfl,SqL.of hb,rfl,_,_,rfl,rfl,_,rfl,?_⟩
  refine jA (fun c=>?_) (fun c=>?_)
  ·refine⟨_,rfl,b,_,_,_,rfl,rfl,SqL.of hb,rfl,_,rfl,_,_,rfl,⟨hs0,hs1⟩,fun p hp=>?_⟩
   have hbp:b≠p:=zn hb hp
   refine⟨p,_,rfl,SqT.of zb,rfl,_,_,rfl,_,rfl,b,_,_,_,rfl,rfl,(by rw[zi hbp];exact hb),rfl,_,_,rfl,rfl,_,rfl,?_⟩
   refine k _ _ (yU _ (by omega)) (y3 _ hs0) ⟨_,b1,b2,zb,Int.ediv_nonneg p0 (by omega),p1,p1',p2,by omega⟩ fun d o e hd=>?_
   rw[zi hd,zi (zn e hp)]
   exact e
  ·refine⟨_,rfl,b,_,_,_,rfl,rfl,SqL.of hb,rfl,_,_,rfl,rfl,_,rfl,b,_,_,_,rfl,rfl,hb,rfl,?_⟩
   have hb1:upd H b (.lst [.int b0,.int b1,.int (b2+1)]) b=some (.lst [.int b0,.int b1,.int (b2+1)]):=zb
   refine⟨_,rfl,b,_,_,_,rfl,rfl,SqL.of hb1,rfl,_,rfl,b,_,_,_,rfl,rfl,SqL.of hb1,rfl,_,_,rfl,rfl,ZH (by omega) (by omega),_,_,rfl,rfl,?_⟩
   refine⟨_,rfl,b,_,_,_,rfl,rfl,SqL.of hb1,rfl,_,rfl,b,_,_,_,rfl,rfl,SqL.of hb1,rfl,_,_,rfl,rfl,ZH (by omega) (by omega),_,_,rfl,rfl,_,rfl,_,_,rfl,rfl,ZH (by omega) (by omega),_,_,rfl,rfl,(by show(0:Int)<_;decide),?_⟩
   refine⟨_,rfl,_,rfl,_,_,rfl,rfl,(by show(0:Int)<_;decide),_,_,rfl,rfl,_,_,rfl,rfl,zfH (by decide) (by decide),_,rfl,b,_,_,_,rfl,rfl,SqL.of hb1,rfl,_,_,rfl,rfl,_,_,rfl,rfl,(by show(0:Int)<_;decide),?_⟩
   refine⟨_,rfl,_,rfl,_,_,rfl,rfl,(by show(0:Int)<_;decide),_,_,rfl,rfl,_,_,rfl,rfl,zfH (by decide) (by decide),_,_,rfl,rfl,(by show(0:Int)<_;decide),_,_,rfl,rfl,⟨by decide,by decide⟩,_,rfl,_,_,rfl,rfl,hs0,?_⟩
   refine k _ _ (yU _ (by omega)) (y3 _ hs0) ⟨b0,b1,b2+1,hb1,p0,p1,p1',by omega,by omega⟩ fun d o e hd=>?_
   rw[zi hd]
   exact e
inductive zad(K:PySem.W.Frag)(vs:List V)(H:Hp)(Q:VK):Prop
 | mk (a:Addr) (ns:List Int) (j:Nat) (_:vs=[.ref a,.int j]) (_:SqL K H a (ns.map V.int)) (_:j<=100) (_:∀p o,H p=none->BoxAt (upd H p o) p 0->Q (.ref p) (upd H p o)):zad K vs H Q
def zfe(K:PySem.W.Frag):Sp:=fun vs H Q _=>zad K vs H Q
theorem zfu:zF ["_law_script", "_law_k", "_law_cell"] ["_law_script", "_law_k"] (zt (topL 28)):=⟨rfl,rfl,rfl,by decide +kernel,rfl,by decide +kernel,by decide +kernel⟩
theorem zaY{c:Int}{j:Nat}(hj:j<=100):CMul (yw c) (if decide (10^18<=yw c)=true then 1 else 0):=by
 refine .inr ?_
 split
 ·exact⟨by decide,by decide⟩
 ·exact⟨by decide,by decide⟩
theorem zdH{c:Int}:0<=yw c*(if decide (10^18<=yw c)=true then 1 else 0):=by
 have h:0<=yw c:=by unfold yw;split<;>omega
 split
 ·rw[Int.mul_one];exact h
 ·rw[Int.mul_zero];exact XS 0
theorem zgx{f:Addr}{fd:FuncData}(F:Fun K "_law_box" "_law_box" (topL 28) f fd)(B:Blt mg):qH P w K mg base CX0 1 f fd ["_law_script", "_law_k"] (zfe K):=by
 have nd:=zfu.nd
 refine F.ok zfu (fun vs H Q E h=>?_) (fun cdv A outer s H vs Q E hr h=>?_)
 ·obtain⟨a,ns,j,rfl,_⟩:=h
  rfl
 ·obtain⟨a,ns,j,rfl,hS,hj,k⟩:=h
  refine⟨_,(zg (zC (i:=2) nd rfl (Or.inl rfl) (jX (zO zcZ (pv 1) (zp zL rfl B.len boot_len (za (pv 0) ze)) (zQ _)) (zu zS (pv 0) (pv 1) (fun _ _=>rfl)) zf))
   (zo (zE (zN (za (zA va (zp vK rfl B.abs vN (za (pv 2) ze)) (qA wR rfl B.int vL (za (qM zfD (zp vK rfl B.abs vN (za (pv 2) ze)) (zA zcX zf zf) (zQ _)) ze))) (za (zA xY (zA va (zA qw (zA qw (zA xY (pv 2) zf) (zA va zf (pv 1))) zf) zf) zf) (za zf ze))))))),?_⟩
  refine⟨_,rfl,_,rfl,a,_,rfl,.inl hS,_,_,rfl,rfl,_,rfl,?_⟩
  refine jA (fun c=>?_) (fun c=>?_)
  ·have hl:j<ns.length:=by
    have:=qZ c
    rw[zq] at this
    omega
   refine⟨_,rfl,_,rfl,a,_,_,.int ns[j],rfl,rfl,hS,qk (by simp[hl]),?_⟩
   generalize ns[j]=z
   refine⟨_,rfl,_,rfl,_,rfl,_,rfl,_,_,rfl,rfl,⟨by decide,by decide,by decide⟩,_,_,rfl,rfl,.inr ⟨_,rfl,_,_,rfl,rfl,zaY hj,_,rfl,_,_,rfl,rfl,(by show(0:Int)<_;decide),_,rfl,_,_,rfl,rfl,ZH (by decide) (by decide),_,_,rfl,rfl,_,_,rfl,rfl,_,_,rfl,rfl,?_,_,_,rfl,rfl,(by show(0:Int)<_;decide),(by rw[sizeLine_eq];exact(by decide:3<=16777216)),fun p hp=>k p _ hp ⟨_,_,_,zb,?_,?_,?_,by decide,by decide⟩⟩⟩
   ·refine ZH ?_ ?_
    ·have:=yU z (show(2147483629:Int)≠0 by decide)
     omega
    ·have:=y3 z (show(0:Int)<2147483629 by decide)
     omega
   ·exact zdH
   ·exact yU _ (by decide)
   ·exact Int.lt_trans (y3 _ (by decide)) (by decide)
  ·refine⟨_,rfl,_,rfl,_,rfl,_,rfl,_,_,rfl,rfl,⟨by decide,by decide,by decide⟩,_,_,rfl,rfl,.inr ⟨_,rfl,_,_,rfl,rfl,zaY hj,_,rfl,_,_,rfl,rfl,(by show(0:Int)<_;decide),_,rfl,_,_,rfl,rfl,ZH (by decide) (by decide),_,_,rfl,rfl,_,_,rfl,rfl,_,_,rfl,rfl,?_,_,_,rfl,rfl,(by show(0:Int)<_;decide),(by rw[sizeLine_eq];exact(by decide:3<=16777216)),fun p hp=>k p _ hp ⟨_,_,_,zb,?_,?_,?_,by decide,by decide⟩⟩⟩
   ·refine ZH ?_ ?_
    ·have:=yU 0 (show(2147483629:Int)≠0 by decide)
     omega
    ·have:=y3 0 (show(0:Int)<2147483629 by decide)
     omega
   ·exact zdH
   ·exact yU _ (by decide)
   ·exact Int.lt_trans (y3 _ (by decide)) (by decide)
theorem Wh{xs:List V}{lo hi:Option Int}{x:V}(h:x∈jB xs lo hi):x∈xs:=List.mem_of_mem_drop (List.mem_of_mem_take h)
theorem XC{n j:Nat}(h:j<n):ixN n (j:Int)=some j:=by
 unfold ixN
 rw[zH (by omega),zH (by omega)];simp
theorem zdB(ns:List Int)(lo hi:Option Int):∃ms:List Int,jB (ns.map V.int) lo hi=ms.map V.int:=by
 refine⟨(ns.drop (HT.sIx ns.length 0 lo)).take (HT.sIx ns.length ns.length hi-HT.sIx ns.length 0 lo),?_⟩
 unfold jB
 rw[zq,List.map_take,List.map_drop]
theorem zeW(ns:List Int)(z:Nat):(jB (ns.map V.int) none (some (z:Int))).length=min z ns.length:=by
 unfold jB
 rw[HT.sIx_nat,HT.sIx_none,qR,yW,zq]
 omega
theorem zeX(ns:List Int)(z:Nat)(hi:Option Int):(jB (ns.map V.int) (some (z:Int)) hi).length<=ns.length-min z ns.length:=by
 unfold jB
 rw[HT.sIx_nat,qR,yW,zq]
 omega
inductive VA(K:PySem.W.Frag)(vs:List V)(H:Hp)(Q:VK):Prop
 | mk (a:Addr) (ns:List Int) (z:Nat) (_:vs=[.ref a,.int z]) (_:SqL K H a (ns.map V.int)) (_:ns.length<=63) (_:1<=z) (_:z<=63) (_:∀(p:Addr) (ms:List Int) H',Same H H'->SqL K H' p (ms.map V.int)->ms.length<=z->Q (.ref p) H'):VA K vs H Q
def zcn(K:PySem.W.Frag):Sp:=fun vs H Q _=>VA K vs H Q
theorem zcD:zF ["_law_script", "_law_size", "_law_cells", "_law_k", "_law_cell"] ["_law_script", "_law_size"] (zt (topL 30)):=⟨rfl,rfl,rfl,by decide +kernel,rfl,by decide +kernel,by decide +kernel⟩
def zbi(a:_)(z:Nat)(p:_)(H:_)(q:_)(ns:List Int):=fun(i:Nat) (σ:St) (H2:Hp)=>(Ex3 fun(ms:List Int) (v3 v4:Option V)=>An5 (σ=[some (.ref a),some (.int z),some (.ref p),v3,v4]) (Same H H2) (H2 p=some (.lst (ms.map V.int))) (H2 q=some (.lst (jB (ns.map V.int) (some (z:Int)) (some 63)))) (ms.length=min z ns.length):Prop)
theorem zeB{f:Addr}{fd:FuncData}(F:Fun K "_law_folded" "_law_folded" (topL 30) f fd)(B:Blt mg):qH P w K mg base CX0 1 f fd ["_law_script", "_law_size"] (zcn K):=by
 have nd:=zcD.nd
 refine F.ok zcD (fun vs H Q E h=>?_) (fun cdv A outer s H vs Q E hr h=>?_)
 ·obtain⟨a,ns,z,rfl,_⟩:=h
  rfl
 ·obtain⟨a,ns,z,rfl,hS,hlen,hz1,hz2,k⟩:=h
  refine⟨_,(zg (zC (i:=2) nd rfl (Or.inl rfl) (qA vV rfl B.list qG (za (jK j5 (pv 0) xK (jz (pv 1))) ze)))
   (zg (qW ju rfl (zeh rfl B.enumerate (za (jK j5 (pv 0) (jz (pv 1)) (jz zf)) ze)) (xm rfl (zT (zy (i:=3) nd rfl (Or.inl rfl)) (zT (zy (i:=4) nd rfl (Or.inl rfl)) jN)))
   (zo (xj (zA qw (zu zS (pv 2) (zA xY (pv 3) (pv 1)) (fun _ _=>rfl)) (zA va (pv 4) (zA qw (pv 3) zf))) (Zh (pv 2) (zA xY (pv 3) (pv 1)) vF))))
   (zo (zE (pv 2))))),?_⟩
  refine⟨_,rfl,_,rfl,_,rfl,a,_,rfl,hS,fun l hl=>⟨l,_,rfl,.inl (SqL.of zb),fun p hp=>?_⟩⟩
  have s1:Same H (upd (upd H l (.lst (jB (ns.map V.int) none (some (z:Int))))) p (.lst (jB (ns.map V.int) none (some (z:Int))))):=(zd hl).trans (zd hp)
  generalize hH1:upd (upd H l (.lst (jB (ns.map V.int) none (some (z:Int))))) p (.lst (jB (ns.map V.int) none (some (z:Int))))=H1 at s1
  have hp1:H1 p=some (.lst (jB (ns.map V.int) none (some (z:Int)))):=by rw[<- hH1];exact zb
  have np:H p=none:=(zd hl).free hp
  refine⟨_,rfl,_,rfl,_,rfl,_,rfl,a,_,rfl,s1.seq hS,fun q hq=>⟨q,rfl,⟨_,SqL.of zb⟩,?_⟩⟩
  have npq:p≠q:=zn hp1 hq
  obtain⟨ms0,hms0⟩:=zdB ns none (some (z:Int))
  have lo:=zeW ns z
  have hi:=zeX ns z (some 63)
  refine zdu (K:=K) (a:=q) (xs:=jB (ns.map V.int) (some (z:Int)) (some 63)) (zbi a z p H q ns)
   ⟨ms0,none,none,rfl,s1.trans (zd hq),by rw[zi npq,hp1,hms0],zb,by rw[<- lo,hms0,zq]⟩ (fun i σ H2 _ ⟨_,_,_,_,_,_,h,_⟩=>SqL.of h) ?_ ?_
  ·rintro i x σ H2 T hx ⟨ms,v3,v4,rfl,sm,hp2,hq2,hml⟩ hT
   have hil:i<(jB (ns.map V.int) (some (z:Int)) (some 63)).length:=(zW.mp hx).1
   obtain⟨c,rfl⟩:∃c,x=V.int c:=by
    have:=Wh (qU hx)
    obtain⟨c,_,e⟩:=qB.mp this
    exact⟨c,e.symm⟩
   have hj:i % z<ms.length:=by
    have:=Nat.mod_lt i (show 0<z by omega)
    omega
   have npT:p≠T:=zn hp2 hT
   have nqT:q≠T:=zn hq2 hT
   have hp3:upd H2 T (.tup [.int i,.int c]) p=some (.lst (ms.map V.int)):=by rw[zi npT];exact hp2
   have em:((i % z:Nat):Int)=(i:Int) % (z:Int):=Int.natCast_emod i z
   have hz0:(0:Int)<(z:Int):=by omega
   refine⟨T,_,rfl,SqT.of zb,rfl,_,_,rfl,_,_,rfl,rfl,?_⟩
   refine⟨_,rfl,_,rfl,_,rfl,_,_,rfl,rfl,hz0,p,_,_,.int ms[i % z],rfl,rfl,SqL.of hp3,(by rw[<- em];exact qk (by simp[hj])),?_⟩
   refine⟨_,rfl,_,rfl,_,_,rfl,rfl,_,_,rfl,rfl,.inr ⟨?_,?_⟩,_,_,rfl,rfl,?_⟩
   ·have e1:(-(2^64):Int)= -18446744073709551616:=by decide
    rw[e1];omega
   ·have e2:((2^64):Int)=18446744073709551616:=by decide
    rw[e2];omega
   refine⟨_,rfl,_,rfl,_,rfl,_,_,rfl,rfl,hz0,p,_,_,i % z,rfl,rfl,hp3,(by rw[<- em,zq];exact XC hj),?_⟩
   refine⟨ms.set (i % z) (ms[i % z]+c*((i:Int)+2)),_,_,rfl,fun d o e=>?_,by rw[zb,List.map_set],?_,by rw[Ye];exact hml⟩
   ·rw[zi (zn e np),zi (zn (sm d o e) hT)]
    exact sm d o e
   ·rw[zi (qy npq),zi nqT]
    exact hq2
  ·rintro σ H2 ⟨ms,v3,v4,rfl,sm,hp2,hq2,hml⟩
   exact⟨_,rfl,k p ms H2 sm (SqL.of hp2) (by omega)⟩
theorem le0:([]:List V).length<=sizeLine:=qe _
theorem le2{x y:V}:[x,y].length<=sizeLine:=by rw[sizeLine_eq];exact(by decide:2<=16777216)
theorem SameB.refl(b:Addr)(H:Hp):SameB b H H:=fun _ _ e _=>e
theorem SameB.trans{b:Addr}{H H1 H2:Hp}(a:SameB b H H1)(c:SameB b H1 H2):SameB b H H2:=fun d o e hd=>c d o (a d o e hd) hd
theorem SameB.of{b:Addr}{H H1:Hp}(a:Same H H1):SameB b H H1:=fun d o e _=>a d o e
theorem SameB.new{b p:Addr}{o:HO}{H H1:Hp}(a:SameB b H H1)(h:H1 p=none):SameB b H (upd H1 p o):=a.trans (.of (zd h))
theorem BoxAt.new{b p:Addr}{o:HO}{H:Hp}{n:Int}(a:BoxAt H b n)(h:H p=none):BoxAt (upd H p o) b n:=by
 obtain⟨b0,b1,b2,e,r⟩:=a
 exact⟨b0,b1,b2,by rw[zi (zn e h)];exact e,r⟩
theorem BoxAt.same{b:Addr}{H H':Hp}{n:Int}(a:BoxAt H b n)(s:Same H H'):BoxAt H' b n:=by
 obtain⟨b0,b1,b2,e,r⟩:=a
 exact⟨b0,b1,b2,s _ _ e,r⟩
theorem BoxAt.ne{b t:Addr}{H:Hp}{n:Int}{o:HO}(a:BoxAt H b n)(h:H t=some o)(hl:∀x y z,o≠.lst [x,y,z]):t≠b:=by
 obtain⟨b0,b1,b2,e,r⟩:=a
 exact zaz h e (hl _ _ _)
theorem BoxAt.some{b:Addr}{H:Hp}{n:Int}(a:BoxAt H b n):∃o,H b=.some o:=let ⟨_,_,_,e,_⟩:=a;⟨_,e⟩
theorem BoxAt.mono{b:Addr}{H:Hp}{n m:Int}(a:BoxAt H b n)(h:n<=m):BoxAt H b m:=by
 obtain⟨b0,b1,b2,e,p0,p1,p2,p3,p4⟩:=a
 exact⟨b0,b1,b2,e,p0,p1,p2,p3,by omega⟩
theorem le1{x:V}:[x].length<=sizeLine:=by rw[sizeLine_eq];exact(by decide:1<=16777216)
theorem le3{x y z:V}:[x,y,z].length<=sizeLine:=by rw[sizeLine_eq];exact(by decide:3<=16777216)
theorem le4{x y z u:V}:[x,y,z,u].length<=sizeLine:=by rw[sizeLine_eq];exact(by decide:4<=16777216)
theorem leN{xs:List V}(h:xs.length<=1000):xs.length<=sizeLine:=by rw[sizeLine_eq];omega
theorem Zs{α:Type}{xs:List α}{i:Int}(h:0<=i)(h':i<xs.length):∃v,atI xs i=some v/\xs[i.toNat]? =some v:=by
 have hl:i.toNat<xs.length:=by omega
 refine⟨xs[i.toNat],?_,by simp[hl]⟩
 have:=qk (xs:=xs) (j:=i.toNat) (v:=xs[i.toNat]) (by simp[hl])
 rwa[show((i.toNat:Nat):Int)=i by omega] at this
theorem zhr{α:V->Prop}{xs:List V}{r:Int}(h0:0<=r)(h1:r<xs.length)(all:∀x∈xs,α x):∃v,atI xs r=some v/\α v:=by
 obtain⟨v,e,e'⟩:=Zs h0 h1
 exact⟨v,e,all v (qU e')⟩
theorem fm0{α:V->Prop}:∀y∈([]:List V),α y:=fun y h=>nomatch h
theorem fm{α:V->Prop}{x:V}{xs:List V}(h:α x)(hs:∀y∈xs,α y):∀y∈x::xs,α y:=fun y hy=>(zZ.mp hy).elim (fun e=>e▸h) (hs y)
theorem SameB.put{b m:Addr}{H H':Hp}{o:HO}(s:SameB b H H')(h:H m=none):SameB b H (upd H' m o):=fun c u e hc=>by
 rw[zi (zn e h)];exact s c u e hc
theorem SameB.none{b m:Addr}{H H':Hp}(s:SameB b H H')(h:H' m=none)(hm:m≠b):H m=none:=by
 cases q:H m with
 | none=>rfl
 | some o=>have:=s m o q hm;rw[h] at this;cases this
def vT(x:Str):Prop:=(x.cps.toList.map V4).all id=true
theorem zgA{r:Int}(h0:0<=r)(h1:r<26):∃c,atI zhn.cps.toList r=some c/\V4 c=true:=by
 rw[zdf]
 obtain⟨c,e,e'⟩:=Zs (xs:=List.range' 97 26) h0 (by rw[List.length_range'];omega)
 have hm:=List.mem_range'_1.mp (qU e')
 refine⟨c,e,?_⟩
 unfold V4
 rw[qQ (by omega),qQ (by omega)]
 rfl
theorem zde{c:Nat}{y:Str}(h:V4 c=true)(hy:vT y):vT ((⟨#[c]⟩:Str)++y):=by
 unfold vT at hy ⊢
 show((#[c]++y.cps).toList.map V4).all id=true
 rw[Array.toList_append,zX,List.all_append,hy,Bool.and_true]
 show(V4 c&&true)=true
 rw[h];rfl
theorem zdg{c:Nat}{y:Str}:((⟨#[c]⟩:Str)++y).length=y.length+1:=by
 show(#[c]++y.cps).size=y.cps.size+1
 rw[Array.size_append]
 show 1+_=_
 omega
theorem BoxAt.nne{b p:Addr}{H:Hp}{n:Int}(a:BoxAt H b n)(h:H p=none):p≠b:=by
 obtain⟨o,e⟩:=a.some
 exact(zn e h).symm
theorem BoxAt.other{b l:Addr}{H:Hp}{n:Int}{o:HO}(a:BoxAt H b n)(h:l≠b):BoxAt (upd H l o) b n:=by
 obtain⟨b0,b1,b2,e,r⟩:=a
 exact⟨b0,b1,b2,by rw[zi (qy h)];exact e,r⟩
theorem zfA{α:V->Prop}{H:Hp}{p:Addr}{xs:List V}{r:Int}(_:H p=some (.lst xs))(h0:0<=r)(h1:r<xs.length)(all:∀x∈xs,α x):∃v,atI xs r=some v/\α v:=zhr h0 h1 all
def Nm(x:Str):Prop:=x.length<=8/\∀c∈x.cps.toList,c<1000000
theorem zhC{x:Str}(h:x.length<=8)(l:vT x):Nm x:=⟨h,fun c hc=>by
 unfold vT at l
 have:=xF.mp l (V4 c) (qB.mpr ⟨c,hc,rfl⟩)
 unfold V4 at this
 simp at this
 omega⟩
theorem Zd:∀(ns:List Str),(ns.map V.str).all xg=true
 | []=>rfl
 | n::ns=>by
  show(true&&(ns.map V.str).all xg)=true
  rw[Zd ns];rfl
inductive Jx(vs:List V)(H:Hp)(Q:VK):Prop
 | mk (num size:Int) (_:vs=[.int num,.int size]) (_:0<=num) (_:1<=size) (_:size<=8) (_:∀y:Str,(y.length:Int)=size->vT y->Q (.str y) H):Jx  vs H Q
def YS:Sp:=fun vs H Q _=>Jx  vs H Q
theorem zai:zF ["_law_number", "_law_size", "_law_word", "_law_k"] ["_law_number", "_law_size"] (zt (topL 32)):=⟨rfl,rfl,rfl,by decide +kernel,rfl,by decide +kernel,by decide +kernel⟩
def zbh(size:_)(H:_):=fun(i:Nat) (σ:St) (H4:Hp)=>(Ex3 fun(num':Int) (y:Str) (v3:Option V)=>An5 (σ=[some (.int num'),some (.int size),some (.str y),v3]) (0<=num') (y.length=i) (vT y) (H4=H):Prop)
theorem zc3{f:Addr}{fd:FuncData}(F:Fun K "_law_spelled" "_law_spelled" (topL 32) f fd)(B:Blt mg):qH P w K mg base CX0 1 f fd ["_law_number", "_law_size"] YS:=by
 have nd:=zai.nd
 refine F.ok zai (fun vs H Q E h=>?_) (fun cdv A outer s H vs Q E hr h=>?_)
 ·obtain⟨num,size,rfl,_⟩:=h
  rfl
 ·obtain⟨num,size,rfl,n0,s0,s1,k⟩:=h
  have hbig:100000<sizeLine:=by rw[sizeLine_eq];decide
  have e62:(2:Int)^62=4611686018427387904:=by decide
  refine⟨_,(zg (zC (i:=2) nd rfl (Or.inl rfl) zP)
   (zg (qW ju rfl (qz rfl B.range (za (pv 1) ze)) (zy (i:=3) nd rfl (Or.inl rfl))
   (zg (zC (i:=2) nd rfl (Or.inl rfl) (zA WK (zu zdm zP (zA xY (pv 0) zf) (fun _ _=>rfl)) (pv 2)))
    (zo (zC (i:=0) nd rfl (Or.inl rfl) (zA zax (pv 0) zf)))))
   (zo (zE (pv 2))))),?_⟩
  refine⟨_,rfl,_,rfl,(by rw[e62];omega),(by rw[e62];omega),?_⟩
  refine jc (zbh size H) ⟨num,_,_,rfl,n0,rfl,rfl,rfl⟩ ?_ ?_
  ·rintro i σ H4 hi ⟨num',y,v3,rfl,m0,ly,al,rfl⟩
   obtain⟨c,hc,lc⟩:=zgA (r:=num' % 26) (yU _ (by decide)) (y3 _ (by decide))
   refine⟨_,rfl,_,_,rfl,rfl,(by show(0:Int)<26;decide),_,_,c,rfl,rfl,(by rw[sizeLine_eq];decide),hc,_,rfl,_,_,rfl,rfl,?_,?_⟩
   ·show 1+y.length<=sizeLine
    omega
   ·exact⟨_,rfl,_,_,rfl,rfl,⟨by decide,by decide⟩,_,_,_,rfl,Int.ediv_nonneg m0 (by decide),by rw[zdg,ly],zde lc al,rfl⟩
  ·rintro σ H4 ⟨num',y,v3,rfl,m0,ly,al,rfl⟩
   exact⟨_,rfl,k y (by omega) al⟩
inductive Y4(vs:List V)(H:Hp)(Q:VK):Prop
 | mk (b t:Addr) (n:Int) (ts:List Str) (_:vs=[.ref b,.ref t]) (_:BoxAt H b n) (_:n<1099511000000) (_:t≠b) (_:H t=some (.lst (ts.map V.str))) (_:ts.length<=1000) (_:∀(y:Str) H',SameB b H H'->BoxAt H' b (n+12)->1<=y.length->y.length<=8->vT y->Q (.str y) H'):Y4  vs H Q
def ze9:Sp:=fun vs H Q _=>Y4  vs H Q
theorem zfm:zF ["_law_box_here", "_law_taken", "_law_size", "_law_number", "_law_k", "_law_word", "_law_turn"] ["_law_box_here", "_law_taken"] (zt (topL 33)):=⟨rfl,rfl,rfl,by decide +kernel,rfl,by decide +kernel,by decide +kernel⟩
theorem zgb{r:Int}(h0:0<=r)(h1:r<4):∃z:Int,atI [V.int 3,V.int 3,V.int 3,V.int 8] r=some (.int z)/\3<=z/\z<=8:=by
 have hc:r=0\/r=1\/r=2\/r=3:=by omega
 rcases hc with rfl | rfl | rfl | rfl
 ·exact⟨3,rfl,by decide,by decide⟩
 ·exact⟨3,rfl,by decide,by decide⟩
 ·exact⟨3,rfl,by decide,by decide⟩
 ·exact⟨8,rfl,by decide,by decide⟩
def zbg(b:_)(t:_)(r2:_)(H:_)(n:_):=fun(i:Nat) (σ:St) (H4:Hp)=>(Ex2 fun(num:Int) (v4:Option V)=>An4 (σ=[some (.ref b),some (.ref t),some (.int (1+r2)),some (.int num),v4,none,none]) (0<=num) (SameB b H H4) (BoxAt H4 b (n+2+i)):Prop)
def zbf(b:_)(t:_)(r2:_)(num:_)(H4:_):=fun(i:Nat) (σ:St) (H5:Hp)=>(Ex3 fun(v4 v6:Option V) (y:Str)=>An5 (σ=[some (.ref b),some (.ref t),some (.int (1+r2)),some (.int num),v4,some (.str y),v6]) (1<=y.length) (y.length<=8) (vT y) (H5=H4):Prop)
theorem zgp{f:Addr}{fd:FuncData}(F:Fun K "_law_name" "_law_name" (topL 33) f fd)(B:Blt mg)(D_take:Dfn P w K mg base "_law_take" 1 ["_law_box_here", "_law_size"] jW)(D_spelled:Dfn P w K mg base "_law_spelled" 1 ["_law_number", "_law_size"] YS):qH P w K mg base CX0 2 f fd ["_law_box_here", "_law_taken"] ze9:=by
 have nd:=zfm.nd
 refine F.ok zfm (fun vs H Q E h=>?_) (fun cdv A outer s H vs Q E hr h=>?_)
 ·obtain⟨b,t,n,ts,rfl,_⟩:=h
  rfl
 ·obtain⟨b,t,n,ts,rfl,B0,hn,ntb,ht,htl,k⟩:=h
  have e62:(2:Int)^62=4611686018427387904:=by decide
  refine⟨_,(zg (zC (i:=2) nd rfl (Or.inl rfl) (zA qw zf (zk D_take (hr.mono (by decide)) rfl (za (pv 0) (za (zu zS (zN (za zf (za zf (za zf (za zf ze))))) (zk D_take (hr.mono (by decide)) rfl (za (pv 0) (za zf ze))) (fun _ _=>rfl)) ze)))))
   (zg (zC (i:=3) nd rfl (Or.inl rfl) zf)
   (zg (qW ju rfl (qz rfl B.range (za (pv 2) ze)) (zy (i:=4) nd rfl (Or.inl rfl))
   (zo (zC (i:=3) nd rfl (Or.inl rfl) (zA qw (zA va (pv 3) zf) (zk D_take (hr.mono (by decide)) rfl (za (pv 0) (za zf ze)))))))
   (zg (zC (i:=5) nd rfl (Or.inl rfl) (zk D_spelled (hr.mono (by decide)) rfl (za (pv 3) (za (pv 2) ze))))
   (zg (qW ju rfl (qz rfl B.range (za (zA qw (zp zL rfl B.len boot_len (za (pv 1) ze)) zf) ze)) (zy (i:=6) nd rfl (Or.inl rfl))
   (zo (je (zO wI (pv 5) (pv 1) (by with_unfolding_all rfl))
    (zo (zC (i:=5) nd rfl (Or.inl rfl) (zk D_spelled (hr.mono (by decide)) rfl (za (zA qw (pv 3) (pv 6)) (za zf ze)))))
    qI)))
   (zo (zE (pv 5)))))))),?_⟩
  refine⟨_,rfl,le4,fun l hl=>⟨_,rfl,b,4,n,rfl,B0.new hl,by omega,by decide,by decide,fun r H1 r0 r1 B1 S1=>?_⟩⟩
  have L1:=S1 l _ (zb (H:=H)) ((B0.new hl).ne (zb (H:=H) (o:=.lst [.int 3,.int 3,.int 3,.int 8])) (by intro x y z e;cases e))
  have S1':=((SameB.refl b H).new (o:=.lst [.int 3,.int 3,.int 3,.int 8]) hl).trans S1
  obtain⟨z,ez,z0,z1⟩:=zgb r0 r1
  refine⟨l,_,_,_,rfl,rfl,SqL.of L1,ez,b,z,n+1,rfl,B1,by omega,by omega,by omega,fun r2 H2 a0 a1 B2 S2=>⟨_,_,rfl,rfl,?_⟩⟩
  have S2':=S1'.trans S2
  refine⟨_,rfl,_,rfl,(by rw[e62];omega),(by rw[e62];omega),?_⟩
  refine jc (zbg b t r2 H n) ⟨0,_,rfl,by decide,S2',B2.mono (by omega)⟩ ?_ ?_
  ·rintro i σ H4 hi ⟨num,v4,rfl,m0,S4,B4⟩
   refine⟨_,rfl,_,_,rfl,rfl,.inr ⟨by decide,by decide⟩,_,rfl,b,26,_,rfl,B4,by omega,by decide,by decide,fun r3 H5 c0 c1 B5 S5=>⟨_,_,rfl,rfl,_,_,rfl,?_,S4.trans S5,B5.mono (by omega)⟩⟩
   omega
  ·rintro σ H4 ⟨num,v4,rfl,m0,S4,B4⟩
   refine⟨_,rfl,_,rfl,num,1+r2,rfl,m0,by omega,by omega,fun y ly al=>?_⟩
   have ht4:=S4 t _ ht ntb
   have el:(ts.map V.str).length=ts.length:=zq ..
   refine⟨_,rfl,t,_,rfl,.inl (SqL.of ht4),_,_,rfl,rfl,_,rfl,(by rw[e62,el];omega),(by rw[e62,el];omega),?_⟩
   refine jc (zbf b t r2 num H4) ⟨_,_,y,rfl,by omega,by omega,al,rfl⟩ ?_ ?_
   ·rintro i σ H5 hi ⟨v4,v6,y,rfl,y0,y1,al,rfl⟩
    refine⟨_,rfl,_,rfl,t,_,rfl,.inl (SqL.of ht4),rfl,Zd ts,_,rfl,jA (fun c=>?_) (fun c=>⟨_,_,y,rfl,y0,y1,al,rfl⟩)⟩
    exact⟨_,rfl,_,rfl,_,_,rfl,rfl,_,8,rfl,by omega,by decide,by decide,fun y' ly' al'=>⟨_,_,y',rfl,by omega,by omega,al',rfl⟩⟩
   ·rintro σ H5 ⟨v4,v6,y,rfl,y0,y1,al,rfl⟩
    exact⟨_,rfl,k y _ S4 (B4.mono (by omega)) y0 y1 al⟩
def Row(H:Hp)(l:Addr)(ns:List Str):Prop:=H l=some (.lst (ns.map V.str))/\∀x∈ns,Nm x
theorem Row.same{H H':Hp}{l:Addr}{ns:List Str}(r:Row H l ns)(s:Same H H'):Row H' l ns:=⟨s _ _ r.1,r.2⟩
theorem Row.draw{H H':Hp}{b l:Addr}{ns:List Str}(r:Row H l ns)(s:SameB b H H')(h:l≠b):Row H' l ns:=⟨s _ _ r.1 h,r.2⟩
inductive JC(vs:List V)(H:Hp)(Q:VK):Prop
 | mk (b:Addr) (m n:Int) (_:vs=[.ref b,.int m]) (_:BoxAt H b n) (_:n<1000000) (_:0<=m) (_:m<=12) (_:∀(l:Addr) (ns:List Str) H',SameB b H H'->BoxAt H' b (n+150)->l≠b->H l=none->Row H' l ns->(ns.length:Int)=m->Q (.ref l) H'):JC  vs H Q
def Y3:Sp:=fun vs H Q _=>JC  vs H Q
theorem zam:zF ["_law_box_here", "_law_many", "_law_found", "_law_k"] ["_law_box_here", "_law_many"] (zt (topL 34)):=⟨rfl,rfl,rfl,by decide +kernel,rfl,by decide +kernel,by decide +kernel⟩
def zbe(b:_)(m:_)(l:_)(H:_)(n:_):=fun(i:Nat) (σ:St) (H4:Hp)=>(Ex2 fun(ns:List Str) (v3:Option V)=>An5 (σ=[some (.ref b),some (.int m),some (.ref l),v3]) (SameB b H H4) (BoxAt H4 b (n+12*i)) (Row H4 l ns) (ns.length=i):Prop)
theorem zc7{f:Addr}{fd:FuncData}(F:Fun K "_law_names" "_law_names" (topL 34) f fd)(B:Blt mg)(D_name:Dfn P w K mg base "_law_name" 2 ["_law_box_here", "_law_taken"] ze9):qH P w K mg base CX0 3 f fd ["_law_box_here", "_law_many"] Y3:=by
 have nd:=zam.nd
 refine F.ok zam (fun vs H Q E h=>?_) (fun cdv A outer s H vs Q E hr h=>?_)
 ·obtain⟨b,m,n,rfl,_⟩:=h
  rfl
 ·obtain⟨b,m,n,rfl,B0,hn,m0,m1,k⟩:=h
  have hbig:100000<sizeLine:=by rw[sizeLine_eq];decide
  have e62:(2:Int)^62=4611686018427387904:=by decide
  refine⟨_,(zg (zC (i:=2) nd rfl (Or.inl rfl) (zN ze))
   (zg (qW ju rfl (qz rfl B.range (za (pv 1) ze)) (zy (i:=3) nd rfl (Or.inl rfl))
   (zo (z7 (jm jh jV jU z9 (pv 2) (za (zk D_name (hr.mono (by decide)) rfl (za (pv 0) (za (pv 2) ze))) ze)))))
   (zo (zE (pv 2))))),?_⟩
  refine⟨le0,fun l hl=>?_⟩
  have nl:=B0.nne hl
  refine⟨_,rfl,_,rfl,(by rw[e62];omega),(by rw[e62];omega),?_⟩
  refine jc (zbe b m l H n) ⟨[],_,rfl,(SameB.refl b H).new hl,(B0.new hl).mono (by omega),⟨zb,fun x h=>nomatch h⟩,rfl⟩ ?_ ?_
  ·rintro i σ H4 hi ⟨ns,v3,rfl,S4,B4,R4,nsl⟩
   refine⟨_,rfl,.inl ⟨rfl,_,SqL.of R4.1⟩,_,rfl,_,rfl,b,l,_,ns,rfl,B4,by omega,nl,R4.1,by omega,fun y H5 S5 B5 y0 y1 al=>⟨l,_,_,rfl,rfl,(R4.draw S5 nl).1,by rw[zq,nsl];omega,?_⟩⟩
   refine⟨ns++[y],_,rfl,(S4.trans S5).put hl,(B5.other nl).mono (by omega),⟨by rw[zb,zX];rfl,fun x hx=>?_⟩,by rw[zV,nsl];rfl⟩
   rcases qT.mp hx with q | q
   ·exact R4.2 x q
   ·rw[qo.mp q];exact zhC y1 al
  ·rintro σ H4 ⟨ns,v3,rfl,S4,B4,R4,nsl⟩
   exact⟨_,rfl,k l ns H4 S4 (B4.mono (by omega)) nl hl R4 (by omega)⟩
def PlA(H:Hp)(a:Addr):Prop:=∃x y:Int,H a=some (.tup [.int x,.int y])/\0<=x/\x<=1000/\0<=y/\y<=1000
theorem PlA.draw{H H':Hp}{a b:Addr}{n:Int}(h:PlA H a)(B:BoxAt H b n)(s:SameB b H H'):PlA H' a:=by
 obtain⟨x,y,e,r⟩:=h
 obtain⟨b0,b1,b2,eb,_⟩:=B
 exact⟨x,y,s a _ e (zaz e eb (by intro z;cases z)),r⟩
inductive Jz(K:PySem.W.Frag)(vs:List V)(H:Hp)(Q:VK):Prop
 | mk (b t:Addr) (n:Int) (as:List Addr) (_:vs=[.ref b,.ref t]) (_:BoxAt H b n) (_:n<1099511627000) (_:t≠b) (_:H t=some (.lst (as.map V.ref))) (_:as.length<=1000) (_:(∀a∈as,PlA H a)) (_:∀(p:Addr) H',SameB b H H'->BoxAt H' b (n+3)->H p=none->PlA H' p->Q (.ref p) H'):Jz K vs H Q
def Z2(K:PySem.W.Frag):Sp:=fun vs H Q _=>Jz K vs H Q
theorem zaj:zF ["_law_box_here", "_law_taken", "_law_most", "_law_x", "_law_y", "_law_turn"] ["_law_box_here", "_law_taken"] (zt (topL 35)):=⟨rfl,rfl,rfl,by decide +kernel,rfl,by decide +kernel,by decide +kernel⟩
def zbd(b:_)(t:_)(y:_)(H:_)(n:_):=fun(i:Nat) (σ:St) (H4:Hp)=>(Ex3 fun(v2 v5:Option V) (x:Int)=>An5 (σ=[some (.ref b),some (.ref t),v2,some (.int x),some (.int y),v5]) (0<=x) (x<=1000) (SameB b H H4) (BoxAt H4 b (n+1+1+1)):Prop)
theorem zc4{f:Addr}{fd:FuncData}(F:Fun K "_law_place" "_law_place" (topL 35) f fd)(B:Blt mg)(D_take:Dfn P w K mg base "_law_take" 1 ["_law_box_here", "_law_size"] jW):qH P w K mg base CX0 2 f fd ["_law_box_here", "_law_taken"] (Z2 K):=by
 have nd:=zaj.nd
 refine F.ok zaj (fun vs H Q E h=>?_) (fun cdv A outer s H vs Q E hr h=>?_)
 ·obtain⟨b,t,n,as,rfl,_⟩:=h
  rfl
 ·obtain⟨b,t,n,as,rfl,B0,hn,ntb,ht,hal,pa,k⟩:=h
  have hu64:=hr.units
  have e62:(2:Int)^62=4611686018427387904:=by decide
  have el:(as.map V.ref).length=as.length:=zq ..
  refine⟨_,(zg (zC (i:=2) nd rfl (Or.inl rfl) (jX (zO jt (zk D_take (hr.mono (by decide)) rfl (za (pv 0) (za zf ze))) zf (zQ _)) zf zf))
   (zg (Qo (i:=3) (j:=4) rfl nd rfl rfl (by decide) rfl rfl (za (zk D_take (hr.mono (by decide)) rfl (za (pv 0) (za (pv 2) ze))) (za (zk D_take (hr.mono (by decide)) rfl (za (pv 0) (za (pv 2) ze))) ze)) (by rfl))
   (zg (qW ju rfl (qz rfl B.range (za (zA qw (zp zL rfl B.len boot_len (za (pv 1) ze)) zf) ze)) (zy (i:=5) nd rfl (Or.inl rfl))
   (zo (je (zO (zel hu64) (zY (za (pv 3) (za (pv 4) ze))) (pv 1) (by with_unfolding_all rfl))
    (zo (zC (i:=3) nd rfl (Or.inl rfl) (zA xY (zA qw (pv 3) zf) zf)))
    qI)))
   (zo (zE (zY (za (pv 3) (za (pv 4) ze)))))))),?_⟩
  refine⟨_,rfl,b,4,n,rfl,B0,by omega,by decide,by decide,fun r H1 r0 r1 B1 S1=>⟨rfl,_,rfl,jA (fun c=>?_) (fun c=>?_)⟩⟩
  all_goals
   refine⟨_,rfl,_,rfl,b,_,n+1,rfl,B1,by omega,by decide,by decide,fun x H2 x0 x1 B2 S2=>⟨_,rfl,_,rfl,b,_,n+1+1,rfl,B2,by omega,by decide,by decide,fun y H3 y0 y1 B3 S3=>⟨_,_,rfl,?_⟩⟩⟩
   have S4:=S1.trans (S2.trans S3)
   have ht3:=S4 t _ ht ntb
   refine⟨_,rfl,t,_,rfl,.inl (SqL.of ht3),_,_,rfl,rfl,_,rfl,(by rw[e62,el];omega),(by rw[e62,el];omega),?_⟩
   refine jc (zbd b t y H n) ⟨_,none,x,rfl,x0,by omega,S4,B3⟩ ?_ ?_
   ·rintro i σ H4 _ ⟨v2,v5,x,rfl,x0',x1',S5,B5⟩
    refine⟨_,rfl,_,rfl,le2,fun p hp=>⟨_,rfl,p,t,_,_,rfl,rfl,SqT.of zb,rfl,SqL.of ((S5.new hp) t _ ht ntb),fun v hv=>?_,fun q=>⟨_,rfl,jA (fun d=>?_) (fun d=>?_)⟩⟩⟩
    ·obtain⟨c,hc,rfl⟩:=qB.mp hv
     obtain⟨cx,cy,hcc,_⟩:=(pa c hc).draw B0 (S5.new (o:=.tup [.int x,.int y]) hp)
     exact⟨c,_,rfl,SqT.of hcc,rfl⟩
    ·exact⟨_,rfl,_,_,rfl,rfl,_,_,rfl,rfl,(by show(0:Int)<1001;decide),_,_,_,rfl,yU _ (by decide),by have:=y3 (x+1) (by decide:(0:Int)<1001);omega,S5.new hp,B5.new hp⟩
    ·exact⟨_,_,x,rfl,x0',x1',S5.new hp,B5.new hp⟩
   ·rintro σ H4 ⟨v2,v5,x,rfl,x0',x1',S5,B5⟩
    have B6:BoxAt H4 b (n+3):=by
     have e:n+3=n+1+1+1:=by omega
     rw[e];exact B5
    exact⟨_,rfl,_,rfl,le2,fun p hp=>k p _ (S5.new hp) (B6.new hp) (S5.none hp (B5.nne hp)) ⟨x,y,zb,x0',x1',y0,by omega⟩⟩
inductive Qk(vs:List V)(H:Hp)(Q:VK):Prop
 | mk (b:Addr) (m n:Int) (_:vs=[.ref b,.int m]) (_:BoxAt H b n) (_:n<1000000) (_:0<=m) (_:m<=100) (_:∀(l:Addr) (as:List Addr) H',SameB b H H'->BoxAt H' b (n+400)->l≠b->H l=none->H' l=some (.lst (as.map V.ref))->(∀a∈as,PlA H' a)->(as.length:Int)=m->Q (.ref l) H'):Qk  vs H Q
def Vu:Sp:=fun vs H Q _=>Qk  vs H Q
theorem VG:zF ["_law_box_here", "_law_many", "_law_found", "_law_k"] ["_law_box_here", "_law_many"] (zt (topL 36)):=⟨rfl,rfl,rfl,by decide +kernel,rfl,by decide +kernel,by decide +kernel⟩
def zbc(b:_)(m:_)(l:_)(H:_)(n:_):=fun(i:Nat) (σ:St) (H4:Hp)=>(Ex2 fun(as:List Addr) (v3:Option V)=>An6 (σ=[some (.ref b),some (.int m),some (.ref l),v3]) (SameB b H H4) (BoxAt H4 b (n+3*i)) (H4 l=some (.lst (as.map V.ref))) ((∀a∈as,PlA H4 a)) (as.length=i):Prop)
theorem zbA{f:Addr}{fd:FuncData}(F:Fun K "_law_places" "_law_places" (topL 36) f fd)(B:Blt mg)(D_place:Dfn P w K mg base "_law_place" 2 ["_law_box_here", "_law_taken"] (Z2 K)):qH P w K mg base CX0 3 f fd ["_law_box_here", "_law_many"] Vu:=by
 have nd:=VG.nd
 refine F.ok VG (fun vs H Q E h=>?_) (fun cdv A outer s H vs Q E hr h=>?_)
 ·obtain⟨b,m,n,rfl,_⟩:=h
  rfl
 ·obtain⟨b,m,n,rfl,B0,hn,m0,m1,k⟩:=h
  have hbig:100000<sizeLine:=by rw[sizeLine_eq];decide
  have e62:(2:Int)^62=4611686018427387904:=by decide
  refine⟨_,(zg (zC (i:=2) nd rfl (Or.inl rfl) (zN ze))
   (zg (qW ju rfl (qz rfl B.range (za (pv 1) ze)) (zy (i:=3) nd rfl (Or.inl rfl))
   (zo (z7 (jm jh jV jU z9 (pv 2) (za (zk D_place (hr.mono (by decide)) rfl (za (pv 0) (za (pv 2) ze))) ze)))))
   (zo (zE (pv 2))))),?_⟩
  refine⟨le0,fun l hl=>?_⟩
  have nl:=B0.nne hl
  refine⟨_,rfl,_,rfl,(by rw[e62];omega),(by rw[e62];omega),?_⟩
  refine jc (zbc b m l H n) ⟨[],_,rfl,(SameB.refl b H).new hl,(B0.new hl).mono (by omega),zb,(fun x h=>nomatch h),rfl⟩ ?_ ?_
  ·rintro i σ H4 hi ⟨as,v3,rfl,S4,B4,L4,P4,asl⟩
   refine⟨_,rfl,.inl ⟨rfl,_,SqL.of L4⟩,_,rfl,_,rfl,b,l,_,as,rfl,B4,by omega,nl,L4,by omega,P4,fun p H5 S5 B5 pN pp=>⟨l,_,_,rfl,rfl,S5 l _ L4 nl,by rw[zq,asl];omega,?_⟩⟩
   have L5:=S5 l _ L4 nl
   have keep:∀{a:Addr},PlA H5 a->PlA (upd H5 l (.lst (as.map V.ref++[.ref p]))) a:=fun {a} h=>by
    obtain⟨x,y,e,r⟩:=h
    exact⟨x,y,by rw[zi (zaz e L5 (by intro z;cases z))];exact e,r⟩
   refine⟨as++[p],_,rfl,(S4.trans S5).put hl,(B5.other nl).mono (by omega),by rw[zb,zX];rfl,fun a ha=>?_,by rw[zV,asl];rfl⟩
   rcases qT.mp ha with q | q
   ·exact keep ((P4 a q).draw B4 S5)
   ·rw[qo.mp q];exact keep pp
  ·rintro σ H4 ⟨as,v3,rfl,S4,B4,L4,P4,asl⟩
   exact⟨_,rfl,k l as H4 S4 (B4.mono (by omega)) nl hl L4 P4 (by omega)⟩
inductive Vr(K:PySem.W.Frag)(vs:List V)(H:Hp)(Q:VK):Prop
 | mk (b a:Addr) (n:Int) (xs:List V) (_:vs=[.ref b,.ref a]) (_:BoxAt H b n) (_:n<1000000) (_:a≠b) (_:H a=some (.lst xs)) (_:xs.length<=1000) (_:∀(l:Addr) (ys:List V) H',SameB b H H'->BoxAt H' b (n+xs.length)->l≠b->H l=none->H' l=some (.lst ys)->ys.Perm xs->Q (.ref l) H'):Vr K vs H Q
def Xh(K:PySem.W.Frag):Sp:=fun vs H Q _=>Vr K vs H Q
theorem zcu:zF ["_law_box_here", "_law_some", "_law_found", "_law_one"] ["_law_box_here", "_law_some"] (zt (topL 37)):=⟨rfl,rfl,rfl,by decide +kernel,rfl,by decide +kernel,by decide +kernel⟩
def zbb(b:_)(a:_)(l:_)(H:_)(n:_)(xs:List V):=fun(i:Nat) (σ:St) (H4:Hp)=>(Ex2 fun(ys:List V) (v3:Option V)=>An6 (σ=[some (.ref b),some (.ref a),some (.ref l),v3]) (SameB b H H4) (BoxAt H4 b (n+i)) (H4 a=some (.lst xs)) (H4 l=some (.lst ys)) (ys.Perm (xs.take i)):Prop)
theorem zer{f:Addr}{fd:FuncData}(F:Fun K "_law_shuffled" "_law_shuffled" (topL 37) f fd)(B:Blt mg)(D_take:Dfn P w K mg base "_law_take" 1 ["_law_box_here", "_law_size"] jW):qH P w K mg base CX0 2 f fd ["_law_box_here", "_law_some"] (Xh K):=by
 have nd:=zcu.nd
 refine F.ok zcu (fun vs H Q E h=>?_) (fun cdv A outer s H vs Q E hr h=>?_)
 ·obtain⟨b,a,n,xs,rfl,_⟩:=h
  rfl
 ·obtain⟨b,a,n,xs,rfl,B0,hn,nab,ha,hxl,k⟩:=h
  have hbig:100000<sizeLine:=by rw[sizeLine_eq];decide
  have e62:(2:Int)^62=4611686018427387904:=by decide
  refine⟨_,(zg (zC (i:=2) nd rfl (Or.inl rfl) (zN ze))
   (zg (qW ju rfl (qJ (pv 1)) (zy (i:=3) nd rfl (Or.inl rfl))
   (zo (z7 (jm jh PySem.F.slot_list_insert PySem.F.type_list_insert JL (pv 2) (za (zk D_take (hr.mono (by decide)) rfl (za (pv 0) (za (zA qw (zp zL rfl B.len boot_len (za (pv 2) ze)) zf) ze))) (za (pv 3) ze))))))
   (zo (zE (pv 2))))),?_⟩
  refine⟨le0,fun l hl=>?_⟩
  have nl:=B0.nne hl
  have nal:a≠l:=zn ha hl
  refine⟨_,rfl,a,rfl,⟨_,SqL.of ((zd hl) _ _ ha)⟩,xc (K:=K) (a:=a) (xs:=xs) (zbb b a l H n xs)
   ⟨[],_,rfl,(SameB.refl b H).new hl,(B0.new hl).mono (by omega),(zd hl) _ _ ha,zb,.nil⟩ (fun i σ H4 _ ⟨_,_,_,_,_,h,_,_⟩=>SqL.of h) ?_ ?_⟩
  ·rintro i x σ H4 hx ⟨ys,v3,rfl,S4,B4,A4,L4,pm⟩
   have hi:=(zW.mp hx).1
   have yl:ys.length=i:=by rw[pm.length_eq,qR];omega
   refine⟨_,rfl,.inl ⟨rfl,_,SqL.of L4⟩,_,rfl,_,rfl,l,_,rfl,.inl (SqL.of L4),_,_,rfl,rfl,b,_,_,rfl,B4,by omega,by omega,by omega,fun q H5 q0 q1 B5 S5=>⟨_,rfl,?_⟩⟩
   refine⟨l,ys,q,x,rfl,rfl,S5 l _ L4 nl,q0,by rw[e62];omega,by omega,?_⟩
   refine⟨_,_,rfl,(S4.trans S5).put hl,(B5.other nl).mono (by omega),by rw[zi nal];exact S5 a _ A4 nab,zb,?_⟩
   have e1:xs.take (i+1)=xs.take i++[x]:=by
    obtain⟨h1,h2⟩:=zW.mp hx
    rw[<- h2,yb]
   rw[e1]
   refine List.perm_middle.trans ?_
   rw[Yq]
   exact((List.Perm.cons x pm).trans (List.perm_append_singleton x _).symm)
  ·rintro σ H4 ⟨ys,v3,rfl,S4,B4,A4,L4,pm⟩
   rw[qX] at pm
   exact⟨_,rfl,k l ys H4 S4 B4 nl hl L4 pm⟩
end
def SameT(H H':Hp):Prop:=∀a u,H a=some u->(∀xs,u≠.lst xs)->(∀kvs,u≠.dK kvs)->H' a=some u
theorem SameT.refl(H:Hp):SameT H H:=fun _ _ e _ _=>e
theorem SameT.trans{H H1 H2:Hp}(a:SameT H H1)(b:SameT H1 H2):SameT H H2:=fun c u e h i=>b c u (a c u e h i) h i
theorem SameT.of{H H':Hp}(s:Same H H'):SameT H H':=fun a u e _ _=>s a u e
theorem SameT.draw{H H':Hp}{b:Addr}{n:Int}(B:BoxAt H b n)(s:SameB b H H'):SameT H H':=fun a u e h _=>by
 obtain⟨b0,b1,b2,eb,_⟩:=B
 exact s a u e (fun z=>by rw[z,eb] at e;cases e;exact h _ rfl)
theorem SameT.put{H:Hp}{l:Addr}{xs ys:List V}(h:H l=some (.lst xs)):SameT H (upd H l (.lst ys)):=fun a u e hu _=>by
 rw[zi (fun z=>by rw[z,h] at e;cases e;exact hu _ rfl)];exact e
mutual
def Dat.imm:Dat->Bool
 | .lst _=>false
 | .tup ds=>Dat.imms ds
 | _=>true
def Dat.imms:List Dat->Bool
 | []=>true
 | d::ds=>d.imm&&Dat.imms ds
end
section
variable{P:Program}{w:World}{K:PySem.W.Frag}{mg:Str->Option Value}{base:Heap}
theorem SqT.keep{H H':Hp}{a:Addr}{xs:List V}(q:SqT K H a xs)(s:SameT H H'):SqT K H' a xs:=by
 rcases q with(q | ⟨o,q⟩) | q
 ·exact .inl (.inl (s a _ q (fun z h=>nomatch h) (fun z h=>nomatch h)))
 ·exact .inl (.inr ⟨o,s a _ q (fun z h=>nomatch h) (fun z h=>nomatch h)⟩)
 ·exact .inr q
mutual
theorem Rep.keep{H H':Hp}(s:SameT H H'):∀{d:Dat} {v:V},d.imm=true->Rep K H d v->Rep K H' d v
 | .non,_,_,h=>h
 | .bl _,_,_,h=>h
 | .int _,_,_,h=>h
 | .str _,_,_,h=>h
 | .lst _,_,i,_=>by cases i
 | .tup ds,_,i,h=>by
  obtain⟨a,xs,e,q,r⟩:=h
  exact⟨a,xs,e,q.keep s,Reps.keep s (ds:=ds) i r⟩
theorem Reps.keep{H H':Hp}(s:SameT H H'):∀{ds:List Dat} {xs:List V},Dat.imms ds=true->Reps K H ds xs->Reps K H' ds xs
 | [],_,_,h=>h
 | d::ds,_,i,h=>by
  obtain⟨x,r,e,h1,h2⟩:=h
  have i':(d.imm&&Dat.imms ds)=true:=i
  rw[jG] at i'
  exact⟨x,r,e,Rep.keep s i'.1 h1,Reps.keep s i'.2 h2⟩
end
theorem Reps.snoc{H:Hp}{d:Dat}{v:V}(h:Rep K H d v):∀{ds:List Dat} {xs:List V},Reps K H ds xs->Reps K H (ds++[d]) (xs++[v])
 | [],_,e=>by rw[show _=_ from e];exact⟨v,[],rfl,h,rfl⟩
 | _::_,_,e=>by
  obtain⟨x,r,e1,h1,h2⟩:=e
  subst e1
  exact⟨x,r++[v],rfl,h1,Reps.snoc h h2⟩
theorem yF{α β:Type}{f:α->β}{ys ws:List β}(h:ys.Perm ws):∀{xs:List α},ws=xs.map f->∃zs:List α,zs.Perm xs/\ys=zs.map f:=by
 induction h with
 | nil=>
  intro xs e
  have:xs=[]:=by simpa using e.symm
  exact⟨[],by rw[this],rfl⟩
 | @cons x l1 l2 p ih=>
  intro xs e
  cases xs with
  | nil=>simp at e
  | cons a as=>
   rw[xx] at e
   injection e with e1 e2
   obtain⟨zs,p1,p2⟩:=ih e2
   exact⟨a::zs,p1.cons a,by rw[xx,<- p2,<- e1]⟩
 | swap x y l=>
  intro xs e
  cases xs with
  | nil=>simp at e
  | cons a as=>
   cases as with
   | nil=>simp at e
   | cons c cs=>
    rw[xx,xx] at e
    injection e with e1 e2
    injection e2 with e2 e3
    exact⟨c::a::cs,.swap a c cs,by rw[xx,xx,<- e1,<- e2,<- e3]⟩
 | trans p q ih1 ih2=>
  intro xs e
  obtain⟨zs,p1,p2⟩:=ih2 e
  obtain⟨us,p3,p4⟩:=ih1 p2
  exact⟨us,p3.trans p1,p4⟩
def jP(p:Nat×Nat):Dat:=.tup [.int p.1,.int p.2]
def y4(as:List (Nat×Nat)):Dat:=.tup (as.map jP)
theorem qS:∀(as:List (Nat×Nat)),Dat.imms (as.map jP)=true
 | []=>rfl
 | p::as=>by
  show(Dat.imm (jP p)&&Dat.imms (as.map jP))=true
  rw[qS as];rfl
def ByOrd(ord:List Nat)(as:List (Nat×Nat)):Prop:=∀p∈as,∃k l:Nat,k<l/\ord[k]? =some p.1/\ord[l]? =some p.2
theorem Reps.take{H:Hp}:∀(n:Nat) {ds:List Dat} {xs:List V},Reps K H ds xs->Reps K H (ds.take n) (xs.take n)
 | 0,_,_,_=>rfl
 | n+1,[],_,h=>by rw[show _=_ from h];exact rfl
 | n+1,d::ds,_,h=>by
  obtain⟨x,r,e,h1,h2⟩:=h
  subst e
  exact⟨x,r.take n,rfl,h1,Reps.take n h2⟩
theorem Reps.app{H:Hp}:∀{ds es:List Dat} {xs ys:List V},Reps K H ds xs->Reps K H es ys->Reps K H (ds++es) (xs++ys)
 | [],_,_,_,h,h'=>by rw[show _=_ from h];exact h'
 | d::ds,_,_,_,h,h'=>by
  obtain⟨x,r,e,h1,h2⟩:=h
  subst e
  exact⟨x,r++_,rfl,h1,Reps.app h2 h'⟩
inductive Ql(K:PySem.W.Frag)(vs:List V)(H:Hp)(Q:VK):Prop
 | mk (b:Addr) (m n:Int) (_:vs=[.ref b,.int m]) (_:BoxAt H b n) (_:n<1000000) (_:0<=m) (_:m<=100) (_:∀(p:Addr) (as:List (Nat×Nat)) (ord:List Nat) H',SameB b H H'->BoxAt H' b (n+800)->Rep K H' (y4 as) (.ref p)->ord.Perm (List.range m.toNat)->ByOrd ord as->as.length<=300->Q (.ref p) H'):Ql K vs H Q
def VE(K:PySem.W.Frag):Sp:=fun vs H Q _=>Ql K vs H Q
theorem VH:zF ["_law_box_here", "_law_many", "_law_order_here", "_law_found", "_law_turn", "_law_k"] ["_law_box_here", "_law_many"] (zt (topL 39)):=⟨rfl,rfl,rfl,by decide +kernel,rfl,by decide +kernel,by decide +kernel⟩
theorem zht{m r:Int}(h:0<=r)(h':r<4)(m2:2<=m)(m1:m<=100):∃z:Int,atI [V.int 1,V.int 4,V.int 13,V.int (2*m)] r=some (.int z)/\1<=z/\z<=200:=by
 have hc:r=0\/r=1\/r=2\/r=3:=by omega
 rcases hc with rfl | rfl | rfl | rfl
 ·exact⟨1,rfl,by omega,by omega⟩
 ·exact⟨4,rfl,by omega,by omega⟩
 ·exact⟨13,rfl,by omega,by omega⟩
 ·exact⟨2*m,rfl,by omega,by omega⟩
theorem zcW{ord:List Nat}{i:Int}(h:0<=i)(h':i<ord.length):∃x:Nat,atI (ord.map fun i:Nat=>V.int (i:Int)) i=some (.int (x:Int))/\ord[i.toNat]? =some x:=by
 obtain⟨v,e1,e2⟩:=Zs (xs:=ord.map fun i:Nat=>V.int (i:Int)) h (by rw[zq];exact h')
 rw[qr] at e2
 obtain⟨x,hx,rfl⟩:=jb.mp e2
 exact⟨x,e1,hx⟩
def zba(b:_)(m:_)(o:_)(R:_)(H:_)(n:_)(ord:_)(K:_):=fun(i:Nat) (σ:St) (H5:Hp)=>(Ex4 fun(as:List (Nat×Nat)) (xs:List V) (v4 v5:Option V)=>An8 (σ=[some (.ref b),some (.int m),some (.ref o),some (.ref R),v4,v5]) (SameB b H H5) (BoxAt H5 b (n+110+2*i)) (H5 o=some (.lst (ord.map fun i:Nat=>V.int (i:Int)))) (H5 R=some (.lst xs)) (Reps K H5 (as.map jP) xs) (ByOrd ord as) (as.length=i):Prop)
theorem zbD{f:Addr}{fd:FuncData}(F:Fun K "_law_aheads" "_law_aheads" (topL 39) f fd)(B:Blt mg)(D_take:Dfn P w K mg base "_law_take" 1 ["_law_box_here", "_law_size"] jW)(D_shuffled:Dfn P w K mg base "_law_shuffled" 2 ["_law_box_here", "_law_some"] (Xh K)):qH P w K mg base CX0 3 f fd ["_law_box_here", "_law_many"] (VE K):=by
 have nd:=VH.nd
 refine F.ok VH (fun vs H Q E h=>?_) (fun cdv A outer s H vs Q E hr h=>?_)
 ·obtain⟨b,m,n,rfl,_⟩:=h
  rfl
 ·obtain⟨b,m,n,rfl,B0,hn,m0,m1,k⟩:=h
  have hbig:100000<sizeLine:=by rw[sizeLine_eq];decide
  have e62:(2:Int)^62=4611686018427387904:=by decide
  refine⟨_,(zg (Qo (i:=2) (j:=3) rfl nd rfl rfl (by decide) rfl rfl (za (zk D_shuffled (hr.mono (by decide)) rfl (za (pv 0) (za (yG rfl rfl B.list rfl B.range qG (za (pv 1) ze)) ze))) (za (zN ze) ze)) (by rfl))
   (zg (je (zO zcZ (pv 1) zf (zQ _))
   (zo (zE (zY ze)))
   qI)
   (zg (qW ju rfl (qz rfl B.range (za (zk D_take (hr.mono (by decide)) rfl (za (pv 0) (za (zu zS (zN (za zf (za zf (za zf (za (zA va zf (pv 1)) ze))))) (zk D_take (hr.mono (by decide)) rfl (za (pv 0) (za zf ze))) (fun _ _=>rfl)) ze))) ze)) (zy (i:=4) nd rfl (Or.inl rfl))
   (zg (zC (i:=5) nd rfl (Or.inl rfl) (zk D_take (hr.mono (by decide)) rfl (za (pv 0) (za (zA xz (pv 1) zf) ze))))
    (zo (z7 (jm jh jV jU z9 (pv 3) (za (zY (za (zu zS (pv 2) (pv 5) (fun _ _=>rfl)) (za (zu zS (pv 2) (zA qw (zA qw (pv 5) zf) (zk D_take (hr.mono (by decide)) rfl (za (pv 0) (za (zA xz (zA xz (pv 1) zf) (pv 5)) ze)))) (fun _ _=>rfl)) ze))) ze))))))
   (zo (zE (qA jg rfl B.tuple qP (za (zA jO (pv 3) (jK j5 (pv 3) xK (jz (qA wR rfl B.int vL (za (qM jt (zk D_take (hr.mono (by decide)) rfl (za (pv 0) (za zf ze))) zf (zQ _)) ze))))) ze))))))),?_⟩
  refine⟨_,rfl,_,rfl,m,rfl,m0,by omega,fun l0 h0=>?_⟩
  have len0:((List.range m.toNat).map fun i:Nat=>V.int (i:Int)).length=m.toNat:=by rw[zq,vQ]
  refine⟨b,l0,n,_,rfl,B0.new h0,by omega,B0.nne h0,zb,by rw[len0];omega,fun o ys H1 S1 B1 no oN ho pm=>⟨le0,fun R hR=>⟨_,_,rfl,?_⟩⟩⟩
  obtain⟨ord,op,rfl⟩:=yF pm rfl
  have ol:ord.length=m.toNat:=by rw[op.length_eq,vQ]
  rw[len0] at B1
  have nR:=B1.nne hR
  have oR:o≠R:=zn ho hR
  have S1':=((SameB.refl b H).new h0).trans S1
  have RH:H R=none:=S1'.none hR nR
  have S2:=S1'.new (o:=.lst []) hR
  have B2:=B1.new (o:=.lst []) hR
  have O2:=(zd (o:=.lst []) hR) _ _ ho
  have R2:upd H1 R (.lst []) R=some (.lst []):=zb
  generalize upd H1 R (.lst [])=H2 at S2 B2 O2 R2
  refine⟨_,rfl,_,_,rfl,rfl,_,rfl,jA (fun c=>?_) (fun c=>?_)⟩
  ·exact⟨le0,fun p hp=>k p [] ord _ (S2.new hp) ((B2.new hp).mono (by omega)) ⟨p,[],rfl,SqT.of zb,rfl⟩ op (fun p h=>nomatch h) (qe _)⟩
  have m2:2<=m:=by
   have:¬m<2:=fun z=>c (qQ z)
   omega
  refine⟨_,rfl,_,rfl,_,_,rfl,rfl,.inl ⟨by decide,by decide⟩,le4,fun l1 h1=>⟨_,rfl,b,4,_,rfl,B2.new h1,by omega,by decide,by decide,fun r H3 r0 r1 B3 S3=>?_⟩⟩
  have L3:=S3 l1 _ zb (B2.nne h1)
  obtain⟨z,ez,z0,z1⟩:=zht r0 r1 m2 m1
  refine⟨l1,_,_,_,rfl,rfl,SqL.of L3,ez,b,z,_,rfl,B3,by omega,by omega,by omega,fun cnt H4 c0 c1 B4 S4=>⟨_,rfl,(by rw[e62];omega),(by rw[e62];omega),?_⟩⟩
  have U4:=((SameB.refl b H2).new h1).trans (S3.trans S4)
  have S4':=S2.trans U4
  have O4:=U4 _ _ O2 no
  have R4:=U4 _ _ R2 nR
  clear S2 B2 O2 R2 S3 S4 U4 L3 h1 B3
  refine jc (zba b m o R H n ord K)
   ⟨[],[],_,_,rfl,S4',B4.mono (by omega),O4,R4,rfl,(fun p h=>nomatch h),rfl⟩ ?_ ?_
  ·rintro i σ H5 hi ⟨as,xs,v4,v5,rfl,S5,B5,O5,R5,rp,bo,asl⟩
   have xl:xs.length=i:=by rw[rp.len,zq,asl]
   refine⟨_,rfl,_,rfl,_,_,rfl,rfl,b,_,_,rfl,B5,by omega,by omega,by omega,fun kk H6 k0 k1 B6 S6=>?_⟩
   have O6:=S6 _ _ O5 no
   obtain⟨x1,ex1,ox1⟩:=zcW (ord:=ord) k0 (by omega)
   refine⟨_,rfl,.inl ⟨rfl,_,SqL.of (S6 _ _ R5 nR)⟩,_,rfl,_,rfl,o,_,_,_,rfl,rfl,SqL.of O6,ex1,?_⟩
   refine⟨_,rfl,_,rfl,_,_,rfl,rfl,_,rfl,_,rfl,_,_,rfl,rfl,_,rfl,_,_,rfl,rfl,b,_,_,rfl,B6,by omega,by omega,by omega,fun q H7 q0 q1 B7 S7=>⟨_,_,rfl,rfl,?_⟩⟩
   have O7:=S7 _ _ O6 no
   have R7:=S7 _ _ (S6 _ _ R5 nR) nR
   obtain⟨x2,ex2,ox2⟩:=zcW (ord:=ord) (i:=kk+1+q) (by omega) (by omega)
   refine⟨o,_,_,_,rfl,rfl,SqL.of O7,ex2,le2,fun T hT=>⟨R,xs,.ref T,rfl,rfl,(zd hT) _ _ R7,by omega,?_⟩⟩
   have R8:=(zd (o:=.tup [.int (x1:Int),.int (x2:Int)]) hT) _ _ R7
   have st:SameT H5 (upd (upd H7 T (.tup [.int (x1:Int),.int (x2:Int)])) R (.lst (xs++[.ref T]))):=((SameT.draw B5 (S6.trans S7)).trans (.of (zd hT))).trans (.put R8)
   refine⟨as++[(x1,x2)],_,_,_,rfl,(((S5.trans S6).trans S7).new hT).put RH,((B7.new hT).other nR).mono (by omega),by rw[zi oR];exact(zd hT) _ _ O7,zb,?_,fun pq hpq=>?_,by rw[zV,asl];rfl⟩
   ·rw[zX]
    refine Reps.snoc ?_ (Reps.keep st (qS as) rp)
    refine⟨T,_,rfl,SqT.of ?_,_,_,rfl,rfl,_,_,rfl,rfl,rfl⟩
    rw[zi (fun zz=>by rw[zz,R7] at hT;cases hT)]
    exact zb
   ·rcases qT.mp hpq with w1 | w1
    ·exact bo pq w1
    ·rw[qo.mp w1]
     exact⟨kk.toNat,(kk+1+q).toNat,by omega,ox1,ox2⟩
  ·rintro σ H5 ⟨as,xs,v4,v5,rfl,S5,B5,O5,R5,rp,bo,asl⟩
   have xl:xs.length=as.length:=by rw[rp.len,zq]
   refine⟨_,rfl,_,rfl,_,rfl,b,4,_,rfl,B5,by omega,by decide,by decide,fun r9 H6 r90 r91 B6 S6=>⟨rfl,.inr ⟨_,rfl,_,rfl,R,xs,rfl,SqL.of (S6 _ _ R5 nR),fun s1 hs1=>?_⟩⟩⟩
   have R6:=S6 _ _ R5 nR
   obtain⟨t,et⟩:∃t:Nat,jB xs none (some (if decide (V.int r9=V.int 0)=true then(1:Int) else 0))=xs.take t/\t<=1:=by
    unfold jB
    by_cases hd:decide (V.int r9=V.int 0)=true
    ·rw[zH hd,show(some (1:Int))=some ((1:Nat):Int) from rfl,HT.sIx_nat,HT.sIx_none]
     refine⟨min 1 xs.length,by simp,by omega⟩
    ·rw[zx hd,show(some (0:Int))=some ((0:Nat):Int) from rfl,HT.sIx_nat,HT.sIx_none]
     refine⟨0,by simp,by omega⟩
   rw[et.1]
   have st:SameT H5 H6:=.draw B5 S6
   have rp6:=Reps.keep st (qS as) rp
   have tl:(xs.take t).length<=1:=by rw[qR];omega
   refine⟨R,s1,_,_,rfl,rfl,(zd hs1) _ _ R6,zb,by omega,fun c1 hc1=>⟨c1,_,rfl,.inl ⟨SqL.of zb,fun p hp=>?_⟩⟩⟩
   have sm:=((zd (o:=.lst (xs.take t)) hs1).trans (zd (o:=.lst (xs++xs.take t)) hc1)).trans (zd (o:=.tup (xs++xs.take t)) hp)
   refine k p (as++as.take t) ord _ ((((S5.trans S6).new hs1).new hc1).new hp) ((((B6.new hs1).new hc1).new hp).mono (by omega)) ⟨p,_,rfl,SqT.of zb,?_⟩ op (fun pq hpq=>?_) (by rw[zV,qR];omega)
   ·have rp7:=Reps.keep (SameT.of sm) (qS as) rp6
    have rt:=Reps.take t rp7
    rw[<- List.map_take] at rt
    have:=Reps.app rp7 rt
    rw[<- zX] at this
    exact this
   ·rcases qT.mp hpq with w1 | w1
    ·exact bo pq w1
    ·exact bo pq (List.mem_of_mem_take w1)
structure xi where
 k:Str
 x:Int
 y:Int
structure xH where
 k:Str
 x:Int
 y:Int
 m:Int
def j7(p:xi):Dat:=.tup [.str p.k,.tup [.int p.x,.int p.y]]
def xS(p:xH):Dat:=.tup [.str p.k,.tup [.int p.x,.int p.y],.int p.m]
theorem x6:∀(as:List xH),Dat.imms (as.map xS)=true
 | []=>rfl
 | p::as=>by
  show(Dat.imm (xS p)&&Dat.imms (as.map xS))=true
  rw[x6 as];rfl
theorem xu:∀(as:List xi),Dat.imms (as.map j7)=true
 | []=>rfl
 | p::as=>by
  show(Dat.imm (j7 p)&&Dat.imms (as.map j7))=true
  rw[xu as];rfl
def inP(x y:Int):Prop:=0<=x/\x<=1000/\0<=y/\y<=1000
inductive VB(K:PySem.W.Frag)(vs:List V)(H:Hp)(Q:VK):Prop
 | mk (b ks ps:Addr) (pl:Bool) (n:Int) (kinds:List Str) (parts:List xi) (_:vs=[.ref b,.ref ks,.ref ps,.bl pl]) (_:BoxAt H b n) (_:n<900000) (_:ks≠b) (_:Row H ks kinds) (_:1<=kinds.length) (_:kinds.length<=12) (_:Rep K H (.tup (parts.map j7)) (.ref ps)) (_:parts.length<=100) (_:∀(p:Addr) (fs:List xH) (es:List Str) H',SameB b H H'->BoxAt H' b (n+400)->Rep K H' (.tup (fs.map xS)) (.ref p)->(fs.map (·.k)).Perm (kinds++es)->(∀e∈es,e∈kinds)->fs.length<=40->(∀f∈fs,Nm f.k/\inP f.x f.y/\0<=f.m/\f.m<=400)->Q (.ref p) H'):VB K vs H Q
def zco(K:PySem.W.Frag):Sp:=fun vs H Q _=>VB K vs H Q
theorem zcE:zF ["_law_box_here", "_law_kinds", "_law_parts", "_law_plenty", "_law_great", "_law_more", "_law_some", "_law_found", "_law_kind", "_law_need", "_law_many"] ["_law_box_here", "_law_kinds", "_law_parts", "_law_plenty"] (zt (topL 38)):=⟨rfl,rfl,rfl,by decide +kernel,rfl,by decide +kernel,by decide +kernel⟩
theorem zcb{ns:List Str}{i:Int}(h:0<=i)(h':i<ns.length):∃x,atI (ns.map V.str) i=some (.str x)/\x∈ns:=by
 obtain⟨v,e1,e2⟩:=Zs (xs:=ns.map V.str) h (by rw[zq];exact h')
 rw[qr] at e2
 obtain⟨x,hx,rfl⟩:=jb.mp e2
 exact⟨x,e1,qU hx⟩
theorem zhs{a c r:Int}(h:0<=r)(h':r<3)(a0:0<=a)(a1:a<=400)(c0:0<=c)(c1:c<=400):∃z:Int,atI [V.int a,V.int c,V.int 400] r=some (.int z)/\0<=z/\z<=400:=by
 have hc:r=0\/r=1\/r=2:=by omega
 rcases hc with rfl | rfl | rfl
 ·exact⟨a,rfl,a0,a1⟩
 ·exact⟨c,rfl,c0,c1⟩
 ·exact⟨400,rfl,by omega,by omega⟩
def za9(kinds:List Str)(b:_)(H2:_)(n:_):=fun(j:Nat) (zs:List V) (H3:Hp)=>(Ex1 fun(es:List Str)=>An5 (zs=es.map V.str) (es.length=j) ((∀x∈es,x∈kinds)) (SameB b H2 H3) (BoxAt H3 b (n+2+j)):Prop)
theorem zeC{f:Addr}{fd:FuncData}(F:Fun K "_law_feeders" "_law_feeders" (topL 38) f fd)(B:Blt mg)(D_take:Dfn P w K mg base "_law_take" 1 ["_law_box_here", "_law_size"] jW)(D_shuffled:Dfn P w K mg base "_law_shuffled" 2 ["_law_box_here", "_law_some"] (Xh K))(D_place:Dfn P w K mg base "_law_place" 2 ["_law_box_here", "_law_taken"] (Z2 K)):qH P w K mg base CX0 3 f fd ["_law_box_here", "_law_kinds", "_law_parts", "_law_plenty"] (zco K):=by
 have nd:=zcE.nd
 refine F.ok zcE (fun vs H Q E h=>?_) (fun cdv A outer s H vs Q E hr h=>?_)
 ·obtain⟨b,ks,ps,pl,n,kinds,parts,rfl,_⟩:=h
  rfl
 ·obtain⟨b,ks,ps,pl,n,kinds,parts,rfl,B0,hn,nk,Rk,k0,k1,hp,lp,k⟩:=h
  have hbig:100000<sizeLine:=by rw[sizeLine_eq];decide
  have e62:(2:Int)^62=4611686018427387904:=by decide
  have ek:(kinds.map V.str).length=kinds.length:=zq ..
  refine⟨_,(zg (zC (i:=4) nd rfl (Or.inl rfl) (qM jt (zk D_take (hr.mono (by decide)) rfl (za (pv 0) (za zf ze))) zf (zQ _)))
   (zg (xJ (zC (i:=5) nd rfl (Or.inl rfl) (zk D_take (hr.mono (by decide)) rfl (za (pv 0) (za (jX (jD (pv 4)) (zA xz zf (zp zL rfl B.len boot_len (za (pv 1) ze))) zf) ze)))))
   (zg (zC (i:=6) nd rfl (Or.inl rfl) (zA jO (pv 1) (xa ["_law_kinds", "_law_box_here"] [1,0] rfl rfl (by kernel_rfl) (qz rfl B.range (za (pv 5) ze)) (fun _ _ _ _=>jw) (fun _ _ _ _=>(zu (yM (K:=K) rfl) (pv 1) (zk D_take (hr.mono (by decide)) rfl (za (pv 2) (za (zp (wX (K:=K) rfl) rfl B.len boot_len (za (pv 1) ze)) ze))) (fun _ _=>rfl))))))
   (zg (zC (i:=7) nd rfl (Or.inl rfl) (zN ze))
   (zg (qW ju rfl (qJ (zk D_shuffled (hr.mono (by decide)) rfl (za (pv 0) (za (pv 6) ze)))) (zy (i:=8) nd rfl (Or.inr rfl))
   (zg (zC (i:=9) nd rfl (Or.inl rfl) (zp zL rfl B.len boot_len (za (xa ["_law_kind"] [8] rfl rfl (by kernel_rfl) (vz (pv 2)) (fun _ _ _ _=>(xX (zO jt (zu (qq (K:=K) rfl) (pv 0) zf (fun _ _=>rfl)) (pv 1) (zQ _)))) (fun _ _ _ _=>(pv 0))) ze)))
    (zg (xJ (zC (i:=10) nd rfl (Or.inl rfl) (jX (jD (pv 3)) (zu zS (zN (za (pv 9) (za (zA qw (pv 9) (zk D_take (hr.mono (by decide)) rfl (za (pv 0) (za zf ze)))) (za zf ze)))) (zk D_take (hr.mono (by decide)) rfl (za (pv 0) (za zf ze))) (fun _ _=>rfl)) (zk D_take (hr.mono (by decide)) rfl (za (pv 0) (za zf ze))))))
    (zo (z7 (jm jh jV jU z9 (pv 7) (za (zY (za (pv 8) (za (zk D_place (hr.mono (by decide)) rfl (za (pv 0) (za (zN ze) ze))) (za (pv 10) ze)))) ze)))))))
   (zo (zE (qA jg rfl B.tuple qP (za (pv 7) ze))))))))),?_⟩
  refine⟨_,rfl,b,8,n,rfl,B0,by omega,by decide,by decide,fun r H1 r0 r1 B1 S1=>⟨rfl,?_⟩⟩
  have Rk1:=Rk.draw S1 nk
  refine⟨fun σ' H'=>Ex1 fun(more:Int)=>An5 (σ'=[some (.ref b),some (.ref ks),some (.ref ps),some (.bl pl),some (.bl (decide (V.int r=V.int 0))),some (.int more),none,none,none,none,none]) (0<=more) (more<=20) (SameB b H H') (BoxAt H' b (n+2)),?_,?_⟩
  ·refine⟨_,rfl,_,rfl,_,rfl,jA (fun c=>?_) (fun c=>?_)⟩
   ·exact⟨_,rfl,ks,_,rfl,.inl (SqL.of Rk1.1),_,_,rfl,rfl,b,_,_,rfl,B1,by omega,by omega,by omega,fun more H2 a0 a1 B2 S2=>⟨_,rfl,a0,by omega,S1.trans S2,B2.mono (by omega)⟩⟩
   ·exact⟨b,4,_,rfl,B1,by omega,by decide,by decide,fun more H2 a0 a1 B2 S2=>⟨_,rfl,a0,by omega,S1.trans S2,B2.mono (by omega)⟩⟩
  rintro σ' H2 ⟨more,rfl,mo0,mo1,S2,B2⟩
  clear S1 B1 Rk1
  have Rk2:=Rk.draw S2 nk
  refine⟨_,rfl,_,rfl,_,rfl,(by rw[e62];omega),(by rw[e62];omega),yL (za9 kinds b H2 n) ⟨[],rfl,rfl,(fun x h=>nomatch h),SameB.refl _ _,B2.mono (by omega)⟩ ?_ ?_⟩
  ·rintro j zs H3 hj ⟨es,rfl,el,ee,S3,B3⟩
   refine⟨rfl,⟨_,rfl,_,rfl,_,rfl,ks,_,rfl,.inl (SqL.of (Rk2.draw S3 nk).1),b,_,_,rfl,B3,by omega,by omega,by omega,fun q H4 q0 q1 B4 S4=>?_⟩⟩
   obtain⟨y,ey,my⟩:=zcb (ns:=kinds) q0 (by omega)
   refine⟨ks,_,_,_,rfl,rfl,SqL.of (Rk2.draw (S3.trans S4) nk).1,ey,by rw[zq,el];omega,es++[y],by rw[zX];rfl,by rw[zV,el];rfl,fun x hx=>?_,S3.trans S4,B4.mono (by omega)⟩
   rcases qT.mp hx with pq | pq
   ·exact ee x pq
   ·rw[qo.mp pq];exact my
  rintro zs H3 ⟨es,rfl,el,ee,S3,B3⟩
  refine⟨by rw[zq,el];omega,fun D hD=>?_⟩
  have S3':=(S2.trans S3).new (o:=.lst (es.map V.str)) hD
  have Rk3:=(Rk2.draw S3 nk).same (zd (o:=.lst (es.map V.str)) hD)
  refine⟨ks,D,_,_,rfl,rfl,Rk3.1,zb,by rw[ek,zq,el];omega,fun sm hs=>?_⟩
  have B4:=(B3.new (o:=.lst (es.map V.str)) hD).new (o:=.lst (kinds.map V.str++es.map V.str)) hs
  have S4:=S3'.new (o:=.lst (kinds.map V.str++es.map V.str)) hs
  have ns:=(B3.new (o:=.lst (es.map V.str)) hD).nne hs
  have M4:upd (upd H3 D (.lst (es.map V.str))) sm (.lst (kinds.map V.str++es.map V.str)) sm=some (.lst ((kinds++es).map V.str)):=by rw[zb,zX]
  generalize upd (upd H3 D (.lst (es.map V.str))) sm (.lst (kinds.map V.str++es.map V.str))=H4 at B4 S4 M4
  clear S2 S3 S3' Rk2 Rk3 B2 B3 hD hs
  refine⟨le0,fun R hR=>?_⟩
  have nR:=B4.nne hR
  have RH:H R=none:=S4.none hR nR
  have lenk:((kinds++es).map V.str).length<=32:=by rw[zq,zV,el];omega
  refine⟨_,rfl,_,rfl,b,sm,_,_,rfl,B4.new hR,by omega,ns,(zd hR) _ _ M4,by omega,fun l ys H5 S5 B5 nl lN hl pm=>?_⟩
  obtain⟨sh,shp,rfl⟩:=yF pm rfl
  have S5':=(S4.new (o:=.lst []) hR).trans S5
  have R5:H5 R=some (.lst []):=S5 _ _ zb nR
  have lR:l≠R:=fun z=>by rw[z,zb] at lN;cases lN
  have shl:sh.length<=32:=by rw[shp.length_eq];rw[zq] at lenk;exact lenk
  have shn:∀x∈sh,Nm x:=fun x hx=>by
   rcases qT.mp (shp.mem_iff.mp hx) with q | q
   ·exact Rk.2 x q
   ·exact Rk.2 x (ee x q)
  clear pm M4 S4 S5 B4 hR
  refine⟨l,rfl,⟨_,SqL.of hl⟩,xc (K:=K) (a:=l) (xs:=sh.map V.str) (fun i σ H6=>Ex6 fun(fs:List xH) (xs:List V) (v6 v8 v9 v10:Option V)=>An8 (σ=[some (.ref b),some (.ref ks),some (.ref ps),some (.bl pl),some (.bl (decide (V.int r=V.int 0))),some (.int more),v6,some (.ref R),v8,v9,v10]) (SameB b H H6) (BoxAt H6 b (n+60+6*i)) (H6 l=some (.lst (sh.map V.str))) (H6 R=some (.lst xs)) (Reps K H6 (fs.map xS) xs) (fs.map (·.k)=sh.take i) (∀f∈fs,Nm f.k/\inP f.x f.y/\0<=f.m/\f.m<=400))
   ⟨[],[],_,_,_,_,rfl,S5',B5.mono (by omega),hl,R5,rfl,rfl,(fun f h=>nomatch h)⟩ (fun i σ H6 _ ⟨_,_,_,_,_,_,_,_,_,h,_,_,_,_⟩=>SqL.of h) ?_ ?_⟩
  ·rintro i x σ H6 hx ⟨fs,xs,v6,v8,v9,v10,rfl,S6,B6,L6,R6,rp,fk,fa⟩
   rw[qr] at hx
   obtain⟨kd,hkd,rfl⟩:=jb.mp hx
   have hi:=(zW.mp hkd).1
   have fl:fs.length=i:=by
    have:=congrArg List.length fk
    rw[zq,qR] at this
    omega
   have xl:xs.length=i:=by rw[rp.len,zq,fl]
   have hp6:=Rep.keep (d:=.tup (parts.map j7)) (SameT.draw B0 S6) (xu parts) hp
   obtain⟨_,pxs,ep,hq,hps⟩:=hp6
   cases ep
   have pl':pxs.length=parts.length:=by rw[hps.len,zq]
   refine⟨_,rfl,ps,rfl,⟨_,hq⟩,wq (K:=K) (a:=ps) (xs:=pxs) (fun j zs H7=>zs.length<=j/\Same H6 H7) ⟨zJ _,Same.refl _⟩ (fun j zs H7 ⟨_,s7⟩=>s7.sqT hq) ?_ ?_⟩
   ·rintro j v zs H7 hv ⟨zl,s7⟩
    have hj:=(zW.mp hv).1
    obtain⟨d,hd,rd⟩:=hps.get hv
    rw[qr] at hd
    obtain⟨pt,_,rfl⟩:=jb.mp hd
    obtain⟨c,cxs,rfl,hc,u1,r1',e1,e2,e3⟩:=rd
    subst e1
    cases(show u1=.str pt.k from e2)
    refine⟨rfl,⟨_,rfl,c,_,_,.str pt.k,rfl,rfl,s7.sqT hc,qk (j:=0) rfl,_,rfl,rfl,_,rfl,jA (fun dd=>⟨_,rfl,by omega,by rw[zV];simp;omega,s7⟩) (fun dd=>⟨by omega,s7⟩)⟩⟩
   rintro zs H7 ⟨zl,s7⟩
   refine⟨by omega,fun D2 hD2=>⟨D2,zs,rfl,.inl (SqL.of zb),?_⟩⟩
   have s8:=s7.trans (zd (o:=.lst zs) hD2)
   have B8:=B6.same s8
   generalize upd H7 D2 (.lst zs)=H8 at s8 B8
   refine⟨fun σ' H'=>Ex1 fun(many:Int)=>An5 (σ'=[some (.ref b),some (.ref ks),some (.ref ps),some (.bl pl),some (.bl (decide (V.int r=V.int 0))),some (.int more),v6,some (.ref R),some (.str kd),some (.int (zs.length:Int)),some (.int many)]) (0<=many) (many<=400) (SameB b H8 H') (BoxAt H' b (n+60+6*i+2)),?_,?_⟩
   ·refine⟨_,rfl,_,rfl,jA (fun c=>?_) (fun c=>?_)⟩
    ·refine⟨_,rfl,_,rfl,_,rfl,b,9,_,rfl,B8,by omega,by decide,by decide,fun q9 H9 a0 a1 B9 S9=>⟨_,_,rfl,rfl,le3,fun l3 h3=>⟨_,rfl,b,3,_,rfl,B9.new h3,by omega,by decide,by decide,fun q3 H10 c0 c1 B10 S10=>?_⟩⟩⟩
     have L10:=S10 l3 _ zb (B9.nne h3)
     obtain⟨z,ez,z0,z1⟩:=zhs (a:=(zs.length:Int)) (c:=(zs.length:Int)+q9) c0 c1 (by omega) (by omega) (by omega) (by omega)
     exact⟨l3,_,_,_,rfl,rfl,SqL.of L10,ez,z,rfl,z0,z1,(S9.new h3).trans S10,B10.mono (by omega)⟩
    ·exact⟨_,rfl,b,4,_,rfl,B8,by omega,by decide,by decide,fun q9 H9 a0 a1 B9 S9=>⟨q9,rfl,a0,by omega,S9,B9.mono (by omega)⟩⟩
   rintro σ' H9 ⟨many,rfl,y0,y1,S9,B9⟩
   have S9':=(SameB.of (b:=b) s8).trans S9
   have R9:=S9' _ _ R6 nR
   refine⟨_,rfl,.inl ⟨rfl,_,SqL.of R9⟩,_,rfl,_,rfl,le0,fun e he=>⟨b,e,_,[],rfl,B9.new he,by omega,B9.nne he,zb,qe _,(fun a h=>nomatch h),fun pp H10 S10 B10 ppN pa=>⟨_,rfl,le3,fun T hT=>?_⟩⟩⟩
   obtain⟨px,py,hpp,b1,b2,b3,b4⟩:=pa
   have R10:=S10 _ _ ((zd he) _ _ R9) nR
   have R11:=(zd (o:=.tup [.str kd,.ref pp,.int many]) hT) _ _ R10
   refine⟨R,xs,.ref T,rfl,rfl,R11,by omega,?_⟩
   have S11:=(S9'.new he).trans (S10.new (o:=.tup [.str kd,.ref pp,.int many]) hT)
   have st:SameT H6 (upd (upd H10 T (.tup [.str kd,.ref pp,.int many])) R (.lst (xs++[.ref T]))):=(SameT.draw B6 S11).trans (.put R11)
   have TR:T≠R:=fun z=>by rw[z,R10] at hT;cases hT
   have ppR:pp≠R:=fun z=>by rw[z,R10] at hpp;cases hpp
   have ppT:pp≠T:=fun z=>by rw[z,hT] at hpp;cases hpp
   refine⟨fs++[⟨kd,px,py,many⟩],_,_,_,_,_,rfl,(S6.trans S11).put RH,((B10.new hT).other nR).mono (by omega),by rw[zi lR];exact S11 _ _ L6 nl,zb,?_,?_,fun g hgm=>?_⟩
   ·rw[zX]
    refine Reps.snoc ?_ (Reps.keep st (x6 fs) rp)
    refine⟨T,_,rfl,SqT.of (by rw[zi TR];exact zb),_,_,rfl,rfl,_,_,rfl,⟨pp,_,rfl,SqT.of (by rw[zi ppR,zi ppT];exact hpp),_,_,rfl,rfl,_,_,rfl,rfl,rfl⟩,_,_,rfl,rfl,rfl⟩
   ·rw[zX,fk]
    obtain⟨h1,h2⟩:=zW.mp hkd
    rw[<- yb h1,h2]
    rfl
   ·rcases qT.mp hgm with q | q
    ·exact fa g q
    ·rw[qo.mp q]
     exact⟨shn kd (qU hkd),⟨b1,b2,b3,b4⟩,y0,y1⟩
  ·rintro σ H6 ⟨fs,xs,v6,v8,v9,v10,rfl,S6,B6,L6,R6,rp,fk,fa⟩
   rw[zq,qX] at fk
   have fl:fs.length<=32:=by
    have:=congrArg List.length fk
    rw[zq] at this
    omega
   refine⟨_,rfl,R,xs,rfl,.inl ⟨SqL.of R6,fun p hp'=>?_⟩⟩
   refine k p fs es _ (S6.new hp') ((B6.new hp').mono (by rw[zq] at *;omega)) ⟨p,_,rfl,SqT.of zb,Reps.keep (SameT.of (zd hp')) (x6 fs) rp⟩ (by rw[fk];exact shp) ee (by omega) fa
structure Job where
 gx:Int
 gy:Int
 hd:Int
 fs:List xH
 ps:List xi
 as:List (Nat×Nat)
def xo(J:Job):Dat:=.tup [.tup [.int J.gx,.int J.gy],.int J.hd,.tup (J.fs.map xS),.tup (J.ps.map j7),y4 J.as]
theorem vI(J:Job):(xo J).imm=true:=by
 show(true&&(true&&(Dat.imms (J.fs.map xS)&&(Dat.imms (J.ps.map j7)&&(Dat.imms (J.as.map jP)&&true)))))=true
 rw[x6,xu,qS];rfl
structure JobOk(J:Job)(ord:List Nat):Prop where
 gate:inP J.gx J.gy
 hd0:1<=J.hd
 hd1:J.hd<=4
 fl:J.fs.length<=40
 fa:∀f∈J.fs,Nm f.k/\inP f.x f.y/\0<=f.m/\f.m<=400
 pl:J.ps.length<=60
 pa:∀p∈J.ps,Nm p.k/\inP p.x p.y/\∃f∈J.fs,f.k=p.k
 op:ord.Perm (List.range J.ps.length)
 bo:ByOrd ord J.as
 al:J.as.length<=300
 f0:1<=J.fs.length
theorem zee{r:Int}(h0:0<=r)(h1:r<4):∃z:Int,atI [V.int 3,V.int 3,V.int 3,V.int 12] r=some (.int z)/\3<=z/\z<=12:=by
 have hc:r=0\/r=1\/r=2\/r=3:=by omega
 rcases hc with rfl | rfl | rfl | rfl
 ·exact⟨3,rfl,by decide,by decide⟩
 ·exact⟨3,rfl,by decide,by decide⟩
 ·exact⟨3,rfl,by decide,by decide⟩
 ·exact⟨12,rfl,by decide,by decide⟩
inductive Y8(K:PySem.W.Frag)(vs:List V)(H:Hp)(Q:VK):Prop
 | mk (b:Addr) (few most n:Int) (pl:Bool) (_:vs=[.ref b,.int few,.int most,.bl pl]) (_:BoxAt H b n) (_:n<500000) (_:0<=few) (_:few<=60) (_:0<=most) (_:most<=60) (_:∀(p:Addr) (J:Job) (ord:List Nat) H',SameB b H H'->BoxAt H' b (n+3000)->Rep K H' (xo J) (.ref p)->JobOk J ord->Q (.ref p) H'):Y8 K vs H Q
def zfc(K:PySem.W.Frag):Sp:=fun vs H Q _=>Y8 K vs H Q
theorem zfq:zF ["_law_box_here", "_law_few", "_law_most", "_law_plenty", "_law_many", "_law_kinds", "_law_parts", "_law_feeders_here"] ["_law_box_here", "_law_few", "_law_most", "_law_plenty"] (zt (topL 40)):=⟨rfl,rfl,rfl,by decide +kernel,rfl,by decide +kernel,by decide +kernel⟩
def za8(b:_)(few:_)(most:_)(pl:_)(H:_)(n:_):=fun(σ':St) (H':Hp)=>(Ex1 fun(m:Int)=>An5 (σ'=[some (.ref b),some (.int few),some (.int most),some (.bl pl),some (.int m),none,none,none]) (0<=m) (m<=60) (SameB b H H') (BoxAt H' b (n+2)):Prop)
def za7(K:_)(kinds:List Str)(b:_)(H6:_)(n:_):=fun(j:Nat) (zs:List V) (H7:Hp)=>(Ex1 fun(qs:List xi)=>An5 (Reps K H7 (qs.map j7) zs) (qs.length=j) ((∀q∈qs,q.k∈kinds/\inP q.x q.y)) (SameB b H6 H7) (BoxAt H7 b (n+700+j)):Prop)
theorem zgt{f:Addr}{fd:FuncData}(F:Fun K "_law_job" "_law_job" (topL 40) f fd)(B:Blt mg)(D_take:Dfn P w K mg base "_law_take" 1 ["_law_box_here", "_law_size"] jW)(D_names:Dfn P w K mg base "_law_names" 3 ["_law_box_here", "_law_many"] Y3)(D_place:Dfn P w K mg base "_law_place" 2 ["_law_box_here", "_law_taken"] (Z2 K))(D_places:Dfn P w K mg base "_law_places" 3 ["_law_box_here", "_law_many"] Vu)
  (D_feeders:Dfn P w K mg base "_law_feeders" 3 ["_law_box_here", "_law_kinds", "_law_parts", "_law_plenty"] (zco K)) (D_aheads:Dfn P w K mg base "_law_aheads" 3 ["_law_box_here", "_law_many"] (VE K)):qH P w K mg base CX0 4 f fd ["_law_box_here", "_law_few", "_law_most", "_law_plenty"] (zfc K):=by
 have nd:=zfq.nd
 refine F.ok zfq (fun vs H Q E h=>?_) (fun cdv A outer s H vs Q E hr h=>?_)
 ·obtain⟨b,few,most,n,pl,rfl,_⟩:=h
  rfl
 ·obtain⟨b,few,most,n,pl,rfl,B0,hn,f0,f1,mo0,mo1,k⟩:=h
  have hbig:100000<sizeLine:=by rw[sizeLine_eq];decide
  refine⟨_,(zg (xJ (zC (i:=4) nd rfl (Or.inl rfl) (zk D_take (hr.mono (by decide)) rfl (za (pv 0) (za (zA qw (jX (zO Qt (zk D_take (hr.mono (by decide)) rfl (za (pv 0) (za zf ze))) zf (zQ _)) (pv 1) (pv 2)) zf) ze)))))
   (zg (zC (i:=5) nd rfl (Or.inr rfl) (zk D_names (hr.mono (by decide)) rfl (za (pv 0) (za (zA qw zf (zk D_take (hr.mono (by decide)) rfl (za (pv 0) (za (zu zS (zN (za zf (za zf (za zf (za zf ze))))) (zk D_take (hr.mono (by decide)) rfl (za (pv 0) (za zf ze))) (fun _ _=>rfl)) ze)))) ze))))
   (zg (zC (i:=6) nd rfl (Or.inl rfl) (qA jg rfl B.tuple qP (za (xa ["_law_kinds", "_law_box_here"] [5,0] rfl rfl (by kernel_rfl) (qJ (zk D_places (hr.mono (by decide)) rfl (za (pv 0) (za (pv 4) ze)))) (fun _ _ _ _=>jw) (fun _ _ _ _=>(zY (za (zu (yM (K:=K) rfl) (pv 1) (zk D_take (hr.mono (by decide)) rfl (za (pv 2) (za (zp (wX (K:=K) rfl) rfl B.len boot_len (za (pv 1) ze)) ze))) (fun _ _=>rfl)) (za (pv 0) ze))))) ze)))
   (zg (zC (i:=7) nd rfl (Or.inl rfl) (zk D_feeders (hr.mono (by decide)) rfl (za (pv 0) (za (pv 5) (za (pv 6) (za (pv 3) ze))))))
   (zo (zE (zY (pa5 (zk D_place (hr.mono (by decide)) rfl (za (pv 0) (za (zN ze) ze))) (zA qw zf (zk D_take (hr.mono (by decide)) rfl (za (pv 0) (za zf ze)))) (pv 7) (pv 6) (zk D_aheads (hr.mono (by decide)) rfl (za (pv 0) (za (pv 4) ze))))))))))),?_⟩
  refine⟨za8 b few most pl H n,?_,?_⟩
  ·refine⟨_,rfl,_,rfl,b,8,n,rfl,B0,by omega,by decide,by decide,fun r H1 r0 r1 B1 S1=>⟨_,_,rfl,rfl,_,rfl,jA (fun c=>⟨_,rfl,_,_,rfl,rfl,?_⟩) (fun c=>⟨_,rfl,_,_,rfl,rfl,?_⟩)⟩⟩
   ·exact⟨b,_,_,rfl,B1,by omega,by omega,by omega,fun m H2 a0 a1 B2 S2=>⟨m,rfl,a0,by omega,S1.trans S2,B2.mono (by omega)⟩⟩
   ·exact⟨b,_,_,rfl,B1,by omega,by omega,by omega,fun m H2 a0 a1 B2 S2=>⟨m,rfl,a0,by omega,S1.trans S2,B2.mono (by omega)⟩⟩
  rintro σ' H2 ⟨m,rfl,m0,m1,S2,B2⟩
  refine⟨_,rfl,_,rfl,le4,fun l1 h1=>⟨_,rfl,b,4,_,rfl,B2.new h1,by omega,by decide,by decide,fun r H3 r0 r1 B3 S3=>?_⟩⟩
  have L3:=S3 l1 _ zb (B2.nne h1)
  obtain⟨z,ez,z0,z1⟩:=zee r0 r1
  refine⟨l1,_,_,_,rfl,rfl,SqL.of L3,ez,b,z,_,rfl,B3,by omega,by omega,by omega,fun q H4 q0 q1 B4 S4=>⟨_,_,rfl,rfl,b,1+q,_,rfl,B4,by omega,by omega,by omega,fun ks kinds H5 S5 B5 nk kN Rk kl=>?_⟩⟩
  have S5':=(((S2.new h1).trans S3).trans S4).trans S5
  have ek:(kinds.map V.str).length=kinds.length:=zq ..
  clear S2 S3 S4 S5 B2 B3 B4 L3 h1
  refine⟨_,rfl,_,rfl,b,m,_,rfl,B5,by omega,m0,by omega,fun l as H6 S6 B6 nl lN hl pa al=>?_⟩
  have Rk6:=Rk.draw S6 nk
  refine⟨l,rfl,⟨_,SqL.of hl⟩,jH (K:=K) (a:=l) (xs:=as.map V.ref) (za7 K kinds b H6 n) ⟨[],rfl,rfl,(fun x h=>nomatch h),SameB.refl _ _,B6.mono (by omega)⟩ (fun j zs H7 ⟨_,_,_,_,s7,_⟩=>SqL.of (s7 _ _ hl nl)) ?_ ?_⟩
  ·rintro j x zs H7 hx ⟨qs,rq,ql,qa,S7,B7⟩
   rw[qr] at hx
   obtain⟨a,ha,rfl⟩:=jb.mp hx
   have hj:=(zW.mp ha).1
   have zl:zs.length=j:=by rw[rq.len,zq,ql]
   refine⟨rfl,⟨_,rfl,_,rfl,_,rfl,ks,_,rfl,.inl (SqL.of (Rk6.draw S7 nk).1),b,_,_,rfl,B7,by omega,by omega,by omega,fun q H8 c0 c1 B8 S8=>?_⟩⟩
   obtain⟨y,ey,my⟩:=zcb (ns:=kinds) c0 (by omega)
   obtain⟨px,py,hpp,b1,b2,b3,b4⟩:=(pa a (qU ha)).draw B6 (S7.trans S8)
   refine⟨ks,_,_,_,rfl,rfl,SqL.of (Rk6.draw (S7.trans S8) nk).1,ey,_,rfl,le2,fun T hT=>⟨by omega,qs++[⟨y,px,py⟩],?_,by rw[zV,ql];rfl,fun q hq=>?_,(S7.trans S8).new hT,(B8.new hT).mono (by omega)⟩⟩
   ·rw[zX]
    have rT:Rep K (upd H8 T (.tup [.str y,.ref a])) (j7 ⟨y,px,py⟩) (.ref T):=⟨T,_,rfl,SqT.of zb,_,_,rfl,rfl,_,_,rfl,⟨a,_,rfl,SqT.of ((zd hT) _ _ hpp),_,_,rfl,rfl,_,_,rfl,rfl,rfl⟩,rfl⟩
    exact Reps.snoc rT (Reps.keep ((SameT.draw B7 S8).trans (.of (zd hT))) (xu qs) rq)
   ·rcases qT.mp hq with w1 | w1
    ·exact qa q w1
    ·rw[qo.mp w1];exact⟨my,b1,b2,b3,b4⟩
  rintro zs H7 ⟨qs,rq,ql,qa,S7,B7⟩
  rw[zq] at ql
  have B7:BoxAt H7 b (n+800):=B7.mono (by rw[zq];omega)
  have zl:zs.length=as.length:=by rw[rq.len,zq,ql]
  refine⟨by omega,fun D hD=>⟨D,zs,rfl,.inl ⟨SqL.of zb,fun ps hps=>?_⟩⟩⟩
  have sm:=(zd (o:=.lst zs) hD).trans (zd (o:=.tup zs) hps)
  have S8:=(S5'.trans S6).trans (S7.trans (SameB.of (b:=b) sm))
  have B8:=B7.same sm
  have Rk8:=(Rk6.draw S7 nk).same sm
  have P8:Rep K (upd (upd H7 D (.lst zs)) ps (.tup zs)) (.tup (qs.map j7)) (.ref ps):=⟨ps,_,rfl,SqT.of zb,Reps.keep (.of sm) (xu qs) rq⟩
  generalize upd (upd H7 D (.lst zs)) ps (.tup zs)=H8 at sm S8 B8 Rk8 P8
  clear S5' S6 S7 B5 B6 B7 Rk Rk6 rq hD hps pa hl
  refine⟨_,rfl,_,rfl,_,rfl,_,rfl,b,ks,ps,pl,_,kinds,qs,rfl,B8,by omega,nk,Rk8,by omega,by omega,P8,by omega,fun fp fs es H9 S9 B9 F9 fperm ee fl fa=>?_⟩
  have P9:=Rep.keep (d:=.tup (qs.map j7)) (SameT.draw B8 S9) (xu qs) P8
  refine⟨_,rfl,le0,fun t ht=>⟨b,t,_,[],rfl,B9.new ht,by omega,B9.nne ht,zb,qe _,(fun a h=>nomatch h),fun gp H10 S10 B10 gN ga=>?_⟩⟩
  obtain⟨gx,gy,hgp,g1,g2,g3,g4⟩:=ga
  refine⟨_,rfl,b,4,_,rfl,B10,by omega,by decide,by decide,fun hd H11 d0 d1 B11 S11=>⟨_,_,rfl,rfl,_,rfl,_,rfl,_,rfl,_,rfl,b,m,_,rfl,B11,by omega,m0,by omega,fun ap aas ord H12 S12 B12 A12 op bo al2=>⟨leN (by show 5<=1000;decide),fun p hp=>?_⟩⟩⟩
  have t9:SameT H9 H12:=((SameT.of (zd ht)).trans (.draw (B9.new ht) S10)).trans ((SameT.draw B10 S11).trans (.draw B11 S12))
  have t10:SameT H10 H12:=(SameT.draw B10 S11).trans (.draw B11 S12)
  have up:Same H12 (upd H12 p (.tup [.ref gp,.int (1+hd),.ref fp,.ref ps,.ref ap])):=zd hp
  have F12:=Rep.keep (d:=.tup (fs.map xS)) (t9.trans (.of up)) (x6 fs) F9
  have P12:=Rep.keep (d:=.tup (qs.map j7)) (t9.trans (.of up)) (xu qs) P9
  have A13:=Rep.keep (d:=y4 aas) (.of up) (qS aas) A12
  have G12:=(t10.trans (.of up)) gp _ hgp (fun xs h=>nomatch h) (fun xs h=>nomatch h)
  have qlm:qs.length=m.toNat:=by omega
  have fk:∀kd∈kinds,∃f∈fs,f.k=kd:=fun kd hkd=>by
   have:=fperm.mem_iff.mpr (vw es hkd)
   obtain⟨f,hf,e⟩:=qB.mp this
   exact⟨f,hf,e⟩
  refine k p ⟨gx,gy,1+hd,fs,qs,aas⟩ ord _ (((S8.trans S9).trans ((SameB.of (zd ht)).trans S10)).trans ((S11.trans S12).new hp)) ((B12.new hp).mono (by omega)) ?_ ?_
  ·exact⟨p,_,rfl,SqT.of zb,_,_,rfl,⟨gp,_,rfl,SqT.of G12,_,_,rfl,rfl,_,_,rfl,rfl,rfl⟩,_,_,rfl,rfl,_,_,rfl,F12,_,_,rfl,P12,_,_,rfl,A13,rfl⟩
  ·refine⟨⟨g1,g2,g3,g4⟩,by show 1<=1+hd;omega,by show 1+hd<=4;omega,fl,fa,by show qs.length<=60;omega,fun q hq=>?_,by show ord.Perm (List.range qs.length);rw[qlm];exact op,bo,al2,?_⟩
   ·obtain⟨hk,hi⟩:=qa q hq
    exact⟨Rk8.2 q.k hk,hi,fk q.k hk⟩
   ·have:=fperm.length_eq
    rw[zq,zV] at this
    show 1<=fs.length
    omega
theorem qg{α:Type}{l:List α}{i:Nat}{x:α}(h:l[i]? =some x):l.take (i+1)=l.take i++[x]:=by
 obtain⟨h1,h2⟩:=zW.mp h
 rw[<- h2,yb]
def zw(os:List Nat):List V:=os.map fun i:Nat=>V.int (i:Int)
theorem zM(os:List Nat):(zw os).length=os.length:=zq ..
theorem Qv(os:List Nat):zw os=(os.map fun i:Nat=>(i:Int)).map V.int:=by unfold zw;rw[vO];rfl
theorem wM:∀os:List Nat,(zw os).all xg=true
 | []=>rfl
 | o::os=>by
  show(true&&(zw os).all xg)=true
  rw[wM os];rfl
theorem XE(k:Nat):∀os:List Nat,inV (.int (k:Int)) (zw os)=decide (k∈os)
 | []=>rfl
 | o::os=>by
  show((o:Int)==(k:Int)||inV (.int (k:Int)) (zw os))=_
  rw[XE k os]
  by_cases h:o=k
  ·subst h;simp
  ·have e:((o:Int)==(k:Int))=false:=by simp;omega
   rw[e,XV,decide_eq_decide]
   exact⟨fun z=>jv _ z,fun z=>(zZ.mp z).resolve_left fun y=>h y.symm⟩
theorem JU(k:Nat):∀os:List Nat,((os.map fun i:Nat=>(i:Int)).erase (k:Int))=(os.erase k).map fun i:Nat=>(i:Int)
 | []=>rfl
 | o::os=>by
  rw[xx,List.erase_cons,List.erase_cons]
  by_cases h:(o==k)=true
  ·have e:((o:Int)==(k:Int))=true:=by
    have:=eq_of_beq h
    simp[this]
   rw[zH h,zH e]
  ·have e:¬((o:Int)==(k:Int))=true:=fun z=>h (by
    have:=eq_of_beq z
    have:o=k:=by omega
    simp[this])
   rw[zx h,zx e,xx,JU k os]
theorem VX{os:List Nat}{i:Nat}{x:V}(h:(zw os)[i]? =some x):∃k,os[i]? =some k/\x=.int (k:Int):=by
 unfold zw at h
 rw[qr] at h
 obtain⟨k,hk,rfl⟩:=jb.mp h
 exact⟨k,hk,rfl⟩
def Early(os:List Nat)(as:List (Nat×Nat)):Prop:=∀p∈as,∀l:Nat,os[l]? =some p.2->∃k:Nat,k<l/\os[k]? =some p.1
theorem Early.snoc{os:List Nat}{as:List (Nat×Nat)}{k:Nat}(h:Early os as)(hk:∀p∈as,p.2=k->p.1∈os):Early (os++[k]) as:=by
 intro p hp l hl
 by_cases hlt:l<os.length
 ·rw[wz hlt] at hl
  obtain⟨j,h1,h2⟩:=h p hp l hl
  exact⟨j,h1,by rw[wz (by omega)];exact h2⟩
 ·have hle:l=os.length:=by
   have:=(zW.mp hl).1
   rw[zV] at this
   simp at this
   omega
  subst hle
  rw[wA (zJ _),Nat.sub_self] at hl
  have e:k=p.2:=by simpa using hl
  obtain⟨j,hj,ej⟩:=Q9.mp (hk p hp e.symm)
  exact⟨j,hj,by rw[wz hj,<- ej];simp[hj]⟩
theorem ByOrd.mem1{ord:List Nat}{as:List (Nat×Nat)}(h:ByOrd ord as){p:Nat×Nat}(hp:p∈as):p.1∈ord:=by
 obtain⟨k,l,_,e,_⟩:=h p hp
 exact qU e
theorem ByOrd.mem2{ord:List Nat}{as:List (Nat×Nat)}(h:ByOrd ord as){p:Nat×Nat}(hp:p∈as):p.2∈ord:=by
 obtain⟨k,l,_,_,e⟩:=h p hp
 exact qU e
theorem Early.ord{os ord:List Nat}{as:List (Nat×Nat)}(h:Early os as)(b:ByOrd ord as)(hp:os.Perm ord):ByOrd os as:=by
 intro p hq
 obtain⟨l,hl,el⟩:=Q9.mp (hp.mem_iff.mpr (b.mem2 hq))
 have e:os[l]? =some p.2:=by rw[<- el];simp[hl]
 obtain⟨k,h1,h2⟩:=h p hq l e
 exact⟨k,l,h1,h2,e⟩
def qY(left:List Nat)(as:List (Nat×Nat)):List Nat:=(as.filter fun p=>decide (p.1∈left)).map fun p=>p.2
def jS(left:List Nat)(as:List (Nat×Nat)):List Nat:=left.filter fun k=>!decide (k∈qY left as)
theorem V2{left:List Nat}{as:List (Nat×Nat)}{c:Nat}:c∈qY left as↔∃p∈as,p.1∈left/\p.2=c:=by
 unfold qY
 rw[qB]
 constructor
 ·rintro⟨p,hp,rfl⟩
  obtain⟨h1,h2⟩:=jn.mp hp
  exact⟨p,h1,qZ h2,rfl⟩
 ·rintro⟨p,h1,h2,rfl⟩
  exact⟨p,jn.mpr ⟨h1,qQ h2⟩,rfl⟩
theorem zbN{left ord:List Nat}{as:List (Nat×Nat)}(b:ByOrd ord as)(nd:ord.Nodup)(hs:∀k∈left,k∈ord)(hne:left≠[]):jS left as≠[]:=by
 have key:∀(n:Nat) (k:Nat),k∈left->(∃i,i<n/\ord[i]? =some k)->∃c∈left,c∉qY left as:=by
  intro n
  induction n with
  | zero=>rintro k _ ⟨i,hi,_⟩;omega
  | succ n ih=>
   rintro k hk ⟨i,hi,ei⟩
   by_cases hl:k∈qY left as
   ·obtain⟨p,hp,h1,rfl⟩:=V2.mp hl
    obtain⟨x,y,hxy,ex,ey⟩:=b p hp
    have e:y=i:=by
     have h1:=(zW.mp ei).1
     have h2:=(zW.mp ey).1
     have h3:ord[y]=ord[i]:=by
      rw[ji h1] at ei
      rw[ji h2] at ey
      exact(jT ey).trans (jT ei).symm
     exact(Q3 nd).mp h3
    exact ih p.1 h1 ⟨x,by omega,ex⟩
   ·exact⟨k,hk,hl⟩
 obtain⟨k,hk⟩:∃k,k∈left:=by
  cases left with
  | nil=>exact absurd rfl hne
  | cons a r=>exact⟨a,by simp⟩
 obtain⟨i,hi,ei⟩:=Q9.mp (hs k hk)
 obtain⟨c,hc,hn⟩:=key (i+1) k hk ⟨i,by omega,by rw[<- ei];simp[hi]⟩
 intro z
 have:c∈jS left as:=jn.mpr ⟨hc,by simp[hn]⟩
 rw[z] at this
 cases this
theorem V7{H:Hp}{J:Job}{jp:Addr}(h:Rep K H (xo J) (.ref jp)):∃g fs ps as:Addr,SqT K H jp [.ref g,.int J.hd,.ref fs,.ref ps,.ref as]/\Rep K H (.tup [.int J.gx,.int J.gy]) (.ref g)/\Rep K H (.tup (J.fs.map xS)) (.ref fs)/\Rep K H (.tup (J.ps.map j7)) (.ref ps)/\Rep K H (y4 J.as) (.ref as):=by
 obtain⟨a,xs,e,q,x0,r0,e0,h0,x1,r1,e1,h1,x2,r2,e2,h2,x3,r3,e3,h3,x4,r4,e4,h4,e5⟩:=h
 cases e
 subst e0 e1 e2 e3 e4
 have e5':r4=[]:=e5
 subst e5'
 have h1':x1=.int J.hd:=h1
 subst h1'
 obtain⟨g,gx,rfl,gq⟩:=h0
 obtain⟨fs,fx,rfl,fq⟩:=h2
 obtain⟨ps,px,rfl,pq⟩:=h3
 obtain⟨as,ax,rfl,aq⟩:=h4
 exact⟨g,fs,ps,as,q,⟨g,gx,rfl,gq⟩,⟨fs,fx,rfl,fq⟩,⟨ps,px,rfl,pq⟩,⟨as,ax,rfl,aq⟩⟩
theorem yD{H:Hp}{ds:List Dat}{a:Addr}(h:Rep K H (.tup ds) (.ref a)):∃xs,SqT K H a xs/\Reps K H ds xs:=by
 obtain⟨a',xs,e,q,r⟩:=h
 cases e
 exact⟨xs,q,r⟩
inductive JA(K:PySem.W.Frag)(vs:List V)(H:Hp)(Q:VK):Prop
 | mk (b jp:Addr) (J:Job) (ord:List Nat) (n:Int) (_:vs=[.ref b,.ref jp]) (_:BoxAt H b n) (_:n<600000) (_:Rep K H (xo J) (.ref jp)) (_:JobOk J ord) (_:∀(l:Addr) (os:List Nat) H',SameB b H H'->BoxAt H' b (n+60)->l≠b->H l=none->H' l=some (.lst (zw os))->os.Perm (List.range J.ps.length)->ByOrd os J.as->Q (.ref l) H'):JA K vs H Q
def YY(K:PySem.W.Frag):Sp:=fun vs H Q _=>JA K vs H Q
inductive zh0(b jp l0 l1:Addr)(H:Hp)(n:Int)(J:Job)(m:Nat)(σ:St)(H4:Hp):Prop
 | mk (left os:List Nat) (v4 v5:Option V) (_:σ=[some (.ref b),some (.ref jp),some (.ref l0),some (.ref l1),v4,v5]) (_:m=left.length) (_:SameB b H H4) (_:BoxAt H4 b (n+os.length)) (_:H4 l0=some (.lst (zw left))) (_:H4 l1=some (.lst (zw os))) (_:(left++os).Perm (List.range J.ps.length)) (_:Early os J.as):zh0 b jp l0 l1 H n J m σ H4
inductive zh1(b jp l0 l1:Addr)(H:Hp)(n:Int)(J:Job)(left:List Nat)(σ:St)(H4:Hp):Prop
 | mk (left' os:List Nat) (v4 v5:Option V) (_:left'.length<left.length) (_:σ=[some (.ref b),some (.ref jp),some (.ref l0),some (.ref l1),v4,v5]) (_:SameB b H H4) (_:BoxAt H4 b (n+os.length)) (_:H4 l0=some (.lst (zw left'))) (_:H4 l1=some (.lst (zw os))) (_:(left'++os).Perm (List.range J.ps.length)) (_:Early os J.as):zh1 b jp l0 l1 H n J left σ H4
theorem zak:zF ["_law_box_here", "_law_job_here", "_law_left", "_law_found", "_law_late", "_law_free"] ["_law_box_here", "_law_job_here"] (zt (topL 41)):=⟨rfl,rfl,rfl,by decide +kernel,rfl,by decide +kernel,by decide +kernel⟩
theorem zc6{f:Addr}{fd:FuncData}(F:Fun K "_law_order" "_law_order" (topL 41) f fd)(B:Blt mg)(D_take:Dfn P w K mg base "_law_take" 1 ["_law_box_here", "_law_size"] jW):qH P w K mg base CX0 2 f fd ["_law_box_here", "_law_job_here"] (YY K):=by
 have nd:=zak.nd
 refine F.ok zak (fun vs H Q E h=>?_) (fun cdv A outer s H vs Q E hr h=>?_)
 ·obtain⟨b,jp,J,ord,n,rfl,_⟩:=h
  rfl
 ·obtain⟨b,jp,J,ord,n,rfl,B0,hn,rj,jo,k⟩:=h
  have hu:=hr.units0
  have hbig:100000<sizeLine:=by rw[sizeLine_eq];decide
  have pl:=jo.pl
  have al:=jo.al
  obtain⟨g,fs,ps,as,qj,_,_,rp,ra⟩:=V7 rj
  obtain⟨pv',qp,rp'⟩:=yD rp
  obtain⟨av,qa,ra'⟩:=yD ra
  have lp:=rp'.len
  rw[zq] at lp
  have la:=ra'.len
  rw[zq] at la
  refine⟨_,(zg (xj (zY (za (yG rfl rfl B.list rfl B.range qG (za (zp zL rfl B.len boot_len (za (zu qc (pv 1) zf (fun _ _=>rfl)) ze)) ze)) (za (zN ze) ze))) (xm rfl (zT (zy (i:=2) nd rfl (Or.inr rfl)) (zT (zy (i:=3) nd rfl (Or.inl rfl)) jN))))
   (zg (VP ju (zO (Qs hu) (pv 2) (zN ze) (zQ _))
   (zg (zC (i:=4) nd rfl (Or.inr rfl) (vA ["_law_left"] [2] rfl rfl (by kernel_rfl) (vz (zu qc (pv 1) zf (fun _ _=>rfl))) (fun _ _ _ _=>(xX (zO (xn (K:=K) rfl) (pv 0) (pv 2) (by with_unfolding_all rfl)))) (fun _ _ _ _=>(pv 1))))
    (zg (Zg ["_law_late"] [4] rfl rfl (by kernel_rfl) (qJ (pv 2)) (fun _ _ _ _=>(xX (zO (Jk (K:=K) rfl) (pv 0) (pv 1) (by with_unfolding_all rfl)))) (fun _ _ _ _=>(pv 0)) (zy (i:=5) nd rfl (Or.inl rfl)))
    (zg (z7 (jm jh jV jU z9 (pv 3) (za (zu zS (pv 5) (zk D_take (hr.mono (by decide)) rfl (za (pv 0) (za (zp zL rfl B.len boot_len (za (pv 5) ze)) ze))) (fun _ _=>rfl)) ze)))
    (zo (z7 (jm jh PySem.F.slot_list_remove PySem.F.type_list_remove WS (pv 2) (za (zu zS (pv 3) (zcT Wt zf) (fun _ _=>rfl)) ze))))))))
   (zo (zE (pv 3))))),?_⟩
  refine⟨_,rfl,jp,_,_,_,rfl,rfl,qj,rfl,ps,_,rfl,.inr qp,_,rfl,by omega,by omega,fun l0 h0=>⟨le0,fun l1 h1=>⟨le2,fun t ht=>?_⟩⟩⟩
  have eN:((List.range ((pv'.length:Int)).toNat).map fun i:Nat=>V.int (i:Int))=zw (List.range J.ps.length):=by
   unfold zw
   rw[show((pv'.length:Int)).toNat=J.ps.length by omega]
  have n0:=B0.nne h0
  have S0:=(SameB.refl b H).new (o:=.lst ((List.range ((pv'.length:Int)).toNat).map fun i:Nat=>V.int (i:Int))) h0
  have B1:=B0.new (o:=.lst ((List.range ((pv'.length:Int)).toNat).map fun i:Nat=>V.int (i:Int))) h0
  have L0:upd H l0 (.lst ((List.range ((pv'.length:Int)).toNat).map fun i:Nat=>V.int (i:Int))) l0=some (.lst (zw (List.range J.ps.length))):=by rw[zb,eN]
  generalize upd H l0 (.lst ((List.range ((pv'.length:Int)).toNat).map fun i:Nat=>V.int (i:Int)))=H1 at S0 B1 L0 h1 ht
  have n1:=B1.nne h1
  have N1:=S0.none h1 n1
  have n01:l0≠l1:=zn L0 h1
  have S1:=S0.new (o:=.lst []) h1
  have B2:=B1.new (o:=.lst []) h1
  have L02:=(zd (o:=.lst []) h1) _ _ L0
  have L1:upd H1 l1 (.lst []) l1=some (.lst []):=zb
  generalize upd H1 l1 (.lst [])=H2 at S1 B2 L02 L1 ht
  have S2:=S1.new (o:=.tup [.ref l0,.ref l1]) ht
  have B3:=B2.new (o:=.tup [.ref l0,.ref l1]) ht
  have L03:=(zd (o:=.tup [.ref l0,.ref l1]) ht) _ _ L02
  have L13:=(zd (o:=.tup [.ref l0,.ref l1]) ht) _ _ L1
  have T3:upd H2 t (.tup [.ref l0,.ref l1]) t=some (.tup [.ref l0,.ref l1]):=zb
  generalize upd H2 t (.tup [.ref l0,.ref l1])=H3 at S2 B3 L03 L13 T3
  refine⟨t,_,rfl,SqT.of T3,rfl,_,_,rfl,_,_,rfl,rfl,?_⟩
  clear S0 S1 B1 B2 L0 L02 L1 ht h1 T3
  refine⟨zh0 b jp l0 l1 H n J,
   ⟨_,List.range J.ps.length,[],none,none,rfl,rfl,S2,B3.mono (by simp),L03,L13,by rw[qK],fun p _ l hl=>by simp at hl⟩,?_⟩
  clear S2 B3 L03 L13
  rintro m σ H4 ⟨left,os,v4,v5,rfl,rfl,S4,B4,LL,LO,pm,ea⟩
  have plen:=pm.length_eq
  rw[zV,vQ] at plen
  refine⟨_,rfl,le0,fun q hq=>⟨l0,q,_,rfl,rfl,SqL.of ((zd hq) _ _ LL),SqL.of zb,_,rfl,?_⟩⟩
  have S5:=S4.new (o:=.lst []) hq
  have B5:=B4.new (o:=.lst []) hq
  have LL5:=(zd (o:=.lst []) hq) _ _ LL
  have LO5:=(zd (o:=.lst []) hq) _ _ LO
  generalize upd H4 q (.lst [])=H5 at S5 B5 LL5 LO5
  clear S4 B4 LL LO hq
  cases left with
  | nil=>
   refine ifF rfl ⟨_,rfl,k l1 os H5 S5 (B5.mono (by simp at plen;omega)) n1 N1 LO5 (by simpa using pm) (ea.ord jo.bo ?_)⟩
   have:os.Perm (List.range J.ps.length):=by simpa using pm
   exact this.trans jo.op.symm
  | cons c rest=>
   refine ifT rfl ?_
   have hne:c::rest≠[]:=fun z=>by cases z
   generalize c::rest=left at *
   clear c rest
   refine⟨zh1 b jp l0 l1 H n J left,
    fun σ' H' ⟨left',os',v4,v5,hlt,e,a1,a2,a3,a4,a5,a6⟩=>⟨_,hlt,left',os',v4,v5,e,rfl,a1,a2,a3,a4,a5,a6⟩,?_⟩
   have T5:=SameT.trans (SameT.draw B0 S5) (SameT.refl H5)
   have qj5:=qj.keep T5
   have qa5:=qa.keep T5
   have ra5:=ra'.keep T5 (qS J.as)
   refine⟨_,rfl,jp,_,_,_,rfl,rfl,qj5,rfl,as,rfl,⟨_,qa5⟩,wq (K:=K) (a:=as) (xs:=av) (fun i zs H6=>zs=zw (qY left (J.as.take i))/\Same H5 H6) ⟨rfl,Same.refl _⟩ (fun i zs H6 ⟨_,sm⟩=>sm.sqT qa5) ?_ ?_⟩
   ·rintro i x zs H6 hx ⟨rfl,sm⟩
    obtain⟨d,e1,r1⟩:=(ra5.same sm).get hx
    rw[qr] at e1
    obtain⟨p,ep,rfl⟩:=jb.mp e1
    obtain⟨pa,xs,rfl,qp',y0,r0,f0,g0,y1,r1',f1,g1,f2⟩:=r1
    subst f0 f1
    cases(show r1'=[] from f2)
    cases(show y0=_ from g0)
    cases(show y1=_ from g1)
    have hi:i<J.as.length:=(zW.mp ep).1
    refine⟨pa,_,rfl,qp',rfl,_,_,rfl,_,_,rfl,rfl,rfl,?_⟩
    refine⟨_,rfl,_,rfl,l0,zw left,rfl,.inl (SqL.of (sm _ _ LL5)),rfl,wM left,_,rfl,?_⟩
    have et:J.as.take (i+1)=J.as.take i++[p]:=qg ep
    have ein:(if false=true then !inV (.int (p.1:Int)) (zw left) else inV (.int (p.1:Int)) (zw left))=decide (p.1∈left):=XE p.1 left
    rw[ein]
    refine jA (fun c=>⟨_,rfl,?_,?_,sm⟩) (fun c=>⟨?_,sm⟩)
    ·have:(qY left (J.as.take i)).length<=J.as.length:=by
      unfold qY
      rw[zq]
      refine ja (jR _ _) ?_
      rw[qR];omega
     rw[zM];omega
    ·rw[et]
     unfold qY
     rw[vg,zX,QV (by exact c)]
     unfold zw
     rw[zX]
     rfl
    ·rw[et]
     unfold qY
     rw[vg,ZN (by exact c),Zu,qK]
   rintro zs H6 ⟨rfl,sm⟩
   have eall:J.as.take av.length=J.as:=by rw[la,qX]
   rw[eall]
   have latel:(qY left J.as).length<=300:=by
    unfold qY
    rw[zq]
    exact ja (jR _ _) al
   refine⟨by rw[zM];omega,fun la' hla=>?_⟩
   have S6:=(S5.trans (SameB.of sm)).new (o:=.lst (zw (qY left J.as))) hla
   have B6:=(B5.same sm).new (o:=.lst (zw (qY left J.as))) hla
   have LL6:=(zd (o:=.lst (zw (qY left J.as))) hla) _ _ (sm _ _ LL5)
   have LO6:=(zd (o:=.lst (zw (qY left J.as))) hla) _ _ (sm _ _ LO5)
   have LA6:upd H6 la' (.lst (zw (qY left J.as))) la'=some (.lst (zw (qY left J.as))):=zb
   generalize upd H6 la' (.lst (zw (qY left J.as)))=H7 at S6 B6 LL6 LO6 LA6
   clear S5 B5 LL5 LO5 sm hla T5 qj5 qa5 ra5
   refine⟨_,rfl,l0,rfl,⟨_,SqL.of LL6⟩,jH (K:=K) (a:=l0) (xs:=zw left) (fun i zs H8=>zs=zw ((left.take i).filter fun k=>!decide (k∈qY left J.as))/\Same H7 H8) ⟨rfl,Same.refl _⟩ (fun i zs H8 ⟨_,sm⟩=>SqL.of (sm _ _ LL6)) ?_ ?_⟩
   ·rintro i x zs H8 hx ⟨rfl,sm⟩
    obtain⟨c,ec,rfl⟩:=VX hx
    have hi:i<left.length:=(zW.mp ec).1
    refine⟨rfl,?_⟩
    refine⟨_,rfl,_,rfl,la',zw (qY left J.as),rfl,.inl (SqL.of (sm _ _ LA6)),rfl,wM _,_,rfl,?_⟩
    have ein:(if true=true then !inV (.int (c:Int)) (zw (qY left J.as)) else inV (.int (c:Int)) (zw (qY left J.as)))=!decide (c∈qY left J.as):=by rw[XE];rfl
    rw[ein,qg ec]
    refine jA (fun d=>⟨_,rfl,?_,?_,sm⟩) (fun d=>⟨?_,sm⟩)
    ·have:=jR (fun k=>!decide (k∈qY left J.as)) (left.take i)
     rw[qR] at this
     rw[zM];omega
    ·rw[vg,QV (by exact d)]
     unfold zw
     rw[zX]
     rfl
    ·rw[vg,ZN (by exact d),Zu,qK]
   rintro zs H8 ⟨rfl,sm⟩
   have etk:left.take (zw left).length=left:=by rw[zM,qX]
   rw[etk]
   have fre:(left.filter fun k=>!decide (k∈qY left J.as))=jS left J.as:=rfl
   rw[fre]
   have frl:(jS left J.as).length<=left.length:=jR _ _
   refine⟨by rw[zM];omega,fun lf hlf=>?_⟩
   have S7:=(S6.trans (SameB.of sm)).new (o:=.lst (zw (jS left J.as))) hlf
   have B7:=(B6.same sm).new (o:=.lst (zw (jS left J.as))) hlf
   have LL7:=(zd (o:=.lst (zw (jS left J.as))) hlf) _ _ (sm _ _ LL6)
   have LO7:=(zd (o:=.lst (zw (jS left J.as))) hlf) _ _ (sm _ _ LO6)
   have LF7:upd H8 lf (.lst (zw (jS left J.as))) lf=some (.lst (zw (jS left J.as))):=zb
   have nlf:=(B6.same sm).nne hlf
   generalize upd H8 lf (.lst (zw (jS left J.as)))=H9 at S7 B7 LL7 LO7 LF7
   clear S6 B6 LL6 LO6 LA6 sm hlf
   have inr:∀x∈left,x∈ord:=fun x hx=>by
    have h1:=pm.mem_iff.mp (vw os hx)
    exact jo.op.mem_iff.mpr h1
   have ordnd:ord.Nodup:=jo.op.nodup_iff.mpr Yh
   have fne:=zbN jo.bo ordnd inr hne
   have fpos:0<(jS left J.as).length:=X8.mpr fne
   refine⟨_,rfl,.inl ⟨rfl,_,SqL.of LO7⟩,_,rfl,_,rfl,_,rfl,lf,_,rfl,.inl (SqL.of LF7),b,_,_,rfl,B7,by omega,by rw[zM];omega,by rw[zM];omega,fun r Ha r0 r1 Ba Sa=>?_⟩
   rw[zM] at r1
   have hr':r.toNat<(jS left J.as).length:=by omega
   have er:(zw (jS left J.as))[r.toNat]? =some (.int (((jS left J.as)[r.toNat]:Nat):Int)):=by
    unfold zw
    rw[qr,ji hr']
    rfl
   have er':atI (zw (jS left J.as)) r=some (.int (((jS left J.as)[r.toNat]:Nat):Int)):=by
    have:=qk er
    rwa[show((r.toNat:Nat):Int)=r by omega] at this
   have hcm:=yV hr'
   generalize (jS left J.as)[r.toNat]=c at er er' hcm
   obtain⟨cl,cn⟩:=jn.mp hcm
   have cn':c∉qY left J.as:=by simpa using cn
   have LFa:=Sa _ _ LF7 nlf
   have LOa:=Sa _ _ LO7 n1
   have LLa:=Sa _ _ LL7 n0
   refine⟨lf,_,_,_,rfl,rfl,SqL.of LFa,er',l1,_,_,rfl,rfl,LOa,by rw[zM];omega,?_⟩
   have eO:zw os++[V.int (c:Int)]=zw (os++[c]):=by unfold zw;rw[zX];rfl
   rw[eO]
   have Sb:=(S7.trans Sa).put (o:=.lst (zw (os++[c]))) N1
   have Bb:=Ba.other (o:=.lst (zw (os++[c]))) n1
   have LOb:upd Ha l1 (.lst (zw (os++[c]))) l1=some (.lst (zw (os++[c]))):=zb
   have LLb:upd Ha l1 (.lst (zw (os++[c]))) l0=some (.lst (zw left)):=by rw[zi n01];exact LLa
   generalize upd Ha l1 (.lst (zw (os++[c])))=Hb at Sb Bb LOb LLb
   have elast:atI (zw (os++[c])) (-1)=some (.int (c:Int)):=by
    have:zw (os++[c])=zw os++[V.int (c:Int)]:=eO.symm
    rw[this]
    exact zdK _ _
   refine⟨_,rfl,.inl ⟨rfl,_,SqL.of LLb⟩,_,rfl,_,rfl,l1,_,_,_,rfl,rfl,SqL.of LOb,elast,l0,left.map fun i:Nat=>(i:Int),(c:Int),rfl,rfl,by rw[LLb,Qv],qB.mpr ⟨c,cl,rfl⟩,?_⟩
   have eE:((left.map fun i:Nat=>(i:Int)).erase (c:Int)).map V.int=zw (left.erase c):=by rw[JU,Qv]
   rw[eE]
   have N0:H l0=none:=h0
   have hlen:(left.erase c).length+1=left.length:=by
    have:=Yy cl
    have:=Yu cl
    omega
   refine⟨left.erase c,os++[c],_,_,by omega,rfl,Sb.put N0,(Bb.other n0).mono (by rw[zV];simp;omega),zb,by rw[zi n01.symm];exact LOb,?_,?_⟩
   ·have h1:(left++os).Perm (c::(left.erase c)++os):=(List.perm_cons_erase cl).append_right os
    have h2:(left.erase c++(os++[c])).Perm (c::left.erase c++os):=by
     rw[<- jC]
     exact List.perm_append_comm
    exact(h2.trans h1.symm).trans pm
   ·refine ea.snoc fun p hp e=>?_
    have h1:p.1∈left++os:=pm.mem_iff.mpr (jo.op.mem_iff.mp (jo.bo.mem1 hp))
    rcases qT.mp h1 with z | z
    ·exact absurd (V2.mpr ⟨p,hp,z,e⟩) cn'
    ·exact z
structure jr where
 pk:List (Nat×Nat)
 ly:List Nat
def Jl(k:Nat):Dat:=.int (k:Int)
def xt(t:jr):Dat:=.tup [.tup (t.pk.map jP),.tup (t.ly.map Jl)]
theorem VW:∀(l:List Nat),Dat.imms (l.map Jl)=true
 | []=>rfl
 | k::l=>by
  show(true&&Dat.imms (l.map Jl))=true
  rw[VW l];rfl
theorem Jt(t:jr):(xt t).imm=true:=by
 show(Dat.imms (t.pk.map jP)&&(Dat.imms (t.ly.map Jl)&&true))=true
 rw[qS,VW];rfl
theorem j4:∀(l:List jr),Dat.imms (l.map xt)=true
 | []=>rfl
 | t::l=>by
  show((xt t).imm&&Dat.imms (l.map xt))=true
  rw[Jt,j4 l];rfl
theorem Reps.perm{H:Hp}{α:Type}{f:α->Dat}{ys xs:List V}(h:ys.Perm xs):∀{as:List α},Reps K H (as.map f) xs->∃bs:List α,bs.Perm as/\Reps K H (bs.map f) ys:=by
 induction h with
 | nil=>intro as h;exact⟨as,List.Perm.refl _,h⟩
 | cons x hp ih=>
  intro as h
  cases as with
  | nil=>cases(show _=[] from h)
  | cons a as=>
   obtain⟨y,r,e,h1,h2⟩:=h
   cases e
   obtain⟨bs,p,q⟩:=ih h2
   exact⟨a::bs,p.cons a,⟨_,_,rfl,h1,q⟩⟩
 | swap x y l=>
  intro as h
  cases as with
  | nil=>cases(show _=[] from h)
  | cons a as=>
   obtain⟨u,r,e,h1,h2⟩:=h
   cases e
   cases as with
   | nil=>cases(show _=[] from h2)
   | cons c as=>
    obtain⟨u,r,e,h3,h4⟩:=h2
    cases e
    exact⟨c::a::as,List.Perm.swap a c as,⟨_,_,rfl,h3,_,_,rfl,h1,h4⟩⟩
 | trans h1 h2 ih1 ih2=>
  intro as h
  obtain⟨bs,p,q⟩:=ih2 h
  obtain⟨cs,p',q'⟩:=ih1 q
  exact⟨cs,p'.trans p,q'⟩
theorem JK{H:Hp}:∀(l:List Nat),Reps K H (l.map Jl) (zw l)
 | []=>rfl
 | k::l=>⟨_,_,rfl,rfl,JK l⟩
theorem Zj{H:Hp}{p:Nat×Nat}{x:V}(h:Rep K H (jP p) x):∃a,x=.ref a/\SqT K H a [.int p.1,.int p.2]:=by
 obtain⟨pa,xs,rfl,qp',y0,r0,f0,g0,y1,r1',f1,g1,f2⟩:=h
 subst f0 f1
 cases(show r1'=[] from f2)
 cases(show y0=_ from g0)
 cases(show y1=_ from g1)
 exact⟨pa,rfl,qp'⟩
inductive Vp(K:PySem.W.Frag)(vs:List V)(H:Hp)(Q:VK):Prop
 | mk (b pk:Addr) (n:Int) (xs:List V) (ps:List (Nat×Nat)) (_:vs=[.ref b,.ref pk]) (_:BoxAt H b n) (_:n<900000) (_:pk≠b) (_:H pk=some (.lst xs)) (_:Reps K H (ps.map jP) xs) (_:ps.length<=1000) (_:∀(p:Addr) (sh:List (Nat×Nat)) H',SameB b H H'->BoxAt H' b (n+ps.length)->sh.Perm ps->Rep K H' (xt ⟨sh,ps.map (·.1)⟩) (.ref p)->Q (.ref p) H'):Vp K vs H Q
def zcd(K:PySem.W.Frag):Sp:=fun vs H Q _=>Vp K vs H Q
theorem zcs:zF ["_law_box_here", "_law_picks"] ["_law_box_here", "_law_picks"] (zt (topL 42)):=⟨rfl,rfl,rfl,by decide +kernel,rfl,by decide +kernel,by decide +kernel⟩
theorem zep{f:Addr}{fd:FuncData}(F:Fun K "_law_trip" "_law_trip" (topL 42) f fd)(B:Blt mg)(D_shuffled:Dfn P w K mg base "_law_shuffled" 2 ["_law_box_here", "_law_some"] (Xh K)):qH P w K mg base CX0 3 f fd ["_law_box_here", "_law_picks"] (zcd K):=by
 have nd:=zcs.nd
 refine F.ok zcs (fun vs H Q E h=>?_) (fun cdv A outer s H vs Q E hr h=>?_)
 ·obtain⟨b,pk,n,xs,ps,rfl,_⟩:=h
  rfl
 ·obtain⟨b,pk,n,xs,ps,rfl,B0,hn,npb,hp,rp,lp,k⟩:=h
  have hbig:100000<sizeLine:=by rw[sizeLine_eq];decide
  have lx:xs.length=ps.length:=by have:=rp.len;rwa[zq] at this
  refine⟨_,(zo (zE (zY (za (qA jg rfl B.tuple qP (za (zk D_shuffled (hr.mono (by decide)) rfl (za (pv 0) (za (pv 1) ze))) ze)) (za (qA jg rfl B.tuple qP (za (vA [] [] rfl rfl (by kernel_rfl) (qJ (pv 1)) (fun _ _ _ _=>jw) (fun _ _ _ _=>(pv 0))) ze)) ze))))),?_⟩
  refine⟨_,rfl,_,rfl,b,pk,n,xs,rfl,B0,by omega,npb,hp,by omega,fun l ys H1 S1 B1 nl hl hL pm=>?_⟩
  have T1:=SameT.draw B0 S1
  obtain⟨sh,shp,rsh⟩:=Reps.perm pm (rp.keep T1 (qS ps))
  have rp1:=rp.keep T1 (qS ps)
  refine⟨l,ys,rfl,.inl ⟨SqL.of hL,fun t1 ht1=>?_⟩⟩
  have s1:=zd (o:=.tup ys) ht1
  have hp2:=s1 _ _ (S1 _ _ hp npb)
  have rp2:=rp1.same s1
  have rsh2:=rsh.same s1
  have t12:upd H1 t1 (.tup ys) t1=some (.tup ys):=zb
  have S2:=S1.new (o:=.tup ys) ht1
  have B2:=B1.new (o:=.tup ys) ht1
  generalize upd H1 t1 (.tup ys)=H2 at s1 hp2 rp2 rsh2 t12 S2 B2
  refine⟨_,rfl,pk,rfl,⟨_,SqL.of hp2⟩,jH (K:=K) (a:=pk) (xs:=xs) (fun i zs H3=>zs=zw ((ps.map (·.1)).take i)/\Same H2 H3) ⟨rfl,Same.refl _⟩ (fun i zs H3 ⟨_,sm⟩=>SqL.of (sm _ _ hp2)) ?_ ?_⟩
  ·rintro i x zs H3 hx ⟨rfl,sm⟩
   obtain⟨d,e1,r1⟩:=(rp2.same sm).get hx
   rw[qr] at e1
   obtain⟨p,ep,rfl⟩:=jb.mp e1
   obtain⟨pa,rfl,qp⟩:=Zj r1
   have hi:i<ps.length:=(zW.mp ep).1
   refine⟨pa,_,rfl,qp,rfl,_,_,rfl,_,_,rfl,rfl,rfl,?_⟩
   refine⟨_,rfl,?_,?_,sm⟩
   ·rw[zM,qR,zq];omega
   ·have ep':(ps.map (·.1))[i]? =some p.1:=by rw[qr,ep];rfl
    rw[qg ep']
    unfold zw
    rw[zX]
    rfl
  rintro zs H3 ⟨rfl,sm⟩
  have etk:(ps.map (·.1)).take xs.length=ps.map (·.1):=by rw[lx,<- zq (f:=(·.1)),qX]
  rw[etk]
  refine⟨by rw[zM,zq];omega,fun l2 hl2=>⟨l2,_,rfl,.inl ⟨SqL.of zb,fun t2 ht2=>⟨le2,fun q hq=>?_⟩⟩⟩⟩
  have s2:=(sm.trans (zd (o:=.lst (zw (ps.map (·.1)))) hl2)).trans (zd (o:=.tup (zw (ps.map (·.1)))) ht2)
  have s3:=s2.trans (zd (o:=.tup [.ref t1,.ref t2]) hq)
  refine k q sh _ (S2.trans (SameB.of s3)) (B2.same s3 |>.mono (by omega)) shp ?_
  refine⟨q,_,rfl,SqT.of zb,_,_,rfl,⟨t1,ys,rfl,SqT.of (s3 _ _ t12),rsh2.same s3⟩,_,_,rfl,⟨t2,_,rfl,SqT.of ((zd hq) _ _ zb),JK _⟩,rfl⟩
def Jg(J:Job)(p:Nat×Nat):Prop:=∃pa fe,J.ps[p.1]? =some pa/\J.fs[p.2]? =some fe/\fe.k=pa.k
structure Vh(J:Job)(t:jr):Prop where
 p1:1<=t.pk.length
 p2:(t.pk.length:Int)<=J.hd
 ok:∀p∈t.pk,Jg J p
 ly:t.ly.Perm (t.pk.map (·.1))
def xB(ts:List jr):List Nat:=ts.flatMap (·.ly)
theorem ZC(ts:List jr)(t:jr):xB (ts++[t])=xB ts++t.ly:=by
 unfold xB
 rw[Yn]
 simp
def vo(ts:List jr):List (Nat×Nat):=ts.flatMap (·.pk)
theorem Qp(ts:List jr)(t:jr):vo (ts++[t])=vo ts++t.pk:=by
 unfold vo
 rw[Yn]
 simp
structure StL(J:Job)(st:List Int)(l:List (Nat×Nat)):Prop where
 len:st.length=J.fs.length
 nn:∀(f:Nat) (z:Int),st[f]? =some z->0<=z
 cnt:∀(f:Nat) (z:Int) (fe:xH),st[f]? =some z->J.fs[f]? =some fe->z=fe.m-((l.map (·.2)).count f:Int)
theorem StL.nil{J:Job}(h:∀f∈J.fs,0<=f.m):StL J (J.fs.map (·.m)) []:=by
 refine⟨zq ..,fun f z e=>?_,fun f z fe e ef=>?_⟩
 ·rw[qr] at e
  obtain⟨x,ex,rfl⟩:=jb.mp e
  exact h x (qU ex)
 ·rw[qr,ef] at e
  cases e
  show fe.m=fe.m-((0:Nat):Int)
  omega
theorem StL.perm{J:Job}{st:List Int}{l l':List (Nat×Nat)}(s:StL J st l)(p:l.Perm l'):StL J st l':=⟨s.len,s.nn,fun f z fe e ef=>by rw[<- (p.map (·.2)).count_eq];exact s.cnt f z fe e ef⟩
theorem StL.take{J:Job}{st:List Int}{l:List (Nat×Nat)}(s:StL J st l){c f:Nat}{z:Int}(e:st[f]? =some z)(h:0<z):StL J (st.set f (z-1)) (l++[(c,f)]):=by
 refine⟨by rw[Ye];exact s.len,fun g y eg=>?_,fun g y fe eg ef=>?_⟩
 ·rw[Yj] at eg
  split at eg
  ·split at eg
   ·cases eg;omega
   ·cases eg
  ·exact s.nn g y eg
 ·rw[zX,X4]
  show _=_-((_+[f].count g:Nat):Int)
  rw[Yj] at eg
  split at eg
  ·split at eg
   ·cases eg
    rename_i x _
    subst x
    have:=s.cnt f z fe e ef
    rw[Yz]
    omega
   ·cases eg
  ·rename_i x
   have:=s.cnt g y fe eg ef
   rw[zdS (a:=g) (l:=[f]) (fun z=>x (qo.mp z).symm)]
   omega
structure YC(J:Job)(os:List Nat)(ts:List jr):Prop where
 tr:∀t∈ts,Vh J t
 sub:(xB ts).Sublist os
 len:ts.length<=60
 stk:∃st,StL J st (vo ts)
structure PlS(K:PySem.W.Frag)(H:Hp)(b ls lf lp lo lq:Addr)(st:List Int)(tr pk:List V)(ou os:List Nat)(ts:List jr)(pks:List (Nat×Nat))(H':Hp)(n:Int):Prop where
 s:SameB b H H'
 bx:BoxAt H' b n
 nb:ls≠b/\lf≠b/\lp≠b/\lo≠b/\lq≠b
 nn:ls≠lf/\ls≠lp/\ls≠lo/\ls≠lq/\lf≠lp/\lf≠lo/\lf≠lq/\lp≠lo/\lp≠lq/\lo≠lq
 hN:H ls=none/\H lf=none/\H lp=none/\H lo=none
 hs:H' ls=some (.lst (st.map V.int))
 hf:H' lf=some (.lst tr)
 hp:H' lp=some (.lst pk)
 ho:H' lo=some (.lst (zw ou))
 hq:H' lq=some (.lst (zw os))
 rt:Reps K H' (ts.map xt) tr
 rk:Reps K H' (pks.map jP) pk
variable{H H' H'':Hp}{b ls lf lp lo lq:Addr}{st:List Int}{tr pk:List V}{ou os:List Nat}{ts:List jr}{pks:List (Nat×Nat)}{n m:Int}
theorem PlS.draw(g:PlS K H b ls lf lp lo lq st tr pk ou os ts pks H' n)(S:SameB b H' H'')(B:BoxAt H'' b m):PlS K H b ls lf lp lo lq st tr pk ou os ts pks H'' m:=by
 obtain⟨n1,n2,n3,n4,n5⟩:=g.nb
 have T:=SameT.draw g.bx S
 exact⟨g.s.trans S,B,g.nb,g.nn,g.hN,S _ _ g.hs n1,S _ _ g.hf n2,S _ _ g.hp n3,S _ _ g.ho n4,S _ _ g.hq n5,g.rt.keep T (j4 ts),g.rk.keep T (qS pks)⟩
theorem PlS.same(g:PlS K H b ls lf lp lo lq st tr pk ou os ts pks H' n)(S:Same H' H''):PlS K H b ls lf lp lo lq st tr pk ou os ts pks H'' n:=g.draw (SameB.of S) (g.bx.same S)
theorem PlS.new{q:Addr}{o:HO}(g:PlS K H b ls lf lp lo lq st tr pk ou os ts pks H' n)(h:H' q=none):PlS K H b ls lf lp lo lq st tr pk ou os ts pks (upd H' q o) n:=g.same (zd h)
theorem PlS.mono(g:PlS K H b ls lf lp lo lq st tr pk ou os ts pks H' n)(h:n<=m):PlS K H b ls lf lp lo lq st tr pk ou os ts pks H' m:=⟨g.s,g.bx.mono h,g.nb,g.nn,g.hN,g.hs,g.hf,g.hp,g.ho,g.hq,g.rt,g.rk⟩
theorem PlS.putO{ou':List Nat}(g:PlS K H b ls lf lp lo lq st tr pk ou os ts pks H' n):PlS K H b ls lf lp lo lq st tr pk ou' os ts pks (upd H' lo (.lst (zw ou'))) n:=by
 obtain⟨n1,n2,n3,n4,n5⟩:=g.nb
 obtain⟨a1,a2,a3,a4,a5,a6,a7,a8,a9,a10⟩:=g.nn
 have T:=SameT.put (ys:=zw ou') g.ho
 exact⟨g.s.put g.hN.2.2.2,g.bx.other n4,g.nb,g.nn,g.hN,by rw[zi a3];exact g.hs,by rw[zi a6];exact g.hf,by rw[zi a8];exact g.hp,zb,by rw[zi a10.symm];exact g.hq,g.rt.keep T (j4 ts),g.rk.keep T (qS pks)⟩
theorem PlS.putS{st':List Int}(g:PlS K H b ls lf lp lo lq st tr pk ou os ts pks H' n):PlS K H b ls lf lp lo lq st' tr pk ou os ts pks (upd H' ls (.lst (st'.map V.int))) n:=by
 obtain⟨n1,n2,n3,n4,n5⟩:=g.nb
 obtain⟨a1,a2,a3,a4,a5,a6,a7,a8,a9,a10⟩:=g.nn
 have T:=SameT.put (ys:=st'.map V.int) g.hs
 exact⟨g.s.put g.hN.1,g.bx.other n1,g.nb,g.nn,g.hN,zb,by rw[zi a1.symm];exact g.hf,by rw[zi a2.symm];exact g.hp,by rw[zi a3.symm];exact g.ho,by rw[zi a4.symm];exact g.hq,g.rt.keep T (j4 ts),g.rk.keep T (qS pks)⟩
theorem PlS.putF{v:V}{t:jr}(g:PlS K H b ls lf lp lo lq st tr pk ou os ts pks H' n)(hv:Rep K H' (xt t) v):PlS K H b ls lf lp lo lq st (tr++[v]) pk ou os (ts++[t]) pks (upd H' lf (.lst (tr++[v]))) n:=by
 obtain⟨n1,n2,n3,n4,n5⟩:=g.nb
 obtain⟨a1,a2,a3,a4,a5,a6,a7,a8,a9,a10⟩:=g.nn
 have T:=SameT.put (ys:=tr++[v]) g.hf
 refine⟨g.s.put g.hN.2.1,g.bx.other n2,g.nb,g.nn,g.hN,by rw[zi a1];exact g.hs,zb,by rw[zi a5.symm];exact g.hp,by rw[zi a6.symm];exact g.ho,by rw[zi a7.symm];exact g.hq,?_,g.rk.keep T (qS pks)⟩
 rw[zX]
 exact Reps.snoc (hv.keep T (Jt t)) (g.rt.keep T (j4 ts))
theorem PlS.putP{v:V}{p:Nat×Nat}(g:PlS K H b ls lf lp lo lq st tr pk ou os ts pks H' n)(hv:Rep K H' (jP p) v):PlS K H b ls lf lp lo lq st tr (pk++[v]) ou os ts (pks++[p]) (upd H' lp (.lst (pk++[v]))) n:=by
 obtain⟨n1,n2,n3,n4,n5⟩:=g.nb
 obtain⟨a1,a2,a3,a4,a5,a6,a7,a8,a9,a10⟩:=g.nn
 have T:=SameT.put (ys:=pk++[v]) g.hp
 refine⟨g.s.put g.hN.2.2.1,g.bx.other n3,g.nb,g.nn,g.hN,by rw[zi a2];exact g.hs,by rw[zi a5];exact g.hf,zb,by rw[zi a8.symm];exact g.ho,by rw[zi a9.symm];exact g.hq,g.rt.keep T (j4 ts),?_⟩
 rw[zX]
 exact Reps.snoc (hv.keep T (by rfl)) (g.rk.keep T (qS pks))
theorem PlS.newP{q:Addr}(g:PlS K H b ls lf lp lo lq st tr pk ou os ts pks H' n)(h:H' q=none):PlS K H b ls lf q lo lq st tr [] ou os ts [] (upd H' q (.lst [])) n:=by
 obtain⟨n1,n2,n3,n4,n5⟩:=g.nb
 obtain⟨a1,a2,a3,a4,a5,a6,a7,a8,a9,a10⟩:=g.nn
 have g':=g.new (o:=.lst []) h
 have nq:=g.bx.nne h
 exact⟨g'.s,g'.bx,⟨n1,n2,nq,n4,n5⟩,⟨a1,zn g.hs h,a3,a4,zn g.hf h,a6,a7,(zn g.ho h).symm,(zn g.hq h).symm,a10⟩,⟨g.hN.1,g.hN.2.1,g.s.none h nq,g.hN.2.2.2⟩,g'.hs,g'.hf,zb,g'.ho,g'.hq,g'.rt,rfl⟩
inductive zg2(t:TT)(σ:St)(H:Hp)(Q:Bool->Hp->Prop):Prop
 | mk (J:Bool->Hp->Prop) (_:t σ H J) (_:∀c H',J c H'->Q c H'):zg2 t σ H Q
theorem zau{X:Cx}{e:Expr}{t:TT}(h:PT X e t):PT X e (zg2 t):=by
 intro pins s σ H Q I hw
 obtain⟨J,q1,q2⟩:=hw
 exact thn (h pins s σ H J I q1) fun c s1 ⟨H1,I1,q⟩=>⟨H1,I1,q2 _ _ q⟩
theorem xv{H:Hp}{p:xH}{x:V}(h:Rep K H (xS p) x):∃a c,x=.ref a/\SqT K H a [.str p.k,.ref c,.int p.m]/\SqT K H c [.int p.x,.int p.y]:=by
 obtain⟨a,xs,rfl,q,y0,r0,f0,g0,y1,r1,f1,g1,y2,r2,f2,g2,f3⟩:=h
 subst f0 f1 f2
 cases(show r2=[] from f3)
 cases(show y0=_ from g0)
 cases(show y2=_ from g2)
 obtain⟨c,ys,rfl,q',z0,s0,e0,i0,z1,s1,e1,i1,e2⟩:=g1
 subst e0 e1
 cases(show s1=[] from e2)
 cases(show z0=_ from i0)
 cases(show z1=_ from i1)
 exact⟨a,c,rfl,q,q'⟩
theorem wH{H:Hp}{p:xi}{x:V}(h:Rep K H (j7 p) x):∃a c,x=.ref a/\SqT K H a [.str p.k,.ref c]/\SqT K H c [.int p.x,.int p.y]:=by
 obtain⟨a,xs,rfl,q,y0,r0,f0,g0,y1,r1,f1,g1,f3⟩:=h
 subst f0 f1
 cases(show r1=[] from f3)
 cases(show y0=_ from g0)
 obtain⟨c,ys,rfl,q',z0,s0,e0,i0,z1,s1,e1,i1,e2⟩:=g1
 subst e0 e1
 cases(show s1=[] from e2)
 cases(show z0=_ from i0)
 cases(show z1=_ from i1)
 exact⟨a,c,rfl,q,q'⟩
theorem QQ{H:Hp}{α:Type}{f:α->Dat}{as:List α}{xs:List V}(h:Reps K H (as.map f) xs){i:Nat}{a:α}(hi:as[i]? =some a):∃v,xs[i]? =some v/\Rep K H (f a) v:=by
 have hl:=h.len
 rw[zq] at hl
 have hlt:i<xs.length:=by have:=(zW.mp hi).1;omega
 obtain⟨d,e,r⟩:=h.get (i:=i) (x:=xs[i]) (by simp[hlt])
 rw[qr,hi] at e
 cases e
 exact⟨xs[i],by simp[hlt],r⟩
inductive Vt(K:PySem.W.Frag)(vs:List V)(H:Hp)(Q:VK):Prop
 | mk (b jp:Addr) (J:Job) (ord:List Nat) (most n:Int) (_:vs=[.ref b,.ref jp,.int most]) (_:BoxAt H b n) (_:n<500000) (_:Rep K H (xo J) (.ref jp)) (_:JobOk J ord) (_:0<=most) (_:most<=100) (_:∀(l:Addr) (os:List Nat) (ts:List jr) (tr:List V) H',SameB b H H'->BoxAt H' b (n+1000)->l≠b->H l=none->H' l=some (.lst tr)->Reps K H' (ts.map xt) tr->os.Perm (List.range J.ps.length)->ByOrd os J.as->YC J os ts->Q (.ref l) H'):Vt K vs H Q
def zcg(K:PySem.W.Frag):Sp:=fun vs H Q _=>Vt K vs H Q
theorem zcx:zF ["_law_box_here", "_law_job_here", "_law_most", "_law_stock", "_law_found", "_law_picks", "_law_out", "_law_part", "_law_some", "_law_lost", "_law_at"] ["_law_box_here", "_law_job_here", "_law_most"] (zt (topL 43)):=⟨rfl,rfl,rfl,by decide +kernel,rfl,by decide +kernel,by decide +kernel⟩
def za6(b:_)(jp:_)(most:_)(ls:_)(lf:_)(lo:_)(K:_)(H:_)(lq:_)(os:List Nat)(n:_)(J:Job):=fun(i:Nat) (σ:St) (H':Hp)=>(zh6 fun(lp:Addr) (v7 v8 v9 v10:Option V) (st:List Int) (tr pk:List V) (ou:List Nat) (ts:List jr) (pks:List (Nat×Nat))=>An9 (σ=[some (.ref b),some (.ref jp),some (.int most),some (.ref ls),some (.ref lf),some (.ref lp),some (.ref lo),v7,v8,v9,v10]) (PlS K H b ls lf lp lo lq st tr pk ou os ts pks H' (n+60+10*i)) (StL J st (vo ts++pks)) ((∀t∈ts,Vh J t)) ((∀p∈pks,Jg J p)) ((pks.length:Int)<J.hd) ((xB ts++pks.map (·.1)).Sublist (os.take i)) (ts.length+pks.length<=i) (ou.length<=i):Prop)
def za5(J:Job)(pa:xi)(st:List Int)(H8:_):=fun(i':Nat) (zs:List V) (H9:Hp)=>(Ex1 fun(ks:List Nat)=>An4 (zs=zw ks) (ks.length<=i') ((∀k'∈ks,∃fe,J.fs[k']? =some fe/\fe.k=pa.k/\∃z,st[k']? =some z/\0<z)) (Same H8 H9):Prop)
def za4(b:_)(jp:_)(most:_)(ls:_)(lf:_)(lp:_)(lo:_)(c:Nat)(lm:_)(v10:_)(H8:_)(ks:List Nat):=fun(σ':St) (H':Hp)=>(Ex1 fun(lost:Bool)=>An4 (σ'=[some (.ref b),some (.ref jp),some (.int most),some (.ref ls),some (.ref lf),some (.ref lp),some (.ref lo),some (.int (c:Int)),some (.ref lm),some (.bl lost),v10]) (Same H8 H') (H' lm=some (.lst (zw ks))) ((lost=false->ks≠[])):Prop)
theorem zet{f:Addr}{fd:FuncData}(F:Fun K "_law_plan" "_law_plan" (topL 43) f fd)(B:Blt mg)(D_take:Dfn P w K mg base "_law_take" 1 ["_law_box_here", "_law_size"] jW)(D_order:Dfn P w K mg base "_law_order" 2 ["_law_box_here", "_law_job_here"] (YY K))(D_trip:Dfn P w K mg base "_law_trip" 3 ["_law_box_here", "_law_picks"] (zcd K)):qH P w K mg base CX0 4 f fd ["_law_box_here", "_law_job_here", "_law_most"] (zcg K):=by
 have nd:=zcx.nd
 refine F.ok zcx (fun vs H Q E h=>?_) (fun cdv A outer s H vs Q E hr h=>?_)
 ·obtain⟨b,jp,J,ord,most,n,rfl,_⟩:=h
  rfl
 ·obtain⟨b,jp,J,ord,most,n,rfl,B0,hn,rj,jo,mo0,mo1,k⟩:=h
  have hu:=hr.units0
  have hbig:100000<sizeLine:=by rw[sizeLine_eq];decide
  have pl:=jo.pl
  have al:=jo.al
  have fl:=jo.fl
  have hd0:=jo.hd0
  have hd1:=jo.hd1
  obtain⟨g,fs,ps,as,qj,_,rf,rp,ra⟩:=V7 rj
  obtain⟨fv,qf,rf'⟩:=yD rf
  obtain⟨pv',qp,rp'⟩:=yD rp
  obtain⟨av,qa,ra'⟩:=yD ra
  have lfv:=rf'.len
  rw[zq] at lfv
  have lp:=rp'.len
  rw[zq] at lp
  have la:=ra'.len
  rw[zq] at la
  refine⟨_,(zg (zC (i:=3) nd rfl (Or.inr rfl) (xa [] [] rfl rfl (by kernel_rfl) (vz (zu qc (pv 1) zf (fun _ _=>rfl))) (fun _ _ _ _=>jw) (fun _ _ _ _=>(zu (qq (K:=K) rfl) (pv 0) zf (fun _ _=>rfl)))))
   (zg (xj (zY (za (zN ze) (za (zN ze) (za (zN ze) ze)))) (xm rfl (zT (zy (i:=4) nd rfl (Or.inl rfl)) (zT (zy (i:=5) nd rfl (Or.inl rfl)) (zT (zy (i:=6) nd rfl (Or.inr rfl)) jN)))))
   (zg (qW ju rfl (qJ (zk D_order (hr.mono (by decide)) rfl (za (pv 0) (za (pv 1) ze)))) (zy (i:=7) nd rfl (Or.inr rfl))
   (zg (zf8 ["_law_stock", "_law_part", "_law_job_here"] [3,7,1] rfl rfl (by kernel_rfl) (VQ rfl B.enumerate (za (zu qc (pv 1) zf (fun _ _=>rfl)) ze)) (fun _ _ _ _=>(xX (PW.pt (Xl (zO jt (zu (qq (K:=K) rfl) (pv 1) zf (fun _ _=>rfl)) (zu (qq (K:=K) rfl) (zu (qq (K:=K) rfl) (zu (qq (K:=K) rfl) (pv 4) zf (fun _ _=>rfl)) (pv 3) (fun _ _=>rfl)) zf (fun _ _=>rfl)) (zQ _)) (Z5 (zO Qt (zu (yM (K:=K) rfl) (pv 2) (pv 0) (fun _ _=>rfl)) zf (zQ _))))))) (fun _ _ _ _=>(pv 0)) (zy (i:=8) nd rfl (Or.inl rfl)))
    (zg (xJ (zC (i:=9) nd rfl (Or.inl rfl) (zfB (qM (VS hu) (pv 8) (zN ze) (zQ _)) (x9 (zp (wS rfl) rfl B.any yS (za (vA ["_law_part", "_law_out"] [7,6] rfl rfl (by kernel_rfl) (vz (zu qc (pv 1) zf (fun _ _=>rfl))) (fun _ _ _ _=>jw) (fun _ _ _ _=>(vB (qM jt (pv 1) (pv 2) (zQ _)) (x9 (qM (xn (K:=K) rfl) (pv 0) (pv 3) (by with_unfolding_all rfl)))))) ze))))))
    (zg (xJ (je (zau (PW.pt (Qn (jD (pv 9)) (Zf (PW.pt (Xl (zO Qt (pv 2) zf (zQ _)) (Z5 (zO jt (zk D_take (hr.mono (by decide)) rfl (za (pv 0) (za (pv 2) ze))) zf (zQ _)))))))))
    (zo (z7 (jm jh jV jU z9 (pv 6) (za (pv 7) ze))))
    (zg (zC (i:=10) nd rfl (Or.inl rfl) (zu zS (pv 8) (zk D_take (hr.mono (by decide)) rfl (za (pv 0) (za (zp zL rfl B.len boot_len (za (pv 8) ze)) ze))) (fun _ _=>rfl)))
     (zg (xj (zA xz (zu zS (pv 3) (pv 10) (fun _ _=>rfl)) zf) (Zh (pv 3) (pv 10) vF))
     (zo (z7 (jm jh jV jU z9 (pv 5) (za (zY (za (pv 7) (za (pv 10) ze))) ze))))))))
    (zo (je (zau (PW.pt (Xl (zO (Qs hu) (pv 5) (zN ze) (zQ _)) (Z5 (PW.pt (Qn (zO jt (zp zL rfl B.len boot_len (za (pv 5) ze)) (zu qc (pv 1) zf (fun _ _=>rfl)) (zQ _)) (Zf (zO jt (zk D_take (hr.mono (by decide)) rfl (za (pv 0) (za zf ze))) zf (zQ _)))))))))
    (zg (z7 (jm jh jV jU z9 (pv 4) (za (zk D_trip (hr.mono (by decide)) rfl (za (pv 0) (za (pv 5) ze))) ze)))
     (zo (zC (i:=5) nd rfl (Or.inl rfl) (zN ze))))
    qI))))))
   (zo (zE (zA jO (pv 4) (zA zgh (zN (za (zk D_trip (hr.mono (by decide)) rfl (za (pv 0) (za (pv 5) ze))) ze)) (qA wR rfl B.int vL (za (qM (Qs hu) (pv 5) (zN ze) (zQ _)) ze))))))))),?_⟩
  refine⟨_,rfl,jp,_,_,_,rfl,rfl,qj,rfl,fs,rfl,⟨_,qf⟩,wq (K:=K) (a:=fs) (xs:=fv) (fun i zs H1=>zs=((J.fs.take i).map (·.m)).map V.int/\Same H H1) ⟨rfl,Same.refl _⟩ (fun i zs H1 ⟨_,sm⟩=>sm.sqT qf) ?_ ?_⟩
  ·rintro i x zs H1 hx ⟨rfl,sm⟩
   obtain⟨d,e1,r1⟩:=(rf'.same sm).get hx
   rw[qr] at e1
   obtain⟨p,ep,rfl⟩:=jb.mp e1
   obtain⟨a,c,rfl,q,q'⟩:=xv r1
   have hi:i<J.fs.length:=(zW.mp ep).1
   refine⟨rfl,⟨_,rfl,a,_,_,_,rfl,rfl,q,rfl,?_,?_,sm⟩⟩
   ·rw[zq,zq,qR];omega
   ·rw[qg ep,zX,zX];rfl
  rintro zs H1 ⟨rfl,sm⟩
  have etk:J.fs.take fv.length=J.fs:=by rw[lfv,qX]
  rw[etk]
  refine⟨by rw[zq,zq];omega,fun ls hls=>?_⟩
  have st0l:StL J (J.fs.map (·.m)) []:=.nil fun f hf=>(jo.fa f hf).2.2.1
  generalize J.fs.map (·.m)=st0 at st0l
  have S1:=(SameB.of (b:=b) sm).new (o:=.lst (st0.map V.int)) hls
  have B1:=(B0.same sm).new (o:=.lst (st0.map V.int)) hls
  have LS:upd H1 ls (.lst (st0.map V.int)) ls=some (.lst (st0.map V.int)):=zb
  have NS:H ls=none:=(SameB.of (b:=b) sm).none hls ((B0.same sm).nne hls)
  have nsb:=(B0.same sm).nne hls
  generalize upd H1 ls (.lst (st0.map V.int))=H2 at S1 B1 LS
  refine⟨le0,fun lf hlf=>⟨le0,fun lp' hlp=>⟨le0,fun lo hlo=>⟨le3,fun t ht=>?_⟩⟩⟩⟩
  have nfb:=B1.nne hlf
  have NF:=S1.none hlf nfb
  have S2:=S1.new (o:=.lst []) hlf
  have B2:=B1.new (o:=.lst []) hlf
  have LS2:=(zd (o:=.lst []) hlf) _ _ LS
  have LF2:upd H2 lf (.lst []) lf=some (.lst []):=zb
  generalize upd H2 lf (.lst [])=H3 at S2 B2 LS2 LF2 hlp hlo ht
  have npb:=B2.nne hlp
  have NP:=S2.none hlp npb
  have S3:=S2.new (o:=.lst []) hlp
  have B3:=B2.new (o:=.lst []) hlp
  have LS3:=(zd (o:=.lst []) hlp) _ _ LS2
  have LF3:=(zd (o:=.lst []) hlp) _ _ LF2
  have LP3:upd H3 lp' (.lst []) lp'=some (.lst []):=zb
  generalize upd H3 lp' (.lst [])=H4 at S3 B3 LS3 LF3 LP3 hlo ht
  have nob:=B3.nne hlo
  have NO:=S3.none hlo nob
  have S4:=S3.new (o:=.lst []) hlo
  have B4:=B3.new (o:=.lst []) hlo
  have LS4:=(zd (o:=.lst []) hlo) _ _ LS3
  have LF4:=(zd (o:=.lst []) hlo) _ _ LF3
  have LP4:=(zd (o:=.lst []) hlo) _ _ LP3
  have LO4:upd H4 lo (.lst []) lo=some (.lst []):=zb
  have a1:ls≠lf:=zn LS hlf
  have a2:ls≠lp':=zn LS2 hlp
  have a3:ls≠lo:=zn LS3 hlo
  have a5:lf≠lp':=zn LF2 hlp
  have a6:lf≠lo:=zn LF3 hlo
  have a8:lp'≠lo:=zn LP3 hlo
  generalize upd H4 lo (.lst [])=H5 at S4 B4 LS4 LF4 LP4 LO4 ht
  have s5:=zd (o:=.tup [.ref lf,.ref lp',.ref lo]) ht
  have T5:upd H5 t (.tup [.ref lf,.ref lp',.ref lo]) t=some (.tup [.ref lf,.ref lp',.ref lo]):=zb
  have S5:=S4.new (o:=.tup [.ref lf,.ref lp',.ref lo]) ht
  have B5:=B4.new (o:=.tup [.ref lf,.ref lp',.ref lo]) ht
  have LS5:=s5 _ _ LS4
  have LF5:=s5 _ _ LF4
  have LP5:=s5 _ _ LP4
  have LO5:=s5 _ _ LO4
  generalize upd H5 t (.tup [.ref lf,.ref lp',.ref lo])=H6 at s5 T5 S5 B5 LS5 LF5 LP5 LO5
  refine⟨t,_,rfl,SqT.of T5,rfl,_,_,rfl,_,_,rfl,_,_,rfl,rfl,?_⟩
  clear S1 S2 S3 S4 B1 B2 B3 B4 LS LS2 LS3 LS4 LF2 LF3 LF4 LP3 LP4 LO4 hls hlf hlp hlo ht s5 T5
  have rj6:=rj.keep (SameT.draw B0 S5) (vI J)
  refine⟨_,rfl,_,rfl,b,jp,J,ord,n,rfl,B5.mono (by omega),by omega,rj6,jo,fun lq os H7 S7 B7 nqb hqN LQ7 pm ob=>?_⟩
  have osl:os.length=J.ps.length:=by have:=pm.length_eq;rwa[vQ] at this
  have a4:ls≠lq:=zn LS5 hqN
  have a7:lf≠lq:=zn LF5 hqN
  have a9:lp'≠lq:=zn LP5 hqN
  have a10:lo≠lq:=zn LO5 hqN
  have g0:PlS K H b ls lf lp' lo lq st0 [] [] [] os [] [] H7 (n+60):=⟨S5.trans S7,B7,⟨nsb,nfb,npb,nob,nqb⟩,⟨a1,a2,a3,a4,a5,a6,a7,a8,a9,a10⟩,⟨NS,NF,NP,NO⟩,S7 _ _ LS5 nsb,S7 _ _ LF5 nfb,S7 _ _ LP5 npb,S7 _ _ LO5 nob,LQ7,rfl,rfl⟩
  clear S5 S7 B5 B7 LS5 LF5 LP5 LO5 LQ7 hqN rj6 sm
  refine⟨lq,rfl,⟨_,SqL.of g0.hq⟩,xc (K:=K) (a:=lq) (xs:=zw os) (za6 b jp most ls lf lo K H lq os n J)
   ⟨lp',none,none,none,none,st0,[],[],[],[],[],rfl,g0.mono (by omega),st0l,(fun _ h=>nomatch h),(fun _ h=>nomatch h),(by show((0:Nat):Int)<_;omega),X3 _,zJ _,zJ _⟩
   (fun i σ H' _ ⟨_,_,_,_,_,_,_,_,_,_,_,_,g,_,_,_,_,_,_,_⟩=>SqL.of g.hq) ?_ ?_⟩
  ·rintro i x σ H8 hx ⟨lp,v7,v8,v9,v10,st,tr,pk,ou,ts,pks,rfl,g,stl,tok,pok,pkl,sub,cnt,oul⟩
   obtain⟨c,ec,rfl⟩:=VX hx
   have stn:=stl.len
   have hi:i<os.length:=(zW.mp ec).1
   have hc:c<J.ps.length:=vd.mp (pm.mem_iff.mp (qU ec))
   obtain⟨pa,epa⟩:∃pa,J.ps[c]? =some pa:=⟨J.ps[c],by simp[hc]⟩
   have T8:=SameT.draw B0 g.s
   have qj8:=qj.keep T8
   have qf8:=qf.keep T8
   have qp8:=qp.keep T8
   have qa8:=qa.keep T8
   have rf8:=rf'.keep T8 (x6 J.fs)
   have rp8:=rp'.keep T8 (xu J.ps)
   have ra8:=ra'.keep T8 (qS J.as)
   obtain⟨pv0,epv,rpv⟩:=QQ rp8 epa
   obtain⟨pad,pac,rfl,qpa,_⟩:=wH rpv
   refine⟨_,rfl,jp,_,_,_,rfl,rfl,qj8,rfl,fs,rfl,⟨_,qf8⟩,V5 (K:=K) (a:=fs) (xs:=fv) (za5 J pa st H8) ⟨[],rfl,zJ _,(fun _ h=>nomatch h),Same.refl _⟩ (fun i' zs H9 ⟨_,_,_,_,sm⟩=>sm.sqT qf8) ?_ ?_⟩
   ·rintro i' x zs H9 T hx' ⟨ks,rfl,kl,kk,sm⟩ hT
    obtain⟨d,e1,r1⟩:=(rf8.same sm).get hx'
    rw[qr] at e1
    obtain⟨fe,efe,rfl⟩:=jb.mp e1
    have hi':i'<J.fs.length:=(zW.mp efe).1
    have sT:=sm.trans (zd (o:=.tup [.int (i':Int),x]) hT)
    obtain⟨fa,fc,rfl,qfa,_⟩:=xv (r1.same (zd (o:=.tup [.int (i':Int),x]) hT))
    refine⟨T,_,rfl,SqT.of zb,rfl,_,_,rfl,_,_,rfl,rfl,rfl,?_⟩
    refine⟨_,rfl,fa,_,_,_,rfl,rfl,qfa,rfl,_,rfl,jp,_,_,_,rfl,rfl,sT.sqT qj8,rfl,_,rfl,ps,_,_,_,rfl,rfl,sT.sqT qp8,qk epv,pad,_,_,_,rfl,rfl,sT.sqT qpa,rfl,rfl,_,rfl,jA (fun c1=>?_) (fun c1=>?_)⟩
    ·have ek:fe.k=pa.k:=by have:=qZ c1;exact V.str.inj this
     have hst:i'<st.length:=by omega
     refine⟨_,rfl,_,rfl,ls,_,_,.int st[i'],rfl,rfl,SqL.of (sT _ _ g.hs),qk (by rw[qr,ji hst];rfl),_,_,rfl,rfl,_,rfl,jA (fun c2=>?_) (fun c2=>?_)⟩
     ·refine⟨_,rfl,by rw[zM];omega,ks++[i'],?_,by rw[zV];show _+1<=_;omega,fun k' hk'=>?_,sT⟩
      ·unfold zw
       rw[zX]
       rfl
      ·rcases qT.mp hk' with z | z
       ·exact kk k' z
       ·rw[qo.mp z]
        exact⟨fe,efe,ek,_,ji hst,qZ c2⟩
     ·exact⟨ks,rfl,by omega,kk,sT⟩
    ·exact ifF rfl ⟨ks,rfl,by omega,kk,sT⟩
   rintro zs H9 ⟨ks,rfl,kl,kk,sm⟩
   refine⟨by rw[zM];omega,fun lm hlm=>?_⟩
   have sm1:=sm.trans (zd (o:=.lst (zw ks)) hlm)
   have LM:upd H9 lm (.lst (zw ks)) lm=some (.lst (zw ks)):=zb
   have nmb:lm≠b:=(g.same sm).bx.nne hlm
   generalize upd H9 lm (.lst (zw ks))=Ha at sm1 LM
   clear sm hlm
   refine⟨za4 b jp most ls lf lp lo c lm v10 H8 ks,?_,?_⟩
   ·refine⟨_,rfl,le0,fun q hq=>⟨lm,q,zw ks,rfl,rfl,SqL.of ((zd hq) _ _ LM),SqL.of zb,_,rfl,jA (fun c1=>?_) (fun c1=>?_)⟩⟩
    ·exact⟨true,rfl,sm1.trans (zd hq),(zd hq) _ _ LM,fun z=>nomatch z⟩
    ·have kne:ks≠[]:=fun z=>c1 (by rw[z];rfl)
     have sm2:=sm1.trans (zd (o:=.lst []) hq)
     have LM2:=(zd (o:=.lst []) hq) _ _ LM
     generalize upd Ha q (.lst [])=Hb at sm2 LM2
     refine⟨_,rfl,jp,_,_,_,rfl,rfl,sm2.sqT qj8,rfl,as,rfl,⟨_,sm2.sqT qa8⟩,wq (K:=K) (a:=as) (xs:=av) (fun i' zs H9=>∃bs:List Bool,zs=bs.map V.bl/\bs.length<=i'/\Same Hb H9) ⟨[],rfl,zJ _,Same.refl _⟩ (fun i' zs H9 ⟨_,_,_,sm⟩=>(sm2.trans sm).sqT qa8) ?_ ?_⟩
     ·rintro i' x zs H9 hx' ⟨bs,rfl,bl,sm⟩
      obtain⟨d,e1,r1⟩:=(ra8.same (sm2.trans sm)).get hx'
      rw[qr] at e1
      obtain⟨p,ep,rfl⟩:=jb.mp e1
      obtain⟨pp,rfl,qpp⟩:=Zj r1
      have hi':i'<J.as.length:=(zW.mp ep).1
      refine⟨pp,_,rfl,qpp,rfl,_,_,rfl,_,_,rfl,rfl,rfl,?_⟩
      refine⟨_,rfl,_,rfl,rfl,_,rfl,jA (fun c2=>?_) (fun c2=>?_)⟩
      ·refine⟨_,rfl,_,rfl,lo,zw ou,rfl,.inl (SqL.of ((sm2.trans sm) _ _ g.ho)),rfl,wM _,by rw[zq];omega,bs++[inV (.int (p.1:Int)) (zw ou)],?_,by rw[zV];show _+1<=_;omega,sm⟩
       rw[zX]
       rfl
      ·refine⟨by rw[zq];omega,bs++[false],?_,by rw[zV];show _+1<=_;omega,sm⟩
       rw[zX]
       rfl
     ·rintro zs H9 ⟨bs,rfl,bl,sm⟩
      refine⟨by rw[zq];omega,fun D hD=>⟨D,bs,rfl,SqL.of zb,?_⟩⟩
      have sm3:=(sm2.trans sm).trans (zd (o:=.lst (bs.map V.bl)) hD)
      exact⟨bs.any id,rfl,sm3,(zd (o:=.lst (bs.map V.bl)) hD) _ _ (sm _ _ LM2),fun _=>kne⟩
   rintro σ' Hb ⟨lost,rfl,sm2,LM2,kne⟩
   have g2:=g.same sm2
   clear sm1 LM
   have sub1:(xB ts++pks.map (·.1)).Sublist (os.take (i+1)):=sub.trans (by rw[qg ec];exact List.sublist_append_left _ _)
   have eO:zw ou++[V.int (c:Int)]=zw (ou++[c]):=by unfold zw;rw[zX];rfl
   refine⟨fun σ' H'=>Ex5 fun(v10:Option V) (st':List Int) (pk':List V) (ou':List Nat) (pks':List (Nat×Nat))=>An8 (σ'=[some (.ref b),some (.ref jp),some (.int most),some (.ref ls),some (.ref lf),some (.ref lp),some (.ref lo),some (.int (c:Int)),some (.ref lm),some (.bl lost),v10]) (PlS K H b ls lf lp lo lq st' tr pk' ou' os ts pks' H' (n+60+10*i+3)) (StL J st' (vo ts++pks')) ((∀p∈pks',Jg J p)) ((pks'.length:Int)<=J.hd) ((xB ts++pks'.map (·.1)).Sublist (os.take (i+1))) (ts.length+pks'.length<=i+1) (ou'.length<=i+1),?_,?_⟩
   ·have outC:∀(H':Hp) (m:Int),PlS K H b ls lf lp lo lq st tr pk ou os ts pks H' m->m<=n+60+10*i+3->PlS K H b ls lf lp lo lq st tr pk (ou++[c]) os ts pks (upd H' lo (.lst (zw ou++[V.int (c:Int)]))) (n+60+10*i+3):=fun H' m g' hm=>by
     rw[eO]
     exact(g'.mono hm).putO
    have oul2:(ou++[c]).length<=i+1:=by rw[zV];show _+1<=_;omega
    refine⟨fun(d:Bool) (H':Hp)=>PlS K H b ls lf lp lo lq st tr pk ou os ts pks H' (n+60+10*i+1)/\H' lm=some (.lst (zw ks))/\(d=false->ks≠[]),?_,?_⟩
    ·refine⟨_,rfl,_,rfl,jA (fun c1=>⟨g2.mono (by omega),LM2,(fun z=>nomatch z)⟩) (fun c1=>?_)⟩
     have kne':=kne (by simpa using c1)
     exact⟨_,rfl,_,_,rfl,rfl,_,rfl,jA (fun c2=>⟨_,rfl,_,rfl,b,most,_,rfl,g2.bx,by omega,qZ c2,by omega,fun r Hc r0 r1 Bc Sc=>⟨rfl,_,rfl,(g2.draw Sc Bc).mono (by omega),Sc _ _ LM2 nmb,fun _=>kne'⟩⟩) (fun c2=>⟨g2.mono (by omega),LM2,fun _=>kne'⟩)⟩
    rintro d Hc ⟨g3,LM3,kn⟩
    refine jA (fun c1=>?_) (fun c1=>?_)
    ·exact⟨_,rfl,.inl ⟨rfl,_,SqL.of g3.ho⟩,_,rfl,lo,_,_,rfl,rfl,g3.ho,by rw[zM];omega,_,st,pk,ou++[c],pks,rfl,outC _ _ g3 (by omega),stl,pok,by omega,sub1,by omega,oul2⟩
    ·have kpos:0<ks.length:=X8.mpr (kn (by simpa using c1))
     refine⟨_,rfl,_,rfl,_,rfl,lm,_,rfl,.inl (SqL.of LM3),b,_,_,rfl,g3.bx,by omega,by rw[zM];omega,by rw[zM];omega,fun r' Hd r0' r1' Bd Sd=>?_⟩
     rw[zM] at r1'
     have hr':r'.toNat<ks.length:=by omega
     have er':atI (zw ks) r'=some (.int ((ks[r'.toNat]:Nat):Int)):=by
      have er:(zw ks)[r'.toNat]? =some (.int ((ks[r'.toNat]:Nat):Int)):=by
       unfold zw
       rw[qr,ji hr']
       rfl
      have:=qk er
      rwa[show((r'.toNat:Nat):Int)=r' by omega] at this
     obtain⟨fe,efe,ekf,z0,ez0,hz0⟩:=kk _ (yV hr')
     generalize ks[r'.toNat]=kf at er' efe ez0
     have hkf:kf<J.fs.length:=(zW.mp efe).1
     have hst:kf<st.length:=by omega
     have g5:=g3.draw Sd Bd
     refine⟨lm,_,_,_,rfl,rfl,SqL.of (Sd _ _ LM3 nmb),er',?_⟩
     refine⟨_,rfl,_,rfl,ls,_,_,.int st[kf],rfl,rfl,SqL.of g5.hs,qk (by rw[qr,ji hst];rfl),_,_,rfl,rfl,_,rfl,_,rfl,ls,_,_,kf,rfl,rfl,g5.hs,XC (by rw[zq];omega),?_⟩
     have eS:(st.map V.int).set kf (V.int (st[kf]-1))=(st.set kf (st[kf]-1)).map V.int:=by rw[List.map_set]
     rw[eS]
     have g6:=g5.putS (st':=st.set kf (st[kf]-1))
     generalize upd Hd ls (.lst ((st.set kf (st[kf]-1)).map V.int))=He at g6
     refine⟨_,rfl,.inl ⟨rfl,_,SqL.of g6.hp⟩,_,rfl,_,rfl,le2,fun q hq=>?_⟩
     have g7:=g6.new (o:=.tup [.int (c:Int),.int (kf:Int)]) hq
     have rq:Rep K (upd He q (.tup [.int (c:Int),.int (kf:Int)])) (jP (c,kf)) (.ref q):=⟨q,_,rfl,SqT.of zb,_,_,rfl,rfl,_,_,rfl,rfl,rfl⟩
     have pkn:pk.length=pks.length:=by have:=g.rk.len;rwa[zq] at this
     refine⟨lp,_,_,rfl,rfl,g7.hp,by omega,_,st.set kf (st[kf]-1),pk++[.ref q],ou,pks++[(c,kf)],rfl,(g7.putP rq).mono (by omega),by rw[<- jC];exact stl.take (ji hst) (by rw[ji hst] at ez0;rw[jT ez0];exact hz0),fun p' hp'=>?_,by rw[zV];show((_+1:Nat):Int)<=_;omega,?_,by rw[zV];show _+(_+1)<=_;omega,by omega⟩
     ·rcases qT.mp hp' with z | z
      ·exact pok p' z
      ·rw[qo.mp z]
       exact⟨pa,fe,epa,efe,ekf⟩
     ·rw[zX,<- jC,qg ec]
      exact sub.append (X3 _)
   rintro σ' Hc ⟨v10',st',pk',ou',pks',rfl,g4,stl',pok',pkl',sub',cnt',oul'⟩
   have pkn:pk'.length=pks'.length:=by have:=g4.rk.len;rwa[zq] at this
   have trn:tr.length=ts.length:=by have:=g4.rt.len;rwa[zq] at this
   have T9:=SameT.draw B0 g4.s
   refine⟨fun(d:Bool) (H':Hp)=>PlS K H b ls lf lp lo lq st' tr pk' ou' os ts pks' H' (n+60+10*i+4)/\(d=true->1<=pks'.length)/\(d=false->(pks'.length:Int)<J.hd),?_,?_⟩
   ·refine⟨_,rfl,le0,fun q hq=>⟨lp,q,_,rfl,rfl,SqL.of (g4.new (o:=.lst []) hq).hp,SqL.of zb,_,rfl,jA (fun c1=>?_) (fun c1=>?_)⟩⟩
    ·have g5:=g4.new (o:=.lst []) hq
     have qj5:=(qj.keep T9).keep (SameT.of (zd (o:=.lst []) hq))
     generalize upd Hc q (.lst [])=Hd at g5 qj5
     have pne:1<=pks'.length:=by
      cases pk' with
      | nil=>cases c1
      | cons x r=>simp at pkn;omega
     refine⟨_,rfl,lp,_,rfl,.inl (SqL.of g5.hp),_,rfl,jp,_,_,_,rfl,rfl,qj5,rfl,rfl,_,rfl,jA (fun c2=>⟨g5.mono (by omega),fun _=>pne,fun z=>nomatch z⟩) (fun c2=>⟨_,rfl,b,3,_,rfl,g5.bx,by omega,by decide,by decide,fun r He r0 r1 Be Se=>⟨rfl,_,rfl,(g5.draw Se Be).mono (by omega),fun _=>pne,fun _=>?_⟩⟩)⟩
     have hne:¬(pk'.length:Int)=J.hd:=fun z=>c2 (by rw[z];simp)
     omega
    ·have pe:pks'=[]:=by
      cases pks' with
      | nil=>rfl
      | cons x r=>
       cases pk' with
       | nil=>simp at pkn
       | cons y r'=>exact absurd rfl c1
     exact⟨(g4.new (o:=.lst []) hq).mono (by omega),(fun z=>nomatch z),fun _=>by rw[pe];show((0:Nat):Int)<_;omega⟩
   rintro d Hd ⟨G,pne,hlt⟩
   refine jA (fun c1=>?_) (fun c1=>?_)
   ·have pne:=pne c1
    refine⟨_,rfl,.inl ⟨rfl,_,SqL.of G.hf⟩,_,rfl,_,rfl,b,lp,_,pk',pks',rfl,G.bx,by omega,G.nb.2.2.1,G.hp,G.rk,by omega,fun p sh Hg Sg Bg shp rt=>?_⟩
    have G2:=G.draw Sg Bg
    have shl:sh.length=pks'.length:=shp.length_eq
    refine⟨lf,_,_,rfl,rfl,G2.hf,by omega,?_⟩
    have G3:=G2.putF rt
    generalize upd Hg lf (.lst (tr++[.ref p]))=Hh at G3
    refine⟨le0,fun lp2 hlp2=>⟨lp2,_,_,_,_,st',tr++[.ref p],[],ou',ts++[⟨sh,pks'.map (·.1)⟩],[],rfl,(G3.newP hlp2).mono (by omega),by rw[Qp,qK];exact stl'.perm (shp.symm.append_left _),?_,(fun _ h=>nomatch h),(by show((0:Nat):Int)<_;omega),?_,?_,oul'⟩⟩
    ·intro t' ht'
     rcases qT.mp ht' with z | z
     ·exact tok t' z
     ·rw[qo.mp z]
      exact⟨by show 1<=sh.length;omega,by show(sh.length:Int)<=_;omega,fun p' hp'=>pok' p' (shp.mem_iff.mp hp'),(shp.map (·.1)).symm⟩
    ·rw[ZC]
     simpa using sub'
    ·rw[zV]
     show _+1+0<=_
     omega
   ·exact⟨lp,_,_,_,_,st',tr,pk',ou',ts,pks',rfl,G.mono (by omega),stl',tok,pok',hlt (by simpa using c1),sub',cnt',oul'⟩
  ·rintro σ H8 ⟨lp,v7,v8,v9,v10,st,tr,pk,ou,ts,pks,rfl,g,stl,tok,pok,pkl,sub,cnt,oul⟩
   rw[zM] at sub cnt oul
   rw[zM] at g
   rw[qX] at sub
   have pkn:pk.length=pks.length:=by have:=g.rk.len;rwa[zq] at this
   have trn:tr.length=ts.length:=by have:=g.rt.len;rwa[zq] at this
   refine⟨_,rfl,_,rfl,_,rfl,b,lp,_,pk,pks,rfl,g.bx,by omega,g.nb.2.2.1,g.hp,g.rk,by omega,fun p sh Hg Sg Bg shp rt=>?_⟩
   have g2:=g.draw Sg Bg
   have shl:sh.length=pks.length:=shp.length_eq
   refine⟨le1,fun l1 hl1=>?_⟩
   have g3:=g2.new (o:=.lst [.ref p]) hl1
   have rt3:=rt.same (zd (o:=.lst [.ref p]) hl1)
   have L1:upd Hg l1 (.lst [.ref p]) l1=some (.lst [.ref p]):=zb
   generalize upd Hg l1 (.lst [.ref p])=Hh at g3 rt3 L1
   refine⟨_,rfl,le0,fun q hq=>⟨lp,q,_,rfl,rfl,SqL.of (g3.new (o:=.lst []) hq).hp,SqL.of zb,.inr ⟨_,rfl,l1,_,_,rfl,rfl,(zd hq) _ _ L1,?_,?_,?_,fun l2 hl2=>?_⟩⟩⟩
   ·split<;>decide
   ·split<;>decide
   ·show 1*_<=sizeLine
    split<;>(first| (show 1*1<=_;omega) | (show 1*0<=_;omega))
   have g4:=g3.new (o:=.lst []) hq
   have rt4:=rt3.same (zd (o:=.lst []) hq)
   generalize upd Hh q (.lst [])=Hi at g4 rt4 hl2
   have fin:∀(zs:List V) (us:List jr),Reps K Hi (us.map xt) zs->zs.length<=1->us.length+ts.length<=60->(∀t∈us,Vh J t)->(xB (ts++us)).Sublist os->(vo ts++pks).Perm (vo (ts++us))->zf4 (V.ref lf) (V.ref l2) (upd Hi l2 (.lst zs)) Q:=by
    intro zs us rz zl ul uo us' up
    have g5:=g4.new (o:=.lst zs) hl2
    have rz5:=rz.same (zd (o:=.lst zs) hl2)
    refine⟨lf,l2,tr,zs,rfl,rfl,g5.hf,zb,by omega,fun l3 hl3=>?_⟩
    have n3:=g5.bx.nne hl3
    have g6:=g5.new (o:=.lst (tr++zs)) hl3
    refine k l3 os (ts++us) (tr++zs) _ g6.s (g6.bx.mono (by omega)) n3 (g5.s.none hl3 n3) zb ?_ pm ob ⟨fun t ht=>?_,us',by rw[zV];omega,st,stl.perm up⟩
    ·rw[zX]
     exact Reps.app g6.rt (rz5.same (zd hl3))
    ·rcases qT.mp ht with z | z
     ·exact tok t z
     ·exact uo t z
   cases pks with
   | nil=>
    have e:pk=[]:=List.length_eq_zero_iff.mp (by rw[pkn];rfl)
    subst e
    exact fin [] [] rfl (qe _) (by show 0+_<=_;omega) (fun _ h=>nomatch h) (by rw[qK];simpa using sub) (by rw[qK,qK])
   | cons x r=>
    have hne:∃y r',pk=y::r':=by
     cases pk with
     | nil=>simp at pkn
     | cons y r'=>exact⟨y,r',rfl⟩
    obtain⟨y,r',rfl⟩:=hne
    refine fin [.ref p] [⟨sh,(x::r).map (·.1)⟩] ⟨_,_,rfl,rt4,rfl⟩ (zJ _) (by simp at cnt;show 1+_<=_;omega) (fun t ht=>?_) (by rw[ZC];exact sub) (by rw[Qp];exact shp.symm.append_left _)
    rw[qo.mp ht]
    exact⟨by show 1<=sh.length;rw[shl];exact Nat.succ_le_succ (qe _),by show(sh.length:Int)<=_;omega,fun p' hp'=>pok p' (shp.mem_iff.mp hp'),(shp.map (·.1)).symm⟩
def prD(p:Int×Int):Dat:=.tup [.int p.1,.int p.2]
inductive Jv(K:PySem.W.Frag)(vs:List V)(H:Hp)(Q:VK):Prop
 | mk (t:Addr) (xs:List V) (as:List (Int×Int)) (_:vs=[.ref t]) (_:SqT K H t xs) (_:Reps K H (as.map prD) xs) (_:as.length<=1000) (_:∀(l:Addr) (ys:List V) H',Same H H'->H' l=some (.lst ys)->Reps K H' (as.map fun p=>prD p.swap) ys->Q (.ref l) H'):Jv K vs H Q
def YN(K:PySem.W.Frag):Sp:=fun vs H Q _=>Jv K vs H Q
theorem zag:zF ["pairs"] ["pairs"] (zt (topL 4)):=⟨rfl,rfl,rfl,by decide +kernel,rfl,by decide +kernel,by decide +kernel⟩
theorem zc1{f:Addr}{fd:FuncData}(F:Fun K "turned" "turned" (topL 4) f fd)(B:Blt mg):qH P w K mg base CX0 1 f fd ["pairs"] (YN K):=by
 have nd:=zag.nd
 refine F.ok zag (fun vs H Q E h=>?_) (fun cdv A outer s H vs Q E hr h=>?_)
 ·obtain⟨t,xs,as,rfl,_⟩:=h
  rfl
 ·obtain⟨t,xs,as,rfl,ht,rp,la,k⟩:=h
  have hbig:100000<sizeLine:=by rw[sizeLine_eq];decide
  have lx:=rp.len
  rw[zq] at lx
  refine⟨_,(zo (zE (vA [] [] rfl rfl (by kernel_rfl) (vz (pv 0)) (fun _ _ _ _=>jw) (fun _ _ _ _=>(zY (za (pv 1) (za (pv 0) ze))))))),?_⟩
  have l2:∀x y:V,[x,y].length<=sizeLine:=fun x y=>by rw[sizeLine_eq];show 2<=_;decide
  refine⟨_,rfl,t,rfl,⟨_,ht⟩,wq (K:=K) (a:=t) (xs:=xs) (fun i zs H'=>Reps K H' ((as.take i).map fun p=>prD p.swap) zs/\Same H H') ⟨rfl,Same.refl _⟩ (fun i zs H' ⟨_,sm⟩=>sm.sqT ht) ?_ ?_⟩
  ·rintro i x zs H1 hx ⟨rz,sm⟩
   obtain⟨d,e1,r1⟩:=(rp.same sm).get hx
   rw[qr] at e1
   obtain⟨p,ep,rfl⟩:=jb.mp e1
   have hi:i<as.length:=(zW.mp ep).1
   obtain⟨a,ws,rfl,qa,x1,r1',rfl,e2,x2,r2',rfl,e3,e4⟩:=r1
   cases e2
   cases e3
   cases e4
   refine⟨a,_,rfl,qa,rfl,_,_,rfl,_,_,rfl,rfl,rfl,?_⟩
   refine⟨_,rfl,_,rfl,l2 _ _,fun q hq=>⟨?_,?_,sm.trans (zd hq)⟩⟩
   ·have:=rz.len
    rw[zq,qR] at this
    omega
   ·have e5:as.take (i+1)=as.take i++[p]:=by
     obtain⟨h1,h2⟩:=zW.mp ep
     rw[<- h2,yb]
    rw[e5,zX]
    exact Reps.snoc (d:=prD p.swap) ⟨q,_,rfl,SqT.of zb,_,_,rfl,rfl,_,_,rfl,rfl,rfl⟩ (rz.same (zd hq))
  ·rintro zs H1 ⟨rz,sm⟩
   rw[lx,qX] at rz
   refine⟨by have:=rz.len;rw[zq] at this;omega,fun l hl=>k l zs _ (sm.trans (zd hl)) zb (rz.same (zd hl))⟩
def vR(as:List (Int×Int))(i:Int):List Int:=(as.filter fun p=>decide (p.1=i)).map (·.2)
structure NB(H0 H:Hp)(kvs:List (Key×V))(as:List (Int×Int)):Prop where
 at_:∀i v,jq kvs (Sum.inl i)=some v->∃l,v=.ref l/\H0 l=none/\H l=some (.lst ((vR as i).map V.int))
 no:∀i,jq kvs (Sum.inl i)=none->vR as i=[]
 inj:∀i j l,jq kvs (Sum.inl i)=some (.ref l)->jq kvs (Sum.inl j)=some (.ref l)->i=j
 few:kvs.length<=as.length
theorem wG(as:List (Int×Int))(x y i:Int):vR (as++[(x,y)]) i=vR as i++(if x=i then [y] else []):=by
 unfold vR
 rw[vg,zX]
 congr 1
 by_cases h:x=i<;>simp[h]
theorem zd3(as:List (Int×Int))(i:Int):(vR as i).length<=as.length:=by
 unfold vR
 rw[zq]
 exact jR _ _
theorem NB.old{H0 H H1:Hp}{kvs:List (Key×V)}{as:List (Int×Int)}{x y:Int}{l:Addr}(n:NB H0 H kvs as)(s:Same H H1)(e:jq kvs (Sum.inl x)=some (.ref l)) :
  NB H0 (upd H1 l (.lst ((vR as x).map V.int++[.int y]))) kvs (as++[(x,y)]):=by
 refine⟨fun i v hv=>?_,fun i hv=>?_,n.inj,by rw[zV];have:=n.few;omega⟩
 ·obtain⟨l',rfl,h0,h1⟩:=n.at_ i v hv
  refine⟨l',rfl,h0,?_⟩
  rw[wG]
  by_cases hx:x=i
  ·subst hx
   rw[e] at hv
   cases hv
   rw[zb,zH rfl,zX]
   rfl
  ·have ne:l'≠l:=fun z=>hx (n.inj x i l e (by rw[<- z];exact hv))
   rw[zi ne,zx hx,qK]
   exact s _ _ h1
 ·rw[wG,n.no i hv,zx (fun z=>by rw[<- z,e] at hv;cases hv)]
  rfl
theorem NB.new{H0 H:Hp}{kvs:List (Key×V)}{as:List (Int×Int)}{x y:Int}{m d:Addr}(n:NB H0 H kvs as)(hm:H m=none)(h0:H0 m=none)(hd:H d=some (.dK kvs))(e:jq kvs (Sum.inl x)=none) :
  NB H0 (upd (upd (upd H m (.lst [])) d (.dK (xG kvs (Sum.inl x) (.ref m)))) m (.lst ([]++[.int y]))) (xG kvs (Sum.inl x) (.ref m)) (as++[(x,y)]):=by
 have old:∀i l,jq kvs (Sum.inl i)=some (.ref l)->H l=some (.lst ((vR as i).map V.int))/\l≠m/\l≠d:=fun i l h=>by
  obtain⟨l',z,_,h1⟩:=n.at_ i _ h
  cases z
  refine⟨h1,fun z=>?_,fun z=>?_⟩
  ·rw[z,hm] at h1;cases h1
  ·rw[z,hd] at h1;cases h1
 refine⟨fun i v hv=>?_,fun i hv=>?_,fun i j l hi hj=>?_,?_⟩
 ·rw[Qg] at hv
  rw[wG]
  by_cases hx:i=x
  ·subst hx
   rw[zH rfl] at hv
   cases hv
   refine⟨m,rfl,h0,?_⟩
   rw[zb,n.no _ e,zH rfl]
   rfl
  ·rw[zx (fun z=>hx (wY z))] at hv
   obtain⟨l,rfl,h1,h2⟩:=n.at_ i v hv
   obtain⟨_,n1,n2⟩:=old i l hv
   refine⟨l,rfl,h1,?_⟩
   rw[zi n1,zi n2,zi n1,zx (qy hx),qK]
   exact h2
 ·rw[Qg] at hv
  by_cases hx:i=x
  ·subst hx;rw[zH rfl] at hv;cases hv
  ·rw[zx (fun z=>hx (wY z))] at hv
   rw[wG,n.no i hv,zx (qy hx)]
   rfl
 ·rw[Qg] at hi hj
  by_cases h1:i=x<;>by_cases h2:j=x
  ·rw[h1,h2]
  ·rw[zH (by rw[h1])] at hi
   rw[zx (fun z=>h2 (wY z))] at hj
   cases hi
   exact absurd rfl (old j _ hj).2.1
  ·rw[zx (fun z=>h1 (wY z))] at hi
   rw[zH (by rw[h2])] at hj
   cases hj
   exact absurd rfl (old i _ hi).2.1
  ·rw[zx (fun z=>h1 (wY z))] at hi
   rw[zx (fun z=>h2 (wY z))] at hj
   exact n.inj i j l hi hj
 ·have:=xR kvs (Sum.inl x) (.ref m)
  have:=n.few
  rw[zV,List.length_singleton]
  omega
inductive Vx(K:PySem.W.Frag)(vs:List V)(H:Hp)(Q:VK):Prop
 | mk (t:Addr) (xs:List V) (as:List (Int×Int)) (_:vs=[.ref t]) (_:(SqL K H t xs\/SqT K H t xs)) (_:Reps K H (as.map prD) xs) (_:as.length<=1000) (_:∀(d:Addr) (kvs:List (Key×V)) H',Same H H'->H d=none->H' d=some (.dK kvs)->NB H H' kvs as->Q (.ref d) H'):Vx K vs H Q
def zci(K:PySem.W.Frag):Sp:=fun vs H Q _=>Vx K vs H Q
theorem zcA:zF ["pairs", "rows", "one", "other"] ["pairs"] (zt (topL 5)):=⟨rfl,rfl,rfl,by decide +kernel,rfl,by decide +kernel,by decide +kernel⟩
theorem zex{f:Addr}{fd:FuncData}(F:Fun K "next_by" "next_by" (topL 5) f fd)(B:Blt mg):qH P w K mg base CX0 1 f fd ["pairs"] (zci K):=by
 have nd:=zcA.nd
 refine F.ok zcA (fun vs H Q E h=>?_) (fun cdv A outer s H vs Q E hr h=>?_)
 ·obtain⟨t,xs,as,rfl,_⟩:=h
  rfl
 ·obtain⟨t,xs,as,rfl,ht,rp,la,k⟩:=h
  have hbig:100000<sizeLine:=by rw[sizeLine_eq];decide
  have hu1:=QE hr
  have lx:=rp.len
  rw[zq] at lx
  refine⟨_,(zg (zC (i:=1) nd rfl (Or.inl rfl) zcU)
   (zg (qW ju rfl (zcR (pv 0)) (xm rfl (zT (zy (i:=2) nd rfl (Or.inl rfl)) (zT (zy (i:=3) nd rfl (Or.inl rfl)) jN)))
   (zo (z7 (jm jh jV jU z9 (zge (pv 1) (pv 2) (zN ze) ⟨rfl,rfl,rfl,rfl⟩) (za (pv 3) ze)))))
   (zo (zE (pv 1))))),?_⟩
  refine fun d hd=>?_
  have e0:NB H (upd H d (.dK [])) [] ([]:List (Int×Int)):=⟨(fun i v z=>nomatch z),(fun _ _=>rfl),(fun i j l z=>nomatch z),zJ _⟩
  have s0:Same H (upd H d (.dK [])):=zd hd
  have step:∀(i:Nat) (x:V) (H1:Hp) (kvs:List (Key×V)),xs[i]? =some x->H1 d=some (.dK kvs)->NB H H1 kvs (as.take i)->Same H H1->∃(a:Addr) (p:Int×Int),x=.ref a/\SqT K H1 a [.int p.1,.int p.2]/\as[i]? =some p/\i<as.length/\as.take (i+1)=as.take i++[p]:=fun i x H1 kvs hx _ _ sm=>by
   obtain⟨dd,e1,r1⟩:=(rp.same sm).get hx
   rw[qr] at e1
   obtain⟨p,ep,rfl⟩:=jb.mp e1
   obtain⟨h1,h2⟩:=zW.mp ep
   obtain⟨a,ws,rfl,qa,x1,r1',rfl,e2,x2,r2',rfl,e3,e4⟩:=r1
   cases e2
   cases e3
   cases e4
   exact⟨a,p,rfl,qa,ep,h1,by rw[<- h2,yb]⟩
  refine⟨_,rfl,t,rfl,ht.elim (fun hL=>.inl ⟨⟨_,s0.seq hL⟩,xc (K:=K) (a:=t) (xs:=xs) (fun i σ H'=>Ex3 fun(v2 v3:Option V) (kvs:List (Key×V))=>An4 (σ=[some (.ref t),some (.ref d),v2,v3]) (H' d=some (.dK kvs)) (NB H H' kvs (as.take i)) (Same H H'))
   ⟨_,_,[],rfl,zb,e0,s0⟩ (fun i σ H' _ ⟨_,_,_,_,_,_,sm⟩=>sm.seq hL) ?s1 ?e1⟩) (fun hT=>.inr ⟨⟨_,s0.sqT hT⟩,Z9 (K:=K) (a:=t) (xs:=xs) (fun i σ H'=>Ex3 fun(v2 v3:Option V) (kvs:List (Key×V))=>An4 (σ=[some (.ref t),some (.ref d),v2,v3]) (H' d=some (.dK kvs)) (NB H H' kvs (as.take i)) (Same H H'))
   ⟨_,_,[],rfl,zb,e0,s0⟩ (fun i σ H' _ ⟨_,_,_,_,_,_,sm⟩=>sm.sqT hT) ?s2 ?e2⟩)⟩
  case e1 | e2=>
   rintro σ H1 ⟨v2,v3,kvs,rfl,h1,n1,sm⟩
   rw[lx,qX] at n1
   exact⟨_,rfl,k d kvs H1 sm hd h1 n1⟩
  case s1 | s2=>
   rintro i x σ H1 hx ⟨v2,v3,kvs,rfl,h1,n1,sm⟩
   obtain⟨a,p,rfl,qa,ep,hi,et⟩:=step i x H1 kvs hx h1 n1 sm
   rw[et]
   have few:=n1.few
   rw[qR] at few
   refine⟨a,_,rfl,qa,rfl,_,_,rfl,_,_,rfl,rfl,?_⟩
   refine⟨_,rfl,d,rfl,.inl ⟨_,.inl h1⟩,_,rfl,le0,fun m hm=>⟨kvs,Sum.inl p.1,(zd (o:=.lst []) hm) _ _ h1,rfl,by omega,fun v hv=>?_,fun hv=>?_⟩⟩
   ·obtain⟨l,rfl,l0,ll⟩:=n1.at_ _ v hv
    have L:=(zd (o:=.lst []) hm) _ _ ll
    have nd:d≠l:=fun z=>by rw[<- z,h1] at ll;cases ll
    have sl:=zd3 (as.take i) p.1
    rw[qR] at sl
    refine⟨.inl ⟨rfl,_,SqL.of L⟩,_,rfl,l,_,_,rfl,rfl,L,by rw[zq];omega,?_⟩
    exact⟨_,_,kvs,rfl,by rw[zi nd];exact(zd (o:=.lst []) hm) _ _ h1,n1.old (zd hm) hv,fun c o e=>by rw[zi (zn e l0)];exact(zd hm) _ _ (sm _ _ e)⟩
   ·have nmd:m≠d:=fun z=>by rw[z,h1] at hm;cases hm
    have m0:H m=none:=by
     cases z:H m with
     | none=>rfl
     | some o=>rw[sm _ _ z] at hm;cases hm
    have L:upd (upd H1 m (.lst [])) d (.dK (xG kvs (Sum.inl p.1) (.ref m))) m=some (.lst []):=by rw[zi nmd];exact zb
    refine⟨.inl ⟨rfl,_,SqL.of L⟩,_,rfl,m,_,_,rfl,rfl,L,by show 0<_;omega,?_⟩
    exact⟨_,_,_,rfl,by rw[zi (qy nmd)];exact zb,n1.new hm m0 h1 hv,fun c o e=>by rw[zi (zn e m0),zi (zn e hd),zi (zn e m0)];exact sm _ _ e⟩
end
def Wk(as:List (Int×Int)):Nat->Int->Int->Prop
 | 0,i,j=>i=j
 | n+1,i,j=>∃m,(i,m)∈as/\Wk as n m j
section
variable{as:List (Int×Int)}
theorem Wk.snoc:∀{n:Nat} {i j k:Int},Wk as n i j->(j,k)∈as->Wk as (n+1) i k
 | 0,i,j,k,h,e=>by cases(show i=j from h);exact⟨k,e,rfl⟩
 | n+1,i,j,k,⟨m,h,h'⟩,e=>⟨m,h,Wk.snoc h' e⟩
theorem Wk.add:∀{n m:Nat} {i j k:Int},Wk as n i j->Wk as m j k->Wk as (n+m) i k
 | 0,m,i,j,k,h,e=>by cases(show i=j from h);rw[Nat.zero_add];exact e
 | n+1,m,i,j,k,⟨x,h,h'⟩,e=>by rw[Nat.add_right_comm];exact⟨x,h,Wk.add h' e⟩
theorem Wk.split:∀{n m:Nat} {i k:Int},Wk as (n+m) i k->∃j,Wk as n i j/\Wk as m j k
 | 0,m,i,k,h=>by rw[Nat.zero_add] at h;exact⟨i,rfl,h⟩
 | n+1,m,i,k,h=>by
  rw[Nat.add_right_comm] at h
  obtain⟨x,h1,h2⟩:=h
  obtain⟨j,h3,h4⟩:=Wk.split h2
  exact⟨j,⟨x,h1,h3⟩,h4⟩
theorem Wk.closed{C:Int->Prop}(c:∀x y,C x->(x,y)∈as->C y):∀{n:Nat} {i j:Int},C i->Wk as n i j->C j
 | 0,i,j,h,e=>by cases(show i=j from e);exact h
 | n+1,i,j,h,⟨m,e,w⟩=>Wk.closed c (c i m h e) w
theorem Wk.back:∀{n:Nat} {i j:Int},Wk as n i j->Wk (as.map Prod.swap) n j i
 | 0,i,j,h=>Eq.symm h
 | n+1,i,j,⟨m,e,w⟩=>Wk.snoc (Wk.back w) (qB.mpr ⟨(i,m),e,rfl⟩)
theorem V1{i j:Int}:j∈vR as i↔(i,j)∈as:=by
 unfold vR
 rw[qB]
 constructor
 ·rintro⟨⟨a,b⟩,h,rfl⟩
  obtain⟨h1,h2⟩:=jn.mp h
  rw[<- qZ h2]
  exact h1
 ·intro h
  exact⟨(i,j),jn.mpr ⟨h,qQ rfl⟩,rfl⟩
end
theorem Jh(as:List (Int×Int)):(as.map Prod.swap).map Prod.swap=as:=by
 rw[vO]
 exact List.map_id'' (fun _=>rfl) as
def dkI(ps:List (Int×Int)):List (Key×V):=ps.map fun p=>(Sum.inl p.1,V.int p.2)
theorem zaR(ps:List (Int×Int)):(dkI ps).length=ps.length:=zq _
theorem XJ:∀(ps:List (Int×Int)) (i:Int),(∃v,jq (dkI ps) (Sum.inl i)=some (.int v)/\i∈ps.map (·.1))\/(jq (dkI ps) (Sum.inl i)=none/\i∉ps.map (·.1))
 | [],i=>.inr ⟨rfl,by simp⟩
 | p::ps,i=>by
  by_cases h:p.1=i
  ·exact .inl ⟨p.2,jI (by show Sum.inl p.1=_;rw[h]),by simp[h]⟩
  ·have e:jq (dkI (p::ps)) (Sum.inl i)=jq (dkI ps) (Sum.inl i):=jJ (fun z=>h (wY z))
   rcases XJ ps i with ⟨v,h1,h2⟩ | ⟨h1,h2⟩
   ·exact .inl ⟨v,e.trans h1,by simp only[xx,zZ];exact .inr h2⟩
   ·exact .inr ⟨e.trans h1,by simp only[xx,zZ];rintro(z | z);exact h z.symm;exact h2 z⟩
theorem zeT{ps:List (Int×Int)}{i v:Int}(h:jq (dkI ps) (Sum.inl i)=none):xG (dkI ps) (Sum.inl i) (.int v)=dkI (ps++[(i,v)]):=by
 rw[VO _ h]
 unfold dkI
 rw[zX]
 rfl
theorem JJ{α:Type}[DecidableEq α]:∀{l m:List α},l.Nodup->(∀x∈l,x∈m)->l.length<=m.length
 | [],_,_,_=>qe _
 | x::l,m,h,s=>by
  have hx:=s x (by simp)
  have h':=yr.mp h
  have:=JJ (l:=l) (m:=m.erase x) h'.2 fun y hy=>(List.mem_erase_of_ne (fun e:y=x=>h'.1 (e▸hy))).mpr (s y (jv _ hy))
  rw[Yy hx] at this
  have:=Yu hx
  rw[xU];omega
def InN(n:Nat)(i:Int):Prop:=0<=i/\i<n
theorem wj{n:Nat}{l:List Int}(h:l.Nodup)(s:∀x∈l,InN n x):l.length<=n:=by
 have:=JJ (m:=(List.range n).map fun k:Nat=>(k:Int)) h fun x hx=>by
  obtain⟨h0,h1⟩:=s x hx
  exact qB.mpr ⟨x.toNat,vd.mpr (by omega),by omega⟩
 rwa[zq,vQ] at this
theorem yi{α:Type}{l:List α}{x:α}(h:l.Nodup)(hx:x∉l):(l++[x]).Nodup:=by
 rw[List.nodup_append]
 exact⟨h,by simp,fun a ha b hb e=>hx (by rw[qo] at hb;rw[<- hb,<- e];exact ha)⟩
structure RowsOk(H:Hp)(rk:List (Key×V))(as:List (Int×Int)):Prop where
 at_:∀i v,jq rk (Sum.inl i)=some v->∃l,v=.ref l/\H l=some (.lst ((vR as i).map V.int))
 no:∀i,jq rk (Sum.inl i)=none->vR as i=[]
theorem RowsOk.same{H H':Hp}{rk:List (Key×V)}{as:List (Int×Int)}(r:RowsOk H rk as)(s:Same H H'):RowsOk H' rk as:=⟨fun i v e=>let ⟨l,a,b⟩:=r.at_ i v e;⟨l,a,s _ _ b⟩,r.no⟩
def WSt(H:Hp)(as:List (Int×Int))(n:Nat)(s:Int)(r d:Addr)(m:Nat)(σ:St)(H':Hp):Prop:=
 ∃(e:Addr) (es:List Int) (ps:List (Int×Int)) (v4 v5 v6:Option V),σ=[some (.int s),some (.ref r),some (.ref d),some (.ref e),v4,v5,v6]/\H e=none/\e≠d/\H' e=some (.lst (es.map V.int))/\H' d=some (.dK (dkI ps))/\Same H H' /\
  (ps.map (·.1)).Nodup/\(∀j∈ps.map (·.1),∃k,Wk as k s j)/\s∈ps.map (·.1)/\(∀j∈es,j∈ps.map (·.1))/\(∀x∈ps.map (·.1),x∉es->∀y,(x,y)∈as->y∈ps.map (·.1))/\es.length<=60/\m=2*(n-ps.length)+(if es=[] then 0 else 1)
structure RSt(as:List (Int×Int))(s:Int)(d l:Addr)(ps:List (Int×Int))(H H':Hp)(qs:List (Int×Int))(rs:List Int):Prop where
 hd:H' d=some (.dK (dkI qs))
 hl:H' l=some (.lst (rs.map V.int))
 sm:Same H H'
 nd:(qs.map (·.1)).Nodup
 snd:∀j∈qs.map (·.1),∃k,Wk as k s j
 eq:qs.map (·.1)=ps.map (·.1)++rs
section
variable{P:Program}{w:World}{K:PySem.W.Frag}{mg:Str->Option Value}{base:Heap}
inductive Jw(K:PySem.W.Frag)(vs:List V)(H:Hp)(Q:VK):Prop
 | mk (s:Int) (r:Addr) (rk:List (Key×V)) (as:List (Int×Int)) (n:Nat) (_:vs=[.int s,.ref r]) (_:H r=some (.dK rk)) (_:RowsOk H rk as) (_:n<=60) (_:InN n s) (_:(∀p∈as,InN n p.2)) (_:as.length<=1000) (_:∀(d:Addr) (ps:List (Int×Int)) H',Same H H'->H d=none->H' d=some (.dK (dkI ps))->(ps.map (·.1)).Nodup->ps.length<=n->(∀j,j∈ps.map (·.1)↔∃k,Wk as k s j)->Q (.ref d) H'):Jw K vs H Q
def YR(K:PySem.W.Frag):Sp:=fun vs H Q _=>Jw K vs H Q
theorem zah:zF ["start", "rows", "steps", "edge", "reached", "part", "other"] ["start", "rows"] (zt (topL 6)):=⟨rfl,rfl,rfl,by decide +kernel,rfl,by decide +kernel,by decide +kernel⟩
theorem zc2{f:Addr}{fd:FuncData}(F:Fun K "steps_from" "steps_from" (topL 6) f fd)(B:Blt mg):qH P w K mg base CX0 1 f fd ["start", "rows"] (YR K):=by
 have nd:=zah.nd
 refine F.ok zah (fun vs H Q E h=>?_) (fun cdv A outer s H vs Q E hr h=>?_)
 ·obtain⟨s,r,rk,as,n,rfl,_⟩:=h
  rfl
 ·obtain⟨s,r,rk,as,n,rfl,hR,ro,n60,ins,ina,al,k⟩:=h
  have hbig:100000<sizeLine:=by rw[sizeLine_eq];decide
  have hu1:=QE hr
  refine⟨_,(zg (zC (i:=2) nd rfl (Or.inl rfl) (Xr (xQ (pv 0) zf Xo) rfl rfl (by intro z;cases z) (by show 1<=15;decide)))
   (zg (zC (i:=3) nd rfl (Or.inl rfl) (zN (za (pv 0) ze)))
   (zg (VP ju (zec (pv 3))
   (zg (zC (i:=4) nd rfl (Or.inl rfl) (zN ze))
    (zg (qW ju rfl (qJ (pv 3)) (zy (i:=5) nd rfl (Or.inl rfl))
    (zo (qW ju rfl (qJ (zcV hu1 (pv 1) (pv 5) (zN ze) ⟨rfl,rfl,rfl,rfl⟩)) (zy (i:=6) nd rfl (Or.inl rfl))
     (zo (je (zf5 (zbz hu1 (pv 6) (pv 2)))
      (zg (Xn hu1 (pv 2) (pv 6) (zA qw (qL hu1 (pv 2) (pv 5) (fun _ _=>rfl)) zf) rfl)
       (zo (z7 (jm jh jV jU z9 (pv 4) (za (pv 6) ze)))))
      qI)))))
    (zo (zC (i:=3) nd rfl (Or.inl rfl) (pv 4))))))
   (zo (zE (pv 2)))))),?_⟩
  refine fun d hd=>⟨_,rfl,zb,[(Sum.inl s,.int 0)],rfl,(by show 1<=15;decide),_,rfl,le1,fun e he=>?_⟩
  have ed:e≠d:=fun z=>by rw[z,zb] at he;cases he
  have e0:H e=none:=by rw[zi ed,zi ed] at he;exact he
  have s0:Same H (upd (upd (upd H d (.dK [])) d (.dK (jE [] [(Sum.inl s,V.int 0)]))) e (.lst [.int s])):=fun c o z=>by rw[zi (zn z e0),zi (zn z hd),zi (zn z hd)];exact z
  have dd0:(upd (upd (upd H d (.dK [])) d (.dK (jE [] [(Sum.inl s,V.int 0)]))) e (.lst [.int s])) d=some (.dK (dkI [(s,0)])):=by rw[zi (qy ed),zb];rfl
  have ee0:(upd (upd (upd H d (.dK [])) d (.dK (jE [] [(Sum.inl s,V.int 0)]))) e (.lst [.int s])) e=some (.lst ([s].map V.int)):=zb
  generalize upd (upd (upd H d (.dK [])) d (.dK (jE [] [(Sum.inl s,V.int 0)]))) e (.lst [.int s])=H1 at s0 dd0 ee0
  refine⟨WSt H as n s r d,⟨_,e,[s],[(s,0)],_,_,_,rfl,e0,ed,ee0,dd0,s0,by simp,fun j hj=>⟨0,by simp at hj;exact hj.symm⟩,by simp,by simp,fun x hx hn=>absurd hx (by simpa using hn),by simp,rfl⟩,?_⟩
  rintro m σ H2 ⟨e,es,ps,v4,v5,v6,rfl,en,ned,he2,hd2,s2,nd2,snd,hs2,sub2,cl2,el,rfl⟩
  have inn:∀j∈ps.map (·.1),InN n j:=fun j hj=>by
   obtain⟨k,wk⟩:=snd j hj
   exact Wk.closed (C:=InN n) (fun x y _ h=>ina _ h) ins wk
  have pl:ps.length<=n:=by have:=wj nd2 inn;rwa[zq] at this
  refine⟨_,rfl,e,_,rfl,SqL.of he2,?_⟩
  cases es with
  | nil=>
   refine ifF (by rfl) ?_
   refine⟨_,rfl,k d ps H2 s2 hd hd2 nd2 pl fun j=>⟨snd j,fun ⟨k,wk⟩=>Wk.closed (C:=fun j=>j∈ps.map (·.1)) (fun x y hx h=>cl2 x hx (by simp) y h) hs2 wk⟩⟩
  | cons e1 er=>
   refine ifT (by rfl) ?_
   refine⟨fun σ' H'=>∃m',m'<2*(n-ps.length)+(if e1::er=[] then 0 else 1)/\WSt H as n s r d m' σ' H',fun _ _ h=>h,?_⟩
   refine⟨le0,fun l hl=>?_⟩
   have lH:H l=none:=by
    cases z:H l with
    | none=>rfl
    | some o=>rw[s2 _ _ z] at hl;cases hl
   have ld:l≠d:=fun z=>by rw[z,hd2] at hl;cases hl
   have le:l≠e:=fun z=>by rw[z,he2] at hl;cases hl
   refine⟨_,rfl,e,rfl,⟨_,SqL.of ((zd hl) _ _ he2)⟩,xc (K:=K) (a:=e) (xs:=(e1::er).map V.int) (fun i σ H'=>Ex4 fun(v5 v6:Option V) (qs:List (Int×Int)) (rs:List Int)=>An4 (σ=[some (.int s),some (.ref r),some (.ref d),some (.ref e),some (.ref l),v5,v6]) (H' e=some (.lst ((e1::er).map V.int))) (RSt as s d l ps H H' qs rs) ((∀x∈(e1::er).take i,∀y,(x,y)∈as->y∈qs.map (·.1))))
    ⟨_,_,ps,[],rfl,(zd hl) _ _ he2,⟨(zd hl) _ _ hd2,zb,s2.trans (zd hl),nd2,snd,by simp⟩,by simp⟩ (fun i σ H' _ ⟨_,_,_,_,_,h,_,_⟩=>SqL.of h) ?_ ?_⟩
   ·rintro i x σ H3 hx ⟨v5,v6,qs,rs,rfl,he3,R3,cl3⟩
    rw[qr] at hx
    obtain⟨x,ex,rfl⟩:=jb.mp hx
    have et:(e1::er).take (i+1)=(e1::er).take i++[x]:=by
     obtain⟨h1,h2⟩:=zW.mp ex
     rw[<- h2,yb]
    have xk:x∈ps.map (·.1):=sub2 x (qU ex)
    have xq:x∈qs.map (·.1):=by rw[R3.eq];exact vw _ xk
    refine⟨_,rfl,r,rfl,.inl ⟨_,.inl (R3.sm _ _ hR)⟩,_,rfl,le0,fun q hq=>?_⟩
    have sq:=zd (H:=H3) (o:=.lst []) hq
    have qd:q≠d:=fun z=>by rw[z,R3.hd] at hq;cases hq
    have ql:q≠l:=fun z=>by rw[z,R3.hl] at hq;cases hq
    refine⟨_,.inl ⟨rk,Sum.inl x,.inl (sq _ _ (R3.sm _ _ hR)),rfl,rfl⟩,?_⟩
    have tt:∃t,(jq rk (Sum.inl x)).getD (.ref q)=.ref t/\upd H3 q (.lst []) t=some (.lst ((vR as x).map V.int))/\t≠d/\t≠l:=by
     cases z:jq rk (Sum.inl x) with
     | none=>exact⟨q,rfl,by rw[ro.no x z];exact zb,qd,ql⟩
     | some v=>
      obtain⟨t,rfl,ht⟩:=ro.at_ x v z
      exact⟨t,rfl,sq _ _ (R3.sm _ _ ht),zn ht hd,zn ht lH⟩
    obtain⟨t,etq,ht,td,tl⟩:=tt
    rw[etq]
    refine⟨t,rfl,⟨_,SqL.of ht⟩,xc (K:=K) (a:=t) (xs:=(vR as x).map V.int) (fun k σ H'=>Ex3 fun(v6:Option V) (qs:List (Int×Int)) (rs:List Int)=>An6 (σ=[some (.int s),some (.ref r),some (.ref d),some (.ref e),some (.ref l),some (.int x),v6]) (H' e=some (.lst ((e1::er).map V.int))) (H' t=some (.lst ((vR as x).map V.int))) (RSt as s d l ps H H' qs rs) ((∀x∈(e1::er).take i,∀y,(x,y)∈as->y∈qs.map (·.1))) (∀y∈(vR as x).take k,y∈qs.map (·.1)))
     ⟨_,qs,rs,rfl,sq _ _ he3,ht,⟨sq _ _ R3.hd,sq _ _ R3.hl,R3.sm.trans sq,R3.nd,R3.snd,R3.eq⟩,cl3,by simp⟩ (fun i σ H' _ ⟨_,_,_,_,_,h,_,_,_⟩=>SqL.of h) ?_ ?_⟩
    ·rintro j y σ H4 hy ⟨v6,qs,rs,rfl,he4,ht4,R4,cl4,dn4⟩
     rw[qr] at hy
     obtain⟨y,ey,rfl⟩:=jb.mp hy
     have ety:(vR as x).take (j+1)=(vR as x).take j++[y]:=by
      obtain⟨h1,h2⟩:=zW.mp ey
      rw[<- h2,yb]
     have xy:(x,y)∈as:=V1.mp (qU ey)
     have xk4:x∈qs.map (·.1):=by rw[R4.eq];exact vw _ xk
     refine⟨_,rfl,_,rfl,d,_,rfl,.inl ⟨_,Sum.inl y,.inl R4.hd,rfl,rfl⟩,?_⟩
     rcases XJ qs y with ⟨v,hv,my⟩ | ⟨hv,my⟩
     ·rw[hv]
      refine⟨_,rfl,ifF (by rfl) ?_⟩
      refine⟨_,qs,rs,rfl,he4,ht4,R4,cl4,fun z hz=>?_⟩
      rw[ety] at hz
      rcases qT.mp hz with h | h
      ·exact dn4 z h
      ·rw[qo.mp h];exact my
     ·rw[hv]
      refine⟨_,rfl,ifT (by rfl) ?_⟩
      rcases XJ qs x with ⟨vx,hvx,_⟩ | ⟨_,z⟩
      ·have inq:∀j∈qs.map (·.1),InN n j:=fun j hj=>by
        obtain⟨k,wk⟩:=R4.snd j hj
        exact Wk.closed (C:=InN n) (fun x y _ h=>ina _ h) ins wk
       have ql:qs.length<=n:=by have:=wj R4.nd inq;rwa[zq] at this
       have lq:qs.length=ps.length+rs.length:=by
        have:=congrArg List.length R4.eq
        rwa[zV,zq,zq] at this
       refine⟨_,rfl,_,rfl,d,_,rfl,.inl ⟨_,Sum.inl x,.inl R4.hd,rfl,hvx.symm⟩,_,_,rfl,rfl,_,rfl,_,rfl,d,_,rfl,.inl ⟨_,Sum.inl y,R4.hd,rfl,by rw[zaR];omega,rfl⟩,?_⟩
       rw[zeT hv]
       have H5l:upd H4 d (.dK (dkI (qs++[(y,vx+1)]))) l=some (.lst (rs.map V.int)):=by rw[zi ld];exact R4.hl
       refine⟨_,rfl,.inl ⟨rfl,_,SqL.of H5l⟩,_,rfl,l,_,_,rfl,rfl,H5l,by rw[zq];omega,?_⟩
       refine⟨_,qs++[(y,vx+1)],rs++[y],rfl,by rw[zi (qy le),zi ned];exact he4,by rw[zi tl,zi td];exact ht4,⟨by rw[zi (qy ld)];exact zb,by rw[zb,zX];rfl,fun c o z=>by rw[zi (zn z lH),zi (zn z hd)];exact R4.sm _ _ z,?_,?_,by rw[zX,R4.eq,jC];rfl⟩,fun z hz u hu=>?_,fun z hz=>?_⟩
       ·rw[zX]
        exact yi R4.nd my
       ·intro z hz
        rw[zX] at hz
        rcases qT.mp hz with h | h
        ·exact R4.snd z h
        ·obtain⟨k,wk⟩:=R4.snd x xk4
         rw[qo.mp h]
         exact⟨k+1,wk.snoc xy⟩
       ·rw[zX]
        exact vw _ (cl4 z hz u hu)
       ·rw[ety] at hz
        rw[zX]
        rcases qT.mp hz with h | h
        ·exact vw _ (dn4 z h)
        ·exact jL _ h
      ·exact absurd xk4 z
    ·rintro σ H4 ⟨v6,qs,rs,rfl,he4,ht4,R4,cl4,dn4⟩
     rw[zq,qX] at dn4
     refine⟨_,_,qs,rs,rfl,he4,R4,fun z hz y hy=>?_⟩
     rw[et] at hz
     rcases qT.mp hz with h | h
     ·exact cl4 z h y hy
     ·rw[qo.mp h] at hy
      exact dn4 y (V1.mpr hy)
   ·rintro σ H3 ⟨v5,v6,qs,rs,rfl,he3,R3,cl3⟩
    rw[zq,qX] at cl3
    have inq:∀j∈qs.map (·.1),InN n j:=fun j hj=>by
     obtain⟨k,wk⟩:=R3.snd j hj
     exact Wk.closed (C:=InN n) (fun x y _ h=>ina _ h) ins wk
    have ql:qs.length<=n:=by have:=wj R3.nd inq;rwa[zq] at this
    have lq:qs.length=ps.length+rs.length:=by
     have:=congrArg List.length R3.eq
     rwa[zV,zq,zq] at this
    refine⟨_,rfl,2*(n-qs.length)+(if rs=[] then 0 else 1),?_,l,rs,qs,_,_,_,rfl,lH,ld,R3.hl,R3.hd,R3.sm,R3.nd,R3.snd,by rw[R3.eq];exact vw _ hs2,fun j hj=>by rw[R3.eq];exact jL _ hj,fun x hx hn y hy=>?_,by omega,rfl⟩
    ·rw[zx (by simp:¬e1::er=[])]
     split
     ·omega
     ·rename_i h
      have:=X8.mpr h
      omega
    ·rw[R3.eq] at hx
     rcases qT.mp hx with h | h
     ·by_cases hx2:x∈e1::er
      ·exact cl3 x hx2 y hy
      ·rw[R3.eq];exact vw _ (cl2 x h hx2 y hy)
     ·exact absurd h hn
theorem ze4{ms ns:List Int}(p:ms.Perm ns)(nd:ns.Nodup)(h:ms.Pairwise (·<= ·)):ms.Pairwise (·< ·):=by
 have n':ms.Pairwise (·≠ ·):=p.nodup_iff.mpr nd
 exact(h.and n').imp fun ⟨a,b⟩=>by omega
inductive zae(K:PySem.W.Frag)(vs:List V)(H:Hp)(Q:VK):Prop
 | mk (s:Int) (r:Addr) (rk:List (Key×V)) (as:List (Int×Int)) (n:Nat) (_:vs=[.int s,.ref r]) (_:H r=some (.dK rk)) (_:RowsOk H rk as) (_:n<=60) (_:InN n s) (_:(∀p∈as,InN n p.2)) (_:as.length<=1000) (_:∀(l:Addr) (ms:List Int) H',Same H H'->H l=none->H' l=some (.lst (ms.map V.int))->ms.length<=60->ms.Pairwise (·< ·)->(∀j,j∈ms↔j≠s/\∃k,Wk as k s j)->Q (.ref l) H'):zae K vs H Q
def zff(K:PySem.W.Frag):Sp:=fun vs H Q _=>zae K vs H Q
theorem zfv:zF ["part", "rows"] ["part", "rows"] (zt (topL 7)):=⟨rfl,rfl,rfl,by decide +kernel,rfl,by decide +kernel,by decide +kernel⟩
theorem zgy{f:Addr}{fd:FuncData}(F:Fun K "all_from" "all_from" (topL 7) f fd)(B:Blt mg)(Dsteps_from:Dfn P w K mg base "steps_from" 1 ["start", "rows"] (YR K)):qH P w K mg base CX0 2 f fd ["part", "rows"] (zff K):=by
 have nd:=zfv.nd
 refine F.ok zfv (fun vs H Q E h=>?_) (fun cdv A outer s H vs Q E hr h=>?_)
 ·obtain⟨s,r,rk,as,n,rfl,_⟩:=h
  rfl
 ·obtain⟨s,r,rk,as,n,rfl,hR,ro,n60,ins,ina,al,k⟩:=h
  have hbig:100000<sizeLine:=by rw[sizeLine_eq];decide
  refine⟨_,(zo (zE (zp xC rfl B.sorted xw (za (xa ["part"] [0] rfl rfl (by kernel_rfl) (zcS (zk Dsteps_from (hr.mono (by decide)) rfl (za (pv 0) (za (pv 1) ze)))) (fun _ _ _ _=>(xX (zO zcY (pv 0) (pv 1) (zQ _)))) (fun _ _ _ _=>(pv 0))) ze)))),?_⟩
  refine⟨_,rfl,_,rfl,s,r,rk,as,n,rfl,hR,ro,n60,ins,ina,al,fun d ps H1 s1 hd hd1 nd1 lp mem=>⟨d,_,rfl,hd1,fun o=>zdh (d:=d) (o:=o) (kvs:=dkI ps) (fun i zs H'=>zs=(((ps.take i).map (·.1)).filter fun j=>decide (j≠s)).map V.int/\H'=upd H1 d (.frz o (.dK (dkI ps)))) ⟨rfl,rfl⟩ (fun i zs H' ⟨_,h⟩=>by rw[h];exact zb) ?_ ?_⟩⟩
  ·rintro i kk v zs H2 hx ⟨rfl,rfl⟩
   unfold dkI at hx
   rw[qr] at hx
   obtain⟨p,ep,e1⟩:=jb.mp hx
   cases e1
   have et:ps.take (i+1)=ps.take i++[p]:=by
    obtain⟨h1,h2⟩:=zW.mp ep
    rw[<- h2,yb]
   have hi:=(zW.mp ep).1
   rw[et,zX,vg,zX]
   have lf:=jR (fun j=>decide (j≠s)) ((ps.take i).map (·.1))
   rw[zq,qR] at lf
   refine⟨rfl,_,rfl,_,rfl,rfl,_,rfl,?_⟩
   by_cases c:p.1=s
   ·refine ifF (by show(!decide (V.int p.1=V.int s))=false;rw[c];simp) ⟨?_,rfl⟩
    simp[c]
   ·refine ifT (by show(!decide (V.int p.1=V.int s))=true;rw[xE (fun z=>c (V.int.inj z))];rfl) ⟨_,rfl,by rw[zq];omega,?_,rfl⟩
    simp[c,kV]
  ·rintro zs H2 ⟨rfl,rfl⟩
   rw[zaR,qX]
   have lf:=jR (fun j=>decide (j≠s)) (ps.map (·.1))
   rw[zq] at lf
   refine⟨by rw[zq];omega,fun l hl=>⟨l,(ps.map (·.1)).filter fun j=>decide (j≠s),rfl,SqL.of zb,by omega,fun l2 ms hl2 pm pw=>?_⟩⟩
   have ld:l≠d:=fun z=>by rw[z,zb] at hl;cases hl
   have h1l:H1 l=none:=by rw[zi ld] at hl;exact hl
   have s3:Same H (upd (upd H1 d (.frz o (.dK (dkI ps)))) l (.lst (((ps.map (·.1)).filter fun j=>decide (j≠s)).map V.int))):=fun c o z=>by
    rw[zi (zn (s1 _ _ z) h1l),zi (zn z hd)]
    exact s1 _ _ z
   refine k l2 ms _ (s3.trans (zd hl2)) ?_ zb (by rw[pm.length_eq];omega) (ze4 pm (nd1.filter _) pw) fun j=>?_
   ·cases z:H l2 with
    | none=>rfl
    | some o=>rw[s3 _ _ z] at hl2;cases hl2
   ·rw[pm.mem_iff,jn,mem j]
    constructor
    ·rintro⟨a,b⟩;exact⟨qZ b,a⟩
    ·rintro⟨a,b⟩;exact⟨b,qQ a⟩
def asI(J:Job):List (Int×Int):=J.as.map fun p=>((p.1:Int),(p.2:Int))
theorem zeZ(J:Job):(asI J).map prD=J.as.map jP:=by
 unfold asI
 rw[vO]
 rfl
theorem Qc(J:Job):(asI J).length=J.as.length:=zq _
inductive JE(K:PySem.W.Frag)(vs:List V)(H:Hp)(Q:VK):Prop
 | mk (s:Int) (p:Addr) (J:Job) (_:vs=[.ref p,.int s]) (_:Rep K H (xo J) (.ref p)) (_:J.ps.length<=60) (_:InN J.ps.length s) (_:(∀q∈asI J,InN J.ps.length q.1/\InN J.ps.length q.2)) (_:J.as.length<=300) (_:∀(l:Addr) (ms:List Int) H',Same H H'->H l=none->H' l=some (.lst (ms.map V.int))->ms.length<=60->ms.Pairwise (·< ·)->(∀j,j∈ms↔j≠s/\∃k,Wk (asI J) k j s)->Q (.ref l) H'):JE K vs H Q
def zaf(K:PySem.W.Frag):Sp:=fun vs H Q _=>JE K vs H Q
theorem QC{J:Job}{H:Hp}{p:Addr}(h:Rep K H (xo J) (.ref p)):∃(t:Addr) (x0 x1 x2 x3:V) (xs:List V),SqT K H p [x0,x1,x2,x3,.ref t]/\SqT K H t xs/\Reps K H ((asI J).map prD) xs:=by
 obtain⟨a,xs,e,qa,x0,_,rfl,_,x1,_,rfl,_,x2,_,rfl,_,x3,_,rfl,_,x4,r4,rfl,e4,rfl⟩:=h
 cases e
 obtain⟨t,ys,rfl,qt,ry⟩:=e4
 exact⟨t,_,_,_,_,ys,qa,qt,by rw[zeZ];exact ry⟩
theorem zao:zF ["job", "part"] ["job", "part"] (zt (topL 8)):=⟨rfl,rfl,rfl,by decide +kernel,rfl,by decide +kernel,by decide +kernel⟩
theorem zc9{f:Addr}{fd:FuncData}(F:Fun K "ahead_of" "ahead_of" (topL 8) f fd)(B:Blt mg)(Dturned:Dfn P w K mg base "turned" 1 ["pairs"] (YN K))(Dnext_by:Dfn P w K mg base "next_by" 1 ["pairs"] (zci K))(Dall_from:Dfn P w K mg base "all_from" 2 ["part", "rows"] (zff K)):qH P w K mg base CX0 3 f fd ["job", "part"] (zaf K):=by
 have nd:=zao.nd
 refine F.ok zao (fun vs H Q E h=>?_) (fun cdv A outer s H vs Q E hr h=>?_)
 ·obtain⟨s,p,J,rfl,_⟩:=h
  rfl
 ·obtain⟨s,p,J,rfl,rp,n60,ins,ina,al,k⟩:=h
  have hbig:100000<sizeLine:=by rw[sizeLine_eq];decide
  refine⟨_,(zo (zE (zk Dall_from (hr.mono (by decide)) rfl (za (pv 1) (za (zk Dnext_by (hr.mono (by decide)) rfl (za (zk Dturned (hr.mono (by decide)) rfl (za (zu qc (pv 0) zf (fun _ _=>rfl)) ze)) ze)) ze))))),?_⟩
  obtain⟨t,x0,x1,x2,x3,xs,qa,qt,rx⟩:=QC rp
  refine⟨_,rfl,_,rfl,p,_,_,_,rfl,rfl,qa,rfl,t,xs,asI J,rfl,qt,rx,by rw[Qc];omega,fun l0 ys H0 s0 hl0 ry=>?_⟩
  have em:((asI J).map Prod.swap).map prD=(asI J).map fun p=>prD p.swap:=by rw[vO];rfl
  refine⟨l0,ys,(asI J).map Prod.swap,rfl,.inl (SqL.of hl0),by rw[em];exact ry,by rw[zq,Qc];omega,fun d kvs H1 s1 hd hd1 nb=>?_⟩
  refine⟨s,d,kvs,(asI J).map Prod.swap,J.ps.length,rfl,hd1,⟨fun i v hv=>let ⟨l,a,_,b⟩:=nb.at_ i v hv;⟨l,a,b⟩,nb.no⟩,n60,ins,fun q hq=>?_,by rw[zq,Qc];omega,fun l ms H2 s2 hl hl2 mlen pw mem=>?_⟩
  ·obtain⟨q',hq',rfl⟩:=qB.mp hq
   exact(ina q' hq').1
  refine k l ms H2 (s0.trans (s1.trans s2)) ?_ hl2 mlen pw fun j=>?_
  ·cases z:H l with
   | none=>rfl
   | some o=>rw[s1 _ _ (s0 _ _ z)] at hl;cases hl
  ·rw[mem j]
   refine⟨fun ⟨a,k,b⟩=>⟨a,k,?_⟩,fun ⟨a,k,b⟩=>⟨a,k,b.back⟩⟩
   have:=b.back
   rwa[Jh] at this
def dkB(ks:List Int):List (Key×V):=ks.map fun j=>(Sum.inl j,V.bl true)
def Vg(ks:List Int)(j:Int):List Int:=if j∈ks then ks else ks++[j]
def yz(ks js:List Int):List Int:=js.foldl Vg ks
theorem zaS:∀(ks:List Int) (i:Int),(jq (dkB ks) (Sum.inl i)=some (.bl true)/\i∈ks)\/(jq (dkB ks) (Sum.inl i)=none/\i∉ks)
 | [],i=>.inr ⟨rfl,by simp⟩
 | p::ps,i=>by
  by_cases h:p=i
  ·exact .inl ⟨jI (by show Sum.inl p=_;rw[h]),by simp[h]⟩
  ·have e:jq (dkB (p::ps)) (Sum.inl i)=jq (dkB ps) (Sum.inl i):=jJ (fun z=>h (wY z))
   rcases zaS ps i with ⟨h1,h2⟩ | ⟨h1,h2⟩
   ·exact .inl ⟨e.trans h1,jv _ h2⟩
   ·exact .inr ⟨e.trans h1,by simp only[zZ];rintro(z | z);exact h z.symm;exact h2 z⟩
theorem zeU(ks:List Int)(j:Int):xG (dkB ks) (Sum.inl j) (.bl true)=dkB (Vg ks j):=by
 unfold Vg
 rcases zaS ks j with ⟨h1,h2⟩ | ⟨h1,h2⟩
 ·rw[zH h2]
  unfold xG
  rw[zH (by rw[vD,h1];rfl)]
  unfold dkB
  rw[vO]
  refine List.map_congr_left fun x _=>?_
  show(if(Sum.inl x:Key)=Sum.inl j then((Sum.inl x:Key),V.bl true) else(Sum.inl x,V.bl true))=_
  split<;>rfl
 ·rw[zx h2,VO _ h1]
  unfold dkB
  rw[zX]
  rfl
theorem Zp:∀(js ks:List Int),jE (dkB ks) (dkB js)=dkB (yz ks js)
 | [],ks=>rfl
 | j::js,ks=>by
  show jE (xG (dkB ks) (Sum.inl j) (.bl true)) (dkB js)=dkB (yz (Vg ks j) js)
  rw[zeU,Zp js]
theorem zdc{ks:List Int}{j x:Int}:x∈Vg ks j↔x∈ks\/x=j:=by
 unfold Vg
 split
 ·rename_i h
  constructor
  ·exact .inl
  ·rintro(z | z)
   ·exact z
   ·rw[z];exact h
 ·rw[qT,qo]
theorem vH:∀{js ks:List Int} {x:Int},x∈yz ks js↔x∈ks\/x∈js
 | [],ks,x=>by simp[yz]
 | j::js,ks,x=>by
  show x∈yz (Vg ks j) js↔_
  rw[vH,zdc,zZ,or_assoc]
theorem WM{ks:List Int}{j:Int}(h:ks.Nodup):(Vg ks j).Nodup:=by
 unfold Vg
 split
 ·exact h
 ·rename_i z
  exact yi h z
theorem yh:∀{js ks:List Int},ks.Nodup->(yz ks js).Nodup
 | [],_,h=>h
 | j::js,ks,h=>yh (js:=js) (WM h)
theorem Qa(ks:List Int):(dkB ks).length=ks.length:=zq _
theorem Ju{α:Type}{l:List α}{i:Nat}{x:α}(h:l[i]? =some x):l.take (i+1)=l.take i++[x]:=by
 obtain⟨h1,h2⟩:=zW.mp h
 rw[<- h2,yb]
structure Ov(H H':Hp)(ds:List Addr)(κ:Nat->List Int):Prop where
 nd:ds.Nodup
 at_:∀(p:Nat) (d:Addr),ds[p]? =some d->H d=none/\H' d=some (.dK (dkB (κ p)))
 sm:Same H H'
theorem Ov.snoc{H H1 H2:Hp}{ds:List Addr}{κ:Nat->List Int}{d:Addr}(o:Ov H H1 ds κ)(s:Same H1 H2)(h1:H1 d=none)(h2:H2 d=some (.dK (dkB (κ ds.length)))):Ov H H2 (ds++[d]) κ:=by
 refine⟨yi o.nd fun z=>?_,fun p e he=>?_,o.sm.trans s⟩
 ·obtain⟨p,hp⟩:=List.getElem?_of_mem z
  rw[(o.at_ p d hp).2] at h1
  cases h1
 ·by_cases hp:p<ds.length
  ·rw[wz hp] at he
   exact⟨(o.at_ p e he).1,s _ _ (o.at_ p e he).2⟩
  ·rw[wA (by omega)] at he
   have:p=ds.length:=by
    have:=(zW.mp he).1
    simp at this;omega
   subst this
   simp at he
   subst he
   refine⟨?_,h2⟩
   cases z:H d with
   | none=>rfl
   | some o'=>rw[o.sm _ _ z] at h1;cases h1
def WY(as:List (Int×Int))(p:Nat):List Int:=yz [] ((as.filter fun q=>decide (q.2=(p:Int))).map (·.1))
theorem XO{ds:List Addr}{p:Nat}{d:Addr}(h:ds[p]? =some d):atI (ds.map V.ref) (p:Int)=some (.ref d):=by
 have hp:=(zW.mp h).1
 obtain⟨v,h1,h2⟩:=Zs (xs:=ds.map V.ref) (i:=(p:Int)) (by omega) (by rw[zq];omega)
 rw[h1,<- h2,vf,qr,h]
 rfl
theorem Ov.upd{H H':Hp}{ds:List Addr}{κ:Nat->List Int}{p:Nat}{d:Addr}(o:Ov H H' ds κ)(h:ds[p]? =some d)(ks:List Int):Ov H (upd H' d (.dK (dkB ks))) ds (fun x=>if x=p then ks else κ x):=by
 refine⟨o.nd,fun q e he=>⟨(o.at_ q e he).1,?_⟩,fun c o' z=>by rw[zi (zn z (o.at_ p d h).1)];exact o.sm _ _ z⟩
 by_cases c:q=p
 ·subst c
  rw[h] at he
  cases he
  rw[zb,zH rfl]
 ·have ne:e≠d:=fun z=>by
   subst z
   obtain⟨h1,h2⟩:=zW.mp h
   obtain⟨h3,h4⟩:=zW.mp he
   exact c ((Q3 o.nd).mp (h4.trans h2.symm))
  rw[zi ne,zx c]
  exact(o.at_ q e he).2
theorem Ov.same{H H' H2:Hp}{ds:List Addr}{κ:Nat->List Int}(o:Ov H H' ds κ)(s:Same H' H2):Ov H H2 ds κ:=⟨o.nd,fun p d h=>⟨(o.at_ p d h).1,s _ _ (o.at_ p d h).2⟩,o.sm.trans s⟩
def YE(as:List (Int×Int))(κ:Nat->List Int):Prop:=∀p:Nat,(κ p).Nodup/\∀q∈κ p,∃k,1<=k/\Wk as k q p
def ze2(as:List (Int×Int))(κ:Nat->List Int)(m p:Nat):Prop:=∀q k,1<=k->k<=m->Wk as k q p->q∈κ p
theorem V3{as:List (Int×Int)}{p:Nat}{q:Int}:q∈WY as p↔(q,(p:Int))∈as:=by
 unfold WY
 rw[vH,qB]
 constructor
 ·rintro(z | ⟨⟨a,b⟩,h,rfl⟩)
  ·exact absurd z (by simp)
  ·obtain⟨h1,h2⟩:=jn.mp h
   rw[<- qZ h2]
   exact h1
 ·intro h
  exact .inr ⟨_,jn.mpr ⟨h,qQ rfl⟩,rfl⟩
theorem zhP(as:List (Int×Int)):YE as (WY as):=fun p=>⟨yh W9,fun q h=>⟨1,zJ _,_,V3.mp h,rfl⟩⟩
theorem zhQ(as:List (Int×Int))(p:Nat):ze2 as (WY as) 1 p:=fun q k h1 h2 wk=>by
 cases(show k=1 by omega)
 obtain⟨m,h,e⟩:=wk
 cases(show m=(p:Int) from e)
 exact V3.mpr h
theorem Wk.rank{as:List (Int×Int)}{rk:Int->Nat}(h:∀q∈as,rk q.1<rk q.2):∀{k:Nat} {a b:Int},Wk as k a b->rk a+k<=rk b
 | 0,a,b,e=>by cases(show a=b from e);exact zJ _
 | k+1,a,b,⟨m,e,w⟩=>by
  have:=Wk.rank h w
  have:rk a<rk m:=h (a,m) e
  omega
theorem Wk.in1{as:List (Int×Int)}{n:Nat}(h:∀q∈as,InN n q.1/\InN n q.2):∀{k:Nat} {a b:Int},1<=k->Wk as k a b->InN n a
 | k+1,a,b,_,⟨m,e,w⟩=>(h _ e).1
theorem zeN{as:List (Int×Int)}{κ:Nat->List Int}{p o:Nat}(g:YE as κ)(h:(o:Int)∈κ p):YE as (fun x=>if x=p then yz (κ p) (κ o) else κ x):=fun x=>by
 dsimp only
 by_cases c:x=p
 ·subst c
  rw[zH rfl]
  refine⟨yh (g x).1,fun q hq=>?_⟩
  rcases vH.mp hq with z | z
  ·exact(g x).2 q z
  ·obtain⟨k1,a1,w1⟩:=(g o).2 q z
   obtain⟨k2,a2,w2⟩:=(g x).2 _ h
   exact⟨k1+k2,by omega,w1.add w2⟩
 ·rw[zx c]
  exact g x
theorem zbL{as:List (Int×Int)}{κ κ':Nat->List Int}{n m p:Nat}{ks:List Int}(ina:∀q∈as,InN n q.1/\InN n q.2)(f:∀x<n,ze2 as κ m x)(hp:p<n)(sub:∀x q,q∈κ x->q∈κ' x)(s1:∀q∈κ' p,q∈ks)(s2:∀o∈κ' p,∀q∈κ' o.toNat,q∈ks) :
  ∀q k,1<=k->k<=2*m->Wk as k q p->q∈ks:=fun q k h1 h2 wk=>by
 by_cases c:k<=m
 ·exact s1 q (sub p q (f p hp q k h1 c wk))
 ·have e:k=m+(k-m):=by omega
  rw[e] at wk
  by_cases m0:m=0
  ·omega
  obtain⟨j,w1,w2⟩:=wk.split
  have hj:=Wk.in1 ina (by omega) w2
  have ej:((j.toNat:Nat):Int)=j:=by have:=hj.1;omega
  have mj:=sub p j (f p hp j (k-m) (by omega) (by omega) w2)
  refine s2 j mj q (sub _ _ (f j.toNat (by have:=hj.1;have:=hj.2;omega) q m (by omega) (zJ _) ?_))
  rw[ej]
  exact w1
def Rws(H H':Hp)(mss:List (List Int))(zs:List V):Prop:=zs.length=mss.length/\∀(p:Nat) (ms:List Int),mss[p]? =some ms->∃a,zs[p]? =some (.ref a)/\H a=none/\H' a=some (.lst (ms.map V.int))
theorem Rws.same{H H' H'':Hp}{mss:List (List Int)}{zs:List V}(h:Rws H H' mss zs)(s:Same H' H''):Rws H H'' mss zs:=⟨h.1,fun p ms e=>by
 obtain⟨a,e1,e2,e3⟩:=h.2 p ms e
 exact⟨a,e1,e2,s _ _ e3⟩⟩
theorem Rws.snoc{H H':Hp}{mss:List (List Int)}{zs:List V}{l:Addr}{ms:List Int}(h:Rws H H' mss zs)(h0:H l=none)(e:H' l=some (.lst (ms.map V.int))):Rws H H' (mss++[ms]) (zs++[.ref l]):=by
 refine⟨by rw[zV,zV,h.1];rfl,fun p ms' e'=>?_⟩
 by_cases c:p<mss.length
 ·rw[wz c] at e'
  rw[wz (by rw[h.1];exact c)]
  exact h.2 p ms' e'
 ·rw[wA (by omega)] at e'
  rw[wA (by rw[h.1];omega),h.1]
  have:p-mss.length=0:=by
   have:=(zW.mp e').1
   simp at this;omega
  rw[this] at e' ⊢
  cases e'
  exact⟨l,rfl,h0,e⟩
inductive Vw(K:PySem.W.Frag)(vs:List V)(H:Hp)(Q:VK):Prop
 | mk (t:Addr) (xs:List V) (as:List (Int×Int)) (n:Nat) (rk:Int->Nat) (_:vs=[.int n,.ref t]) (_:(SqL K H t xs\/SqT K H t xs)) (_:Reps K H (as.map prD) xs) (_:as.length<=1000) (_:n<=60) (_:(∀q∈as,InN n q.1/\InN n q.2)) (_:(∀q∈as,rk q.1<rk q.2)) (_:(∀i,rk i<=60)) (_:∀(l:Addr) (mss:List (List Int)) H',Same H H'->H l=none->(∃zs,H' l=some (.lst zs)/\Rws H H' mss zs)->mss.length=n->(∀p ms,mss[p]? =some ms->ms.Pairwise (·< ·)/\∀j,j∈ms↔∃k,1<=k/\Wk as k j (p:Nat))->Q (.ref l) H'):Vw K vs H Q
def WC(K:PySem.W.Frag):Sp:=fun vs H Q _=>Vw K vs H Q
theorem zcz:zF ["_law_many", "_law_aheads_here", "_law_found", "_law_turn", "_law_part", "_law_one"] ["_law_many", "_law_aheads_here"] (zt (topL 45)):=⟨rfl,rfl,rfl,by decide +kernel,rfl,by decide +kernel,by decide +kernel⟩
theorem zev{f:Addr}{fd:FuncData}(F:Fun K "_law_over" "_law_over" (topL 45) f fd)(B:Blt mg):qH P w K mg base CX0 1 f fd ["_law_many", "_law_aheads_here"] (WC K):=by
 have nd:=zcz.nd
 refine F.ok zcz (fun vs H Q E h=>?_) (fun cdv A outer s H vs Q E hr h=>?_)
 ·obtain⟨t,xs,as,n,rk,rfl,_⟩:=h
  rfl
 ·obtain⟨t,xs,as,n,rk,rfl,ht,rp,al,n60,ina,rks,rk60,k⟩:=h
  have hbig:100000<sizeLine:=by rw[sizeLine_eq];decide
  have hu1:=QE hr
  have lx:=rp.len
  rw[zq] at lx
  refine⟨_,(zg (zf6 ["_law_aheads_here"] [1] rfl rfl (by kernel_rfl) (qz rfl B.range (za (pv 0) ze)) (fun _ _ _ _=>jw) (fun _ _ _ _=>(qA (W7 hr.hd) rfl B.dict zbS (za (zei (K:=K) rfl ["_law_part"] [0] rfl rfl (by kernel_rfl) (zeg (K:=K) rfl (pv 1)) (fun _ _ _ _=>(xX (zO jt (pv 1) (pv 2) (zQ _)))) (fun _ _ _ _=>(zY (za (pv 0) (za yI ze))))) ze))) (zy (i:=2) nd rfl (Or.inl rfl)))
   (zg (qW ju rfl (qz rfl B.range (za zf ze)) (zy (i:=3) nd rfl (Or.inl rfl))
   (zo (qW ju rfl (qz rfl B.range (za (pv 0) ze)) (zy (i:=4) nd rfl (Or.inl rfl))
    (zo (qW ju rfl (qJ (qA (Wl hr.hd) rfl B.list qG (za (zu zS (pv 2) (pv 4) (fun _ _=>rfl)) ze))) (zy (i:=5) nd rfl (Or.inl rfl))
     (zo (z7 (zaw (zu zS (pv 2) (pv 4) (fun _ _=>rfl)) (zu zS (pv 2) (pv 5) (fun _ _=>rfl)) ⟨rfl,rfl,rfl,rfl⟩))))))))
   (zo (zE (xa [] [] rfl rfl (by kernel_rfl) (qJ (pv 2)) (fun _ _ _ _=>jw) (fun _ _ _ _=>(zp (Jm hr.hd) rfl B.sorted xw (za (pv 0) ze)))))))),?_⟩
  have e62:(2:Int)^62=4611686018427387904:=by decide
  have l2:∀x y:V,[x,y].length<=sizeLine:=fun x y=>by rw[sizeLine_eq];show 2<=_;decide
  refine⟨_,rfl,_,rfl,(by rw[e62];omega),(by rw[e62];omega),yL (fun i zs H1=>∃ds:List Addr,zs=ds.map V.ref/\ds.length=i/\Ov H H1 ds (WY as)) ⟨[],rfl,rfl,W9,(fun p d e=>by simp at e),Same.refl _⟩ ?_ ?_⟩
  ·rintro i zs H1 hi ⟨ds,rfl,ld,ov⟩
   have rp1:=rp.same ov.sm
   have i0:(0:Int)+(i:Int)=(i:Int):=XT _
   rw[i0]
   refine⟨rfl,_,rfl,t,rfl,ht.elim (fun hL=>.inl ⟨⟨_,ov.sm.seq hL⟩,jH (K:=K) (a:=t) (xs:=xs) (fun j ys H2=>PrsL H2 ys (dkB (((as.take j).filter fun q=>decide (q.2=(i:Int))).map (·.1)))/\Same H1 H2) ⟨PrsL.nil,Same.refl _⟩ (fun j ys H2 ⟨_,sm⟩=>(ov.sm.trans sm).seq hL) ?s1 ?e1⟩)
    (fun hT=>.inr ⟨⟨_,ov.sm.sqT hT⟩,wq (K:=K) (a:=t) (xs:=xs) (fun j ys H2=>PrsL H2 ys (dkB (((as.take j).filter fun q=>decide (q.2=(i:Int))).map (·.1)))/\Same H1 H2) ⟨PrsL.nil,Same.refl _⟩ (fun j ys H2 ⟨_,sm⟩=>(ov.sm.trans sm).sqT hT) ?s2 ?e2⟩)⟩
   case s1 | s2=>
    rintro j x ys H2 hx ⟨pr,sm⟩
    obtain⟨dd,e1,r1⟩:=(rp1.same sm).get hx
    rw[qr] at e1
    obtain⟨q,eq,rfl⟩:=jb.mp e1
    obtain⟨a,ws,rfl,qa,x1,r1',rfl,e2,x2,r2',rfl,e3,e4⟩:=r1
    cases e2
    cases e3
    cases e4
    have hj:=(zW.mp eq).1
    rw[Ju eq,vg,zX]
    refine⟨a,_,rfl,qa,rfl,_,_,rfl,_,_,rfl,rfl,rfl,_,rfl,_,rfl,rfl,_,rfl,?_⟩
    by_cases c:q.2=(i:Int)
    ·refine ifT (by show decide (V.int q.2=V.int (i:Int))=true;rw[c];exact qQ rfl) ⟨_,rfl,l2 _ _,fun T hT=>⟨?_,?_,sm.trans (zd hT)⟩⟩
     ·have:=pr.1
      have:=jR (fun q:Int×Int=>decide (q.2=(i:Int))) (as.take j)
      rw[Qa,zq] at *
      rw[qR] at this
      omega
     ·rw[ZK,zH (qQ c)]
      have e:∀a b,dkB (a++b)=dkB a++dkB b:=fun a b=>zX
      rw[e]
      exact(pr.same (zd hT)).snoc (k:=Sum.inl q.1) zb
    ·refine ifF (by show decide (V.int q.2=V.int (i:Int))=false;exact xE fun z=>c (V.int.inj z)) ⟨?_,sm⟩
     rw[ZK,zx (by simpa using c)]
     simpa using pr
   case e1 | e2=>
    rintro ys H2 ⟨pr,sm⟩
    rw[lx,qX] at pr
    have ly:ys.length<=1000:=by
     have:=pr.1
     have:=jR (fun q:Int×Int=>decide (q.2=(i:Int))) as
     rw[Qa,zq] at *
     omega
    refine⟨by omega,fun l hl=>⟨l,ys,_,rfl,zb,pr.same (zd hl),fun d hd=>⟨by rw[zq];omega,ds++[d],by rw[zX];rfl,by rw[zV,ld];rfl,?_⟩⟩⟩
    have dl:d≠l:=fun z=>by rw[z,zb] at hd;cases hd
    have d2:H2 d=none:=by rw[zi dl] at hd;exact hd
    refine ov.snoc (d:=d) ((sm.trans (zd hl)).trans (zd hd)) ?_ ?_
    ·cases z:H1 d with
     | none=>rfl
     | some o'=>rw[sm _ _ z] at d2;cases d2
    ·rw[zb,ld]
     have:(jE [] (dkB ((as.filter fun q=>decide (q.2=(i:Int))).map (·.1))))=dkB (WY as i):=Zp _ []
     rw[this]
  ·rintro zs H1 ⟨ds,rfl,ld,ov⟩
   rw[vf] at ld
   have lr:(ds.map V.ref).length=n:=by rw[zq];exact ld
   refine⟨by omega,fun F hF=>?_⟩
   have F0:H F=none:=by
    cases z:H F with
    | none=>rfl
    | some o'=>rw[ov.sm _ _ z] at hF;cases hF
   refine⟨7,rfl,(by decide),(by decide),jc (fun t' σ H2=>Ex4 fun(v3 v4 v5:Option V) (κ:Nat->List Int)=>An5 (σ=[some (.int n),some (.ref t),some (.ref F),v3,v4,v5]) (H2 F=some (.lst (ds.map V.ref))) (Ov H H2 ds κ) (YE as κ) (∀x<n,ze2 as κ (2^t') x))
    ⟨_,_,_,WY as,rfl,zb,ov.same (zd hF),zhP as,fun x _=>zhQ as x⟩ ?_ ?_⟩
   ·rintro t' σ H2 ht' ⟨v3,v4,v5,κ,rfl,hF2,ov2,g2,f2⟩
    refine⟨_,rfl,_,rfl,(by rw[e62];omega),(by rw[e62];omega),jc (fun p σ H3=>Ex3 fun(v4 v5:Option V) (κ':Nat->List Int)=>An6 (σ=[some (.int n),some (.ref t),some (.ref F),some (.int (0+(t':Int))),v4,v5]) (H3 F=some (.lst (ds.map V.ref))) (Ov H H3 ds κ') (YE as κ') ((∀x q,q∈κ x->q∈κ' x)) (∀x<p,ze2 as κ' (2^(t'+1)) x))
     ⟨_,_,κ,rfl,hF2,ov2,g2,fun _ _ h=>h,fun x hx=>absurd hx (Nat.not_lt_zero _)⟩ ?_ ?_⟩
    ·rintro p σ H3 hp ⟨v4,v5,κ',rfl,hF3,ov3,g3,sub3,f3⟩
     rw[vf] at hp
     have i0:(0:Int)+(p:Int)=(p:Int):=XT _
     rw[i0]
     have ed:ds[p]? =some (ds[p]'(by omega)):=ji _
     generalize ds[p]'(by omega)=d at ed
     obtain⟨d0,hd3⟩:=ov3.at_ p d ed
     refine⟨_,rfl,_,rfl,F,_,_,_,rfl,rfl,SqL.of hF3,XO ed,d,_,rfl,.inl hd3,fun L hL=>⟨L,rfl,⟨_,SqL.of zb⟩,?_⟩⟩
     have em:(dkB (κ' p)).map (fun kv=>kV kv.1)=(κ' p).map V.int:=by
      unfold dkB
      rw[vO]
      rfl
     rw[em]
     have Ld:L≠d:=fun z=>by rw[z,hd3] at hL;cases hL
     refine xc (K:=K) (a:=L) (xs:=(κ' p).map V.int) (fun i σ H4=>Ex2 fun(v5:Option V) (ks:List Int)=>An7 (σ=[some (.int n),some (.ref t),some (.ref F),some (.int (0+(t':Int))),some (.int (p:Int)),v5]) (H4 F=some (.lst (ds.map V.ref))) (H4 L=some (.lst ((κ' p).map V.int))) (Ov H H4 ds (fun x=>if x=p then ks else κ' x)) (YE as (fun x=>if x=p then ks else κ' x)) ((∀q∈κ' p,q∈ks)) (∀o∈(κ' p).take i,∀q∈κ' o.toNat,q∈ks))
      ⟨_,κ' p,rfl,(zd hL) _ _ hF3,zb,?_,?_,fun _ h=>h,fun o ho=>absurd ho (by simp)⟩ (fun i σ H' _ ⟨_,_,_,_,h,_,_,_,_⟩=>SqL.of h) ?_ ?_
     ·have:(fun x=>if x=p then κ' p else κ' x)=κ':=funext fun x=>by by_cases c:x=p<;>simp[c]
      rw[this]
      exact ov3.same (zd hL)
     ·have:(fun x=>if x=p then κ' p else κ' x)=κ':=funext fun x=>by by_cases c:x=p<;>simp[c]
      rw[this]
      exact g3
     ·rintro i x σ H4 hx ⟨v5,ks,rfl,hF4,hL4,ov4,g4,a4,b4⟩
      rw[qr] at hx
      obtain⟨o,eo,rfl⟩:=jb.mp hx
      have mo:o∈κ' p:=qU eo
      obtain⟨k1,hk1,wk1⟩:=(g3 p).2 o mo
      obtain⟨o0,o1⟩:=Wk.in1 ina hk1 wk1
      have oi:((o.toNat:Nat):Int)=o:=by omega
      have nop:o.toNat≠p:=fun z=>by
       have:=wk1.rank rks
       rw[z] at oi
       rw[oi] at this
       omega
      have ee:ds[o.toNat]? =some (ds[o.toNat]'(by omega)):=ji _
      generalize ds[o.toNat]'(by omega)=e at ee
      have hd4:=(ov4.at_ p d ed).2
      have he4:=(ov4.at_ o.toNat e ee).2
      rw[zH rfl] at hd4
      rw[zx nop] at he4
      have nde:d≠e:=fun z=>by
       subst z
       obtain⟨h1,h2⟩:=zW.mp ed
       obtain⟨h3,h4⟩:=zW.mp ee
       exact nop ((Q3 ov4.nd).mp (h4.trans h2.symm))
      have ao:=XO ee
      rw[oi] at ao
      have inq:∀(κ:Nat->List Int),YE as κ->∀x,(κ x).length<=60:=fun κ g x=>by
       have:=wj (n:=n) (g x).1 fun q hq=>let ⟨k,h1,w⟩:=(g x).2 q hq;Wk.in1 ina h1 w
       omega
      have l1:=inq _ g4 p
      rw[zH rfl] at l1
      have l2:=inq _ g3 o.toNat
      have LF:L≠F:=fun z=>by rw[z,hF3] at hL;cases hL
      have Fd:F≠d:=fun z=>by rw[z,hd4] at hF4;cases hF4
      refine⟨_,rfl,_,rfl,F,_,_,_,rfl,rfl,SqL.of hF4,XO ed,d,rfl,.inl ⟨_,.inl hd4⟩,_,rfl,_,rfl,F,_,_,_,rfl,rfl,SqL.of hF4,ao,e,_,_,rfl,nde,hd4,he4,by rw[Qa,Qa];omega,?_⟩
      rw[Zp]
      have ef:(fun x=>if x=p then yz ks (κ' o.toNat) else(fun x=>if x=p then ks else κ' x) x)=fun x=>if x=p then yz ks (κ' o.toNat) else κ' x:=funext fun x=>by by_cases c:x=p<;>simp[c]
      have eg:(fun x=>if x=p then yz ((fun x=>if x=p then ks else κ' x) p) ((fun x=>if x=p then ks else κ' x) o.toNat) else(fun x=>if x=p then ks else κ' x) x)=fun x=>if x=p then yz ks (κ' o.toNat) else κ' x:=funext fun x=>by by_cases c:x=p<;>simp[c,nop]
      refine⟨_,yz ks (κ' o.toNat),rfl,by rw[zi Fd];exact hF4,by rw[zi Ld];exact hL4,?_,?_,fun q hq=>vH.mpr (.inl (a4 q hq)),fun z hz q hq=>?_⟩
      ·have:=ov4.upd ed (yz ks (κ' o.toNat))
       rw[ef] at this
       exact this
      ·have:=zeN (p:=p) (o:=o.toNat) g4 (by rw[zH rfl,oi];exact a4 o mo)
       rw[eg] at this
       exact this
      ·rw[Ju eo] at hz
       rcases qT.mp hz with h | h
       ·exact vH.mpr (.inl (b4 z h q hq))
       ·rw[qo.mp h] at hq
        exact vH.mpr (.inr hq)
     ·rintro σ H4 ⟨v5,ks,rfl,hF4,hL4,ov4,g4,a4,b4⟩
      rw[zq,qX] at b4
      refine⟨_,_,_,rfl,hF4,ov4,g4,fun x q hq=>?_,fun x hx=>?_⟩
      ·show q∈(if x=p then ks else κ' x)
       by_cases c:x=p
       ·rw[zH c]
        subst c
        exact a4 q (sub3 x q hq)
       ·rw[zx c]
        exact sub3 x q hq
      ·by_cases c:x=p
       ·subst c
        intro q k h1 h2 wk
        show q∈(if x=x then ks else κ' x)
        rw[zH rfl]
        exact zbL ina f2 hp sub3 a4 b4 q k h1 (by rw[Nat.pow_succ,Nat.mul_comm] at h2;exact h2) wk
       ·have:=f3 x (by omega)
        intro q k h1 h2 wk
        show q∈(if x=p then ks else κ' x)
        rw[zx c]
        exact this q k h1 h2 wk
    ·rintro σ H3 ⟨v4,v5,κ',rfl,hF3,ov3,g3,sub3,f3⟩
     rw[vf] at f3
     exact⟨_,_,_,κ',rfl,hF3,ov3,g3,f3⟩
   ·rintro σ H2 ⟨v3,v4,v5,κ,rfl,hF2,ov2,g2,f2⟩
    have all:∀(p:Nat),p<n->∀j,j∈κ p↔∃k,1<=k/\Wk as k j p:=fun p hp j=>⟨fun h=>(g2 p).2 j h,fun ⟨k,h1,wk⟩=>f2 p hp j k h1 (by have:=wk.rank rks;have:=rk60 (p:Int);show k<=128;omega) wk⟩
    refine⟨_,rfl,F,rfl,⟨_,SqL.of hF2⟩,jH (K:=K) (a:=F) (xs:=ds.map V.ref) (fun i zs H3=>Ex1 fun(mss:List (List Int))=>An4 (mss.length=i) (Rws H H3 mss zs) (Same H2 H3) (∀p ms,mss[p]? =some ms->ms.Pairwise (·< ·)/\∀j,j∈ms↔j∈κ p)) ⟨[],rfl,⟨rfl,fun p ms e=>by simp at e⟩,Same.refl _,fun p ms e=>by simp at e⟩ (fun i zs H3 ⟨_,_,_,sm,_⟩=>SqL.of (sm _ _ hF2)) ?_ ?_⟩
    ·rintro i x zs H3 hx ⟨mss,lm,rm,sm,am⟩
     rw[qr] at hx
     obtain⟨d,ed,rfl⟩:=jb.mp hx
     have hi:=(zW.mp ed).1
     have hd:=sm _ _ (ov2.at_ i d ed).2
     have lk:(κ i).length<=60:=by
      have:=wj (n:=n) (g2 i).1 fun q hq=>let ⟨k,h1,w⟩:=(g2 i).2 q hq;Wk.in1 ina h1 w
      omega
     have ek:dkB (κ i)=((κ i).map fun j=>(j,V.bl true)).map fun kv=>(Sum.inl kv.1,kv.2):=by unfold dkB;rw[vO];rfl
     have ek2:((κ i).map fun j=>(j,V.bl true)).map (·.1)=κ i:=by rw[vO];exact List.map_id'' (fun _=>rfl) _
     refine⟨rfl,_,rfl,d,(κ i).map fun j=>(j,V.bl true),rfl,.inl (by rw[<- ek];exact hd),by rw[zq];omega,fun l ms hl pm pw=>⟨?_,mss++[ms],by rw[zV,lm];rfl,?_,sm.trans (zd hl),fun p ms' e=>?_⟩⟩
     ·have:=rm.1
      omega
     ·exact(rm.same (zd hl)).snoc ((ov2.sm.trans sm).free hl) zb
     ·rw[ek2] at pm
      by_cases c:p<mss.length
      ·rw[wz c] at e
       exact am p ms' e
      ·rw[wA (by omega)] at e
       have:p=mss.length:=by
        have:=(zW.mp e).1
        simp at this;omega
       subst this
       simp at e
       subst e
       rw[lm]
       exact⟨ze4 pm (g2 i).1 pw,fun j=>pm.mem_iff⟩
    ·rintro zs H3 ⟨mss,lm,rm,sm,am⟩
     rw[lr] at lm
     have lz:=rm.1
     refine⟨by omega,fun l hl=>k l mss _ ((ov2.sm.trans sm).trans (zd hl)) ?_ ⟨zs,zb,rm.same (zd hl)⟩ lm fun p ms e=>?_⟩
     ·cases z:H l with
      | none=>rfl
      | some o'=>rw[(ov2.sm.trans sm) _ _ z] at hl;cases hl
     ·have hp:=(zW.mp e).1
      obtain⟨a,b⟩:=am p ms e
      exact⟨a,fun j=>by rw[b j,all p (by omega) j]⟩
theorem Same.none{H H1:Hp}{t:Addr}(s:Same H H1)(h:H1 t=Option.none):H t=Option.none:=s.free h
def atK(fs:List xH)(kd:Str)(n:Nat):List Nat:=(List.range n).filter fun i=>decide (fs[i]?.map xH.k=some kd)
theorem QR(fs:List xH)(kd:Str)(n:Nat):(atK fs kd n).length<=n:=ja (jR _ _) (by rw[vQ];exact zJ _)
theorem zaZ{fs:List xH}{kd:Str}{n:Nat}{f:xH}(h:fs[n]? =some f)(e:f.k=kd):atK fs kd (n+1)=atK fs kd n++[n]:=by
 unfold atK
 rw[Yd,vg,QV (by rw[h];exact qQ (by show some f.k=_;rw[e]))]
 rfl
theorem za0{fs:List xH}{kd:Str}{n:Nat}{f:xH}(h:fs[n]? =some f)(e:f.k≠kd):atK fs kd (n+1)=atK fs kd n:=by
 unfold atK
 rw[Yd,vg,ZN (by rw[h];simpa using e),Zu,qK]
theorem j6(os:List Nat)(n:Nat):zw (os++[n])=zw os++[.int (n:Int)]:=by
 unfold zw
 rw[zX]
 rfl
theorem xI{H:Hp}{J:Job}{jp:Addr}(h:Rep K H (xo J) (.ref jp)):∃(g fs ps as:Addr) (fv pv:List V),SqT K H jp [.ref g,.int J.hd,.ref fs,.ref ps,.ref as]/\Rep K H (.tup [.int J.gx,.int J.gy]) (.ref g)/\SqT K H fs fv/\Reps K H (J.fs.map xS) fv/\SqT K H ps pv/\Reps K H (J.ps.map j7) pv/\Rep K H (y4 J.as) (.ref as):=by
 obtain⟨a,xs,e,q,x0,r0,e0,h0,x1,r1,e1,h1,x2,r2,e2,h2,x3,r3,e3,h3,x4,r4,e4,h4,e5⟩:=h
 cases e
 subst e0 e1 e2 e3 e4
 have e5':r4=[]:=e5
 subst e5'
 have h1':x1=.int J.hd:=h1
 subst h1'
 obtain⟨g,gx,rfl,gq⟩:=h0
 obtain⟨fs,fx,rfl,fq,fr⟩:=h2
 obtain⟨ps,px,rfl,pq,pr⟩:=h3
 obtain⟨as,ax,rfl,aq⟩:=h4
 exact⟨g,fs,ps,as,fx,px,q,⟨g,gx,rfl,gq⟩,fq,fr,pq,pr,⟨as,ax,rfl,aq⟩⟩
inductive Y9(K:PySem.W.Frag)(vs:List V)(H:Hp)(Q:VK):Prop
 | mk (jp:Addr) (J:Job) (kd:Str) (_:vs=[.ref jp,.str kd]) (_:Rep K H (xo J) (.ref jp)) (_:J.fs.length<=100) (_:∀(l:Addr) H',H l=none->Same H H'->H' l=some (.lst (zw (atK J.fs kd J.fs.length)))->Q (.ref l) H'):Y9 K vs H Q
def zfd(K:PySem.W.Frag):Sp:=fun vs H Q _=>Y9 K vs H Q
theorem zfr:zF ["job", "kind"] ["job", "kind"] (zt (topL 9)):=⟨rfl,rfl,rfl,by decide +kernel,rfl,by decide +kernel,by decide +kernel⟩
theorem zgu{f:Addr}{fd:FuncData}(F:Fun K "feeders_for" "feeders_for" (topL 9) f fd)(B:Blt mg):qH P w K mg base CX0 1 f fd ["job", "kind"] (zfd K):=by
 have nd:=zfr.nd
 refine F.ok zfr (fun vs H Q E h=>?_) (fun cdv A outer s H vs Q E hr h=>?_)
 ·obtain⟨jp,J,kd,rfl,_⟩:=h
  rfl
 ·obtain⟨jp,J,kd,rfl,rj,fl,k⟩:=h
  have hbig:100000<sizeLine:=by rw[sizeLine_eq];decide
  obtain⟨g,fs,ps,as,fv,pxs,qj,_,qf,rf,qp,rp,_⟩:=xI rj
  have lf:=rf.len
  rw[zq] at lf
  refine⟨_,(zo (zE (vA ["kind"] [1] rfl rfl (by kernel_rfl) (VQ rfl B.enumerate (za (zu qc (pv 0) zf (fun _ _=>rfl)) ze)) (fun _ _ _ _=>(xX (zO jt (zu (qq (K:=K) rfl) (pv 1) zf (fun _ _=>rfl)) (pv 2) (zQ _)))) (fun _ _ _ _=>(pv 0))))),?_⟩
  refine⟨_,rfl,jp,_,_,_,rfl,rfl,qj,rfl,fs,rfl,⟨_,qf⟩,V5 (K:=K) (a:=fs) (xs:=fv) (fun i zs H3=>zs=zw (atK J.fs kd i)/\Same H H3) ⟨rfl,Same.refl _⟩ (fun i zs H3 ⟨_,s3⟩=>s3.sqT qf) ?_ ?_⟩
  ·rintro i x zs H3 T hx ⟨rfl,s3⟩ hT
   obtain⟨d,e1,r1⟩:=(rf.same s3).get hx
   rw[qr] at e1
   obtain⟨fe,efe,rfl⟩:=jb.mp e1
   have hi:=(zW.mp efe).1
   have sT:=s3.trans (zd (o:=.tup [.int (i:Int),x]) hT)
   obtain⟨fa,fc,rfl,qfa,_⟩:=xv (r1.same (zd (o:=.tup [.int (i:Int),x]) hT))
   have le:=QR J.fs kd i
   refine⟨T,_,rfl,SqT.of zb,rfl,_,_,rfl,_,_,rfl,rfl,rfl,?_⟩
   refine⟨_,rfl,fa,_,_,_,rfl,rfl,qfa,rfl,_,rfl,rfl,_,rfl,jA (fun c=>⟨_,rfl,?_,?_,sT⟩) (fun c=>⟨?_,sT⟩)⟩
   ·rw[zM];omega
   ·rw[zaZ efe (V.str.inj (qZ c)),j6]
   ·rw[za0 efe fun z=>c (qQ (by rw[z]))]
  ·rintro zs H3 ⟨rfl,s3⟩
   rw[lf]
   have le:=QR J.fs kd J.fs.length
   exact⟨by rw[zM];omega,fun l hl=>k l _ (s3.none hl) (s3.trans (zd hl)) zb⟩
def Vj(x1 y1 x2 y2:Int):Int:=if yw (y1-y2)>yw (x1-x2) then yw (y1-y2) else yw (x1-x2)
theorem zdV(a:Int):0<=yw a:=by unfold yw;split<;>omega
theorem zfL(x1 y1 x2 y2:Int):0<=Vj x1 y1 x2 y2:=by
 unfold Vj
 have:=zdV (y1-y2)
 have:=zdV (x1-x2)
 split<;>assumption
theorem zfM(x1 y1 x2 y2 t:Int):Vj x1 y1 x2 y2<=t↔yw (x1-x2)<=t/\yw (y1-y2)<=t:=by
 unfold Vj
 split<;>omega
theorem zfN{x1 y1 x2 y2:Int}(a:0<=x1)(b:x1<=1000)(c:0<=y1)(d:y1<=1000)(a':0<=x2)(b':x2<=1000)(c':0<=y2)(d':y2<=1000):Vj x1 y1 x2 y2<=1000:=by
 rw[zfM]
 unfold yw
 constructor<;>split<;>omega
def inB(p:Int×Int):Prop:=0<=p.1/\p.1<=1000/\0<=p.2/\p.2<=1000
def xr:List (Int×Int)->List Int
 | p::q::r=>Vj p.1 p.2 q.1 q.2::xr (q::r)
 | _=>[]
theorem xN:∀ps:List (Int×Int),(xr ps).length=ps.length-1
 | []=>rfl
 | [_]=>rfl
 | p::q::r=>by
  have:=xN (q::r)
  show(xr (q::r)).length+1=_
  rw[this];simp
theorem Qe:∀{ps:List (Int×Int)} {i:Nat} {p q:Int×Int},ps[i]? =some p->ps[i+1]? =some q->(xr ps)[i]? =some (Vj p.1 p.2 q.1 q.2)
 | [],_,_,_,h,_=>by simp at h
 | [_],i,_,_,_,h=>by simp at h
 | a::b::r,0,p,q,h1,h2=>by simp at h1 h2;subst h1;subst h2;rfl
 | a::b::r,i+1,p,q,h1,h2=>Qe (ps:=b::r) (i:=i) (by simpa using h1) (by simpa using h2)
theorem ZY:∀{ps:List (Int×Int)},(∀p∈ps,inB p)->∀z∈xr ps,0<=z/\z<=1000
 | [],_,z,h=>by cases h
 | [_],_,z,h=>by cases h
 | a::b::r,hb,z,h=>by
  rcases zZ.mp h with e | h
  ·have h1:=hb a (by simp)
   have h2:=hb b (by simp)
   rw[e]
   exact⟨zfL _ _ _ _,zfN h1.1 h1.2.1 h1.2.2.1 h1.2.2.2 h2.1 h2.2.1 h2.2.2.1 h2.2.2.2⟩
  ·exact ZY (ps:=b::r) (fun p hp=>hb p (jv _ hp)) z h
def plD(p:Int×Int):Dat:=.tup [.int p.1,.int p.2]
theorem zca:∀{l:List Int} {m:Int},(∀z∈l,0<=z/\z<=m)->0<=l.sum/\l.sum<=m*(l.length:Int)
 | [],m,_=>by simp
 | a::l,m,h=>by
  have h1:=h a (by simp)
  have h2:=zca (l:=l) (m:=m) fun z hz=>h z (jv _ hz)
  rw[List.sum_cons,xU]
  have:m*((l.length+1:Nat):Int)=m*(l.length:Int)+m:=by rw[Int.natCast_add,Int.mul_add];simp
  omega
theorem Z6{H:Hp}{p:Int×Int}{x:V}(h:Rep K H (plD p) x):∃a,x=.ref a/\SqT K H a [.int p.1,.int p.2]:=by
 obtain⟨pa,xs,rfl,qp',y0,r0,f0,g0,y1,r1',f1,g1,f2⟩:=h
 subst f0 f1
 cases(show r1'=[] from f2)
 cases(show y0=_ from g0)
 cases(show y1=_ from g1)
 exact⟨pa,rfl,qp'⟩
theorem WH{H:Hp}{a:Addr}{x y:Int}(h:SqT K H a [.int x,.int y]):Rep K H (plD (x,y)) (.ref a):=⟨a,_,rfl,h,_,_,rfl,rfl,_,_,rfl,rfl,rfl⟩
inductive YL(K:PySem.W.Frag)(vs:List V)(H:Hp)(Q:VK):Prop
 | mk (u v:V) (p q:Int×Int) (_:vs=[u,v]) (_:Rep K H (plD p) u) (_:Rep K H (plD q) v) (_:Q (.int (Vj p.1 p.2 q.1 q.2)) H):YL K vs H Q
def YM(K:PySem.W.Frag):Sp:=fun vs H Q _=>YL K vs H Q
theorem zhg:zF ["one", "other"] ["one", "other"] (zt (topL 1)):=⟨rfl,rfl,rfl,by decide +kernel,rfl,by decide +kernel,by decide +kernel⟩
theorem zgi{f:Addr}{fd:FuncData}(F:Fun K "way_between" "way_between" (topL 1) f fd)(B:Blt mg):qH P w K mg base CX0 1 f fd ["one", "other"] (YM K):=by
 refine F.ok zhg (fun vs H Q E h=>?_) (fun cdv A outer s H vs Q E hr h=>?_)
 ·obtain⟨u,v,p,q,rfl,_⟩:=h
  rfl
 ·obtain⟨u,v,p,q,rfl,hu',hv',k⟩:=h
  obtain⟨a,rfl,ha⟩:=Z6 hu'
  obtain⟨b,rfl,hb⟩:=Z6 hv'
  refine⟨_,(zo (zE (zp (Zq rfl) rfl B.max QN (za (zp vK rfl B.abs vN (za (zA xz (zu qc (pv 0) zf (fun _ _=>rfl)) (zu qc (pv 1) zf (fun _ _=>rfl))) ze)) (za (zp vK rfl B.abs vN (za (zA xz (zu qc (pv 0) zf (fun _ _=>rfl)) (zu qc (pv 1) zf (fun _ _=>rfl))) ze)) ze))))),?_⟩
  refine⟨_,rfl,a,_,_,_,rfl,rfl,ha,rfl,_,rfl,b,_,_,_,rfl,rfl,hb,rfl,_,_,rfl,rfl,_,rfl,_,rfl,a,_,_,_,rfl,rfl,ha,rfl,_,rfl,b,_,_,_,rfl,rfl,hb,rfl,_,_,rfl,rfl,_,rfl,_,_,rfl,k⟩
theorem JW(xs:List V):jB xs (some 1) none=xs.drop 1:=by
 unfold jB
 rw[show(some (1:Int))=some ((1:Nat):Int) from rfl,HT.sIx_nat,HT.sIx_none]
 cases xs with
 | nil=>rfl
 | cons x r=>
  have:min 1 (x::r).length=1:=by simp only[xU];omega
  rw[this]
  simp
inductive Y5(K:PySem.W.Frag)(vs:List V)(H:Hp)(Q:VK):Prop
 | mk (a:Addr) (xs:List V) (ps:List (Int×Int)) (_:vs=[.ref a]) (_:SqL K H a xs) (_:Reps K H (ps.map plD) xs) (_:(∀p∈ps,inB p)) (_:ps.length<=1000) (_:∀H',Same H H'->Q (.int (xr ps).sum) H'):Y5 K vs H Q
def zfa(K:PySem.W.Frag):Sp:=fun vs H Q _=>Y5 K vs H Q
theorem zfn:zF ["places"] ["places"] (zt (topL 2)):=⟨rfl,rfl,rfl,by decide +kernel,rfl,by decide +kernel,by decide +kernel⟩
theorem zgq{f:Addr}{fd:FuncData}(F:Fun K "length_of" "length_of" (topL 2) f fd)(B:Blt mg)(Dway_between:Dfn P w K mg base "way_between" 1 ["one", "other"] (YM K)):qH P w K mg base CX0 2 f fd ["places"] (zfa K):=by
 have nd:=zfn.nd
 refine F.ok zfn (fun vs H Q E h=>?_) (fun cdv A outer s H vs Q E hr h=>?_)
 ·obtain⟨a,xs,ps,rfl,_⟩:=h
  rfl
 ·obtain⟨a,xs,ps,rfl,hx,hp,hb,hl,k⟩:=h
  have hbig:100000<sizeLine:=by rw[sizeLine_eq];decide
  have hxl:=hp.len
  rw[zq] at hxl
  refine⟨_,(zo (zE (zp (JY rfl) rfl B.sum boot_sum (za (vA [] [] rfl rfl (by kernel_rfl) (Xp rfl B.zip (za (pv 0) (za (jK j5 (pv 0) (jz zf) xK) ze))) (fun _ _ _ _=>jw) (fun _ _ _ _=>(zk Dway_between (hr.mono (by decide)) rfl (za (pv 0) (za (pv 1) ze))))) ze)))),?_⟩
  refine⟨_,rfl,_,rfl,1,rfl,a,xs,rfl,hx,fun t ht=>?_⟩
  have s1:Same H (upd H t (.lst (jB xs (some 1) none))):=zd ht
  have ht1:upd H t (.lst (jB xs (some 1) none)) t=some (.lst (xs.drop 1)):=by rw[zb,JW]
  have hx1:=s1.seq hx
  have hp1:=hp.same s1
  generalize upd H t (.lst (jB xs (some 1) none))=H1 at s1 ht1 hx1 hp1
  refine⟨true,true,a,t,rfl,⟨xs,hx1⟩,⟨_,SqL.of ht1⟩,?_⟩
  refine XA (K:=K) (k1:=true) (k2:=true) (xs:=xs) (ys:=xs.drop 1) (fun i zs H3=>zs=((xr ps).take i).map V.int/\Same H1 H3) ⟨rfl,Same.refl _⟩ (fun i zs H3 ⟨_,sm⟩=>⟨sm.seq hx1,sm.seq (SqL.of ht1)⟩) ?_ ?_
  ·rintro i x y zs H3 T e1 e2 ⟨rfl,sm⟩ hT
   have e2':xs[i+1]? =some y:=by rw[X7] at e2;rw[Nat.add_comm];exact e2
   have s4:=sm.trans (zd (o:=.tup [x,y]) hT)
   obtain⟨d1,q1,r1⟩:=(hp1.same s4).get e1
   obtain⟨d2,q2,r2⟩:=(hp1.same s4).get e2'
   rw[qr] at q1 q2
   obtain⟨p,w1,rfl⟩:=jb.mp q1
   obtain⟨q,w2,rfl⟩:=jb.mp q2
   refine⟨T,_,rfl,SqT.of zb,rfl,_,_,rfl,_,_,rfl,rfl,rfl,?_⟩
   refine⟨_,rfl,_,rfl,x,y,p,q,rfl,r1,r2,?_,?_,s4⟩
   ·have:=xN ps
    rw[zq,qR];omega
   ·rw[qg (Qe w1 w2),zX];rfl
  ·rintro zs H3 ⟨rfl,sm⟩
   have hm:min xs.length (xs.drop 1).length=(xr ps).length:=by rw[xN,yW];omega
   refine⟨by rw[zq,qR];omega,fun D hD=>⟨D,xr ps,rfl,?_,fun z hz=>?_,by rw[xN];omega,k _ ((s1.trans sm).trans (zd hD))⟩⟩
   ·refine SqL.of ?_
    rw[zb,hm,qX]
   ·have:=ZY hb z hz
    omega
end
theorem at0{x:V}{r:List V}:atI (x::r) 0=some x:=qk (j:=0) rfl
theorem at1{x y:V}{r:List V}:atI (x::y::r) 1=some y:=qk (j:=1) rfl
theorem at2{x y z:V}{r:List V}:atI (x::y::z::r) 2=some z:=qk (j:=2) rfl
inductive Ev where
 | behind (p:Nat) | none (p:Nat) | failed (p:Nat) | dropped (p:Nat) | picked (p f:Nat) | missed (p f:Nat) | laid (p:Nat) (k:Str) (x y:Int)
def Ev.w:Ev->Str
 | .behind _=> "behind" | .none _=> "none" | .failed _=> "failed" | .dropped _=> "dropped" | .picked _ _=> "picked" | .missed _ _=> "missed" | .laid _ _ _ _=> "laid"
def Ev.p:Ev->Nat
 | .behind p=>p | .none p=>p | .failed p=>p | .dropped p=>p | .picked p _=>p | .missed p _=>p | .laid p _ _ _=>p
def Ev.r:Ev->List Dat
 | .picked _ f=>[.int (f:Int)] | .missed _ f=>[.int (f:Int)] | .laid _ k x y=>[.str k,.tup [.int x,.int y]] | _=>[]
def evD(e:Ev):Dat:=.tup (.str e.w::.int (e.p:Int)::e.r)
def zK(ws:List Str)(es:List Ev):List Ev:=es.filter fun e=>decide (e.w∈ws)
theorem zaK(t:Str):∀l:List Str,inV (.str t) (l.map V.str)=decide (t∈l)
 | []=>(xE (fun z=>nomatch z)).symm
 | x::l=>by
  show((x==t)||inV (.str t) (l.map V.str))=_
  rw[zaK t l,ww,Q0,yZ,yZ,zZ,xT]
  exact⟨fun h=>h.imp Eq.symm id,fun h=>h.imp Eq.symm id⟩
theorem Zz{α:Type}{f:α->Bool}{l:List α}{i:Nat}{x:α}(h:l[i]? =some x):(l.take (i+1)).filter f=(l.take i).filter f++if f x=true then [x] else []:=by
 rw[qg h,vg]
 congr 1
 cases q:f x with
 | true=>rw[QV q,zH rfl];rfl
 | false=>rw[ZN (by rw[q];exact qC),zx qC];rfl
section
variable{P:Program}{w:World}{K:PySem.W.Frag}{mg:Str->Option Value}{base:Heap}
theorem yN{H:Hp}{e:Ev}{x:V}(h:Rep K H (evD e) x):∃a r,x=.ref a/\SqT K H a (.str e.w::.int (e.p:Int)::r)/\Reps K H e.r r:=by
 obtain⟨a,xs,rfl,q,x0,r0,rfl,h0,x1,r1,rfl,h1,h2⟩:=h
 cases(show x0=_ from h0)
 cases(show x1=_ from h1)
 exact⟨a,r1,rfl,q,h2⟩
def Evs(K:PySem.W.Frag)(H:Hp)(l:Addr)(es:List Ev):Prop:=∃xs,H l=some (.lst xs)/\Reps K H (es.map evD) xs
theorem Evs.same{H H':Hp}{l:Addr}{es:List Ev}(h:Evs K H l es)(s:Same H H'):Evs K H' l es:=let ⟨xs,a,b⟩:=h;⟨xs,s _ _ a,b.same s⟩
inductive zaa(K:PySem.W.Frag)(vs:List V)(H:Hp)(Q:VK):Prop
 | mk (l t:Addr) (es:List Ev) (ws:List Str) (_:vs=[.ref l,.ref t]) (_:Evs K H l es) (_:SqT K H t (ws.map V.str)) (_:es.length<=100000) (_:∀(p:Addr) H',H p=none->Same H H'->Evs K H' p (zK ws es)->Q (.ref p) H'):zaa K vs H Q
def VC(K:PySem.W.Frag):Sp:=fun vs H Q _=>zaa K vs H Q
theorem zfs:zF ["events", "words"] ["events", "words"] (zt (topL 16)):=⟨rfl,rfl,rfl,by decide +kernel,rfl,by decide +kernel,by decide +kernel⟩
theorem zgv{f:Addr}{fd:FuncData}(F:Fun K "events_of" "events_of" (topL 16) f fd)(B:Blt mg):qH P w K mg base CX0 1 f fd ["events", "words"] (VC K):=by
 have nd:=zfs.nd
 refine F.ok zfs (fun vs H Q E h=>?_) (fun cdv A outer s H vs Q E hr h=>?_)
 ·obtain⟨l,t,es,ws,rfl,_⟩:=h
  rfl
 ·obtain⟨l,t,es,ws,rfl,⟨xs,hl,rx⟩,ht,le,k⟩:=h
  have hbig:1000000<sizeLine:=by rw[sizeLine_eq];decide
  have xl:=rx.len
  rw[zq] at xl
  refine⟨_,(zo (zE (xa ["words"] [1] rfl rfl (by kernel_rfl) (qJ (pv 0)) (fun _ _ _ _=>(xX (zO (xn (K:=K) rfl) (zu (qq (K:=K) rfl) (pv 0) zf (fun _ _=>rfl)) (pv 1) (by with_unfolding_all rfl)))) (fun _ _ _ _=>(pv 0))))),?_⟩
  refine⟨_,rfl,l,rfl,⟨_,SqL.of hl⟩,jH (K:=K) (a:=l) (xs:=xs) (fun i zs H1=>Reps K H1 ((zK ws (es.take i)).map evD) zs/\Same H H1) ⟨rfl,Same.refl _⟩ (fun i zs H1 ⟨_,s1⟩=>SqL.of (s1 _ _ hl)) ?_ ?_⟩
  ·rintro i x zs H1 hx ⟨rz,s1⟩
   obtain⟨d,ed,rd⟩:=(rx.same s1).get hx
   rw[qr] at ed
   obtain⟨e,ee,rfl⟩:=jb.mp ed
   obtain⟨a,r,rfl,qa,_⟩:=yN rd
   have il:=(zW.mp ee).1
   have zl:=rz.len
   rw[zq] at zl
   have z2:(zK ws (es.take i)).length<=i:=ja (jR _ _) (by rw[qR];omega)
   have e2:zK ws (es.take (i+1))=zK ws (es.take i)++if decide (e.w∈ws)=true then [e] else []:=Zz ee
   refine⟨rfl,_,rfl,a,_,_,.str e.w,rfl,rfl,qa,at0,_,rfl,t,_,rfl,.inr (s1.sqT ht),rfl,Zd ws,_,rfl,?_⟩
   rw[zaK,e2]
   refine jA (fun c=>⟨_,rfl,by omega,?_,s1⟩) (fun c=>⟨?_,s1⟩)
   ·rw[zH (show decide (e.w∈ws)=true from c),zX]
    exact Reps.snoc rd rz
   ·rw[zx (show ¬decide (e.w∈ws)=true from c),qK];exact rz
  ·rintro zs H1 ⟨rz,s1⟩
   rw[xl,qX] at rz
   have zl:=rz.len
   rw[zq] at zl
   have z2:(zK ws es).length<=es.length:=jR _ _
   refine⟨by omega,fun p hp=>k p _ (s1.free hp) (s1.trans (zd hp)) ⟨_,zb,rz.same (zd hp)⟩⟩
inductive YW(K:PySem.W.Frag)(vs:List V)(H:Hp)(Q:VK):Prop
 | mk (l t:Addr) (es:List Ev) (ws:List Str) (_:vs=[.ref l,.ref t]) (_:Evs K H l es) (_:SqT K H t (ws.map V.str)) (_:es.length<=100000) (_:∀(p:Addr) H',H p=none->Same H H'->H' p=some (.lst ((zK ws es).map fun e=>V.int (e.p:Int)))->Q (.ref p) H'):YW K vs H Q
def YX(K:PySem.W.Frag):Sp:=fun vs H Q _=>YW K vs H Q
theorem zfk:zF ["events", "words"] ["events", "words"] (zt (topL 17)):=⟨rfl,rfl,rfl,by decide +kernel,rfl,by decide +kernel,by decide +kernel⟩
theorem zgn{f:Addr}{fd:FuncData}(F:Fun K "parts_of" "parts_of" (topL 17) f fd)(B:Blt mg)(Devents_of:Dfn P w K mg base "events_of" 1 ["events", "words"] (VC K)):qH P w K mg base CX0 2 f fd ["events", "words"] (YX K):=by
 have nd:=zfk.nd
 refine F.ok zfk (fun vs H Q E h=>?_) (fun cdv A outer s H vs Q E hr h=>?_)
 ·obtain⟨l,t,es,ws,rfl,_⟩:=h
  rfl
 ·obtain⟨l,t,es,ws,rfl,hl,ht,le,k⟩:=h
  have hbig:1000000<sizeLine:=by rw[sizeLine_eq];decide
  refine⟨_,(zo (zE (xa [] [] rfl rfl (by kernel_rfl) (qJ (zk Devents_of (hr.mono (by decide)) rfl (za (pv 0) (za (pv 1) ze)))) (fun _ _ _ _=>jw) (fun _ _ _ _=>(zu (qq (K:=K) rfl) (pv 0) zf (fun _ _=>rfl)))))),?_⟩
  refine⟨_,rfl,_,rfl,l,t,es,ws,rfl,hl,ht,le,fun q H1 hq s1 ⟨xs,hx,rx⟩=>?_⟩
  have z2:(zK ws es).length<=es.length:=jR _ _
  generalize zK ws es=fs at rx k z2
  have xl:=rx.len
  rw[zq] at xl
  refine⟨q,rfl,⟨_,SqL.of hx⟩,jH (K:=K) (a:=q) (xs:=xs) (fun i zs H2=>zs=(fs.take i).map (fun e=>V.int (e.p:Int))/\Same H1 H2) ⟨rfl,Same.refl _⟩ (fun i zs H2 ⟨_,s2⟩=>SqL.of (s2 _ _ hx)) ?_ ?_⟩
  ·rintro i x zs H2 hx' ⟨rfl,s2⟩
   obtain⟨d,ed,rd⟩:=(rx.same s2).get hx'
   rw[qr] at ed
   obtain⟨e,ee,rfl⟩:=jb.mp ed
   obtain⟨a,r,rfl,qa,_⟩:=yN rd
   have il:=(zW.mp ee).1
   refine⟨rfl,_,rfl,a,_,_,_,rfl,rfl,qa,at1,by rw[zq,qR];omega,?_,s2⟩
   rw[qg ee,zX];rfl
  ·rintro zs H2 ⟨rfl,s2⟩
   rw[xl,qX]
   exact⟨by rw[zq];omega,fun p hp=>k p _ (s1.free (s2.free hp)) ((s1.trans s2).trans (zd hp)) zb⟩
def zB:List Str:=["picked", "missed"]
def zI:List Str:=["behind", "none", "failed", "dropped"]
structure TxG(K:PySem.W.Frag)(a:Addr)(ws:List Str):Prop where
 all:∀H,SqT K H a (ws.map V.str)
structure JSm(J:Job):Prop where
 ps:J.ps.length<=60
 fs:J.fs.length<=60
 as:∀q∈asI J,InN J.ps.length q.1/\InN J.ps.length q.2
 al:J.as.length<=300
theorem zdn(z:Int)(l:List Ev):inV (.int z) (l.map fun e=>V.int (e.p:Int))=l.any fun e=>((e.p:Int)==z):=by
 unfold inV
 rw[QY];rfl
theorem Wa(l:List Ev):(l.map fun e=>V.int (e.p:Int)).all xg=true:=by
 rw[List.all_map]
 exact xF.mpr fun _ _=>rfl
inductive Vz(K:PySem.W.Frag)(vs:List V)(H:Hp)(Q:VK):Prop
 | mk (jp l:Addr) (J:Job) (s:Nat) (es:List Ev) (_:vs=[.ref jp,.int (s:Int),.ref l]) (_:Rep K H (xo J) (.ref jp)) (_:JSm J) (_:s<J.ps.length) (_:Evs K H l es) (_:es.length<=100000) (_:∀b H',Same H H'->(b=true↔∃e∈zK zI es,(e.p:Int)≠(s:Int)/\∃k,Wk (asI J) k (e.p:Int) (s:Int))->Q (.bl b) H'):Vz K vs H Q
def WD(K:PySem.W.Frag):Sp:=fun vs H Q _=>Vz K vs H Q
theorem zcC:zF ["job", "part", "events", "given"] ["job", "part", "events"] (zt (topL 18)):=⟨rfl,rfl,rfl,by decide +kernel,rfl,by decide +kernel,by decide +kernel⟩
theorem zeA{f gu:Addr}{fd:FuncData}(F:Fun K "is_lost" "is_lost" (topL 18) f fd)(B:Blt mg)(g_GIVEN_UP:mg "GIVEN_UP" = some (.ref gu))(G:TxG K gu zI)(Dparts_of:Dfn P w K mg base "parts_of" 2 ["events", "words"] (YX K))(Dahead_of:Dfn P w K mg base "ahead_of" 3 ["job", "part"] (zaf K)):qH P w K mg base CX0 4 f fd ["job", "part", "events"] (WD K):=by
 have nd:=zcC.nd
 refine F.ok zcC (fun vs H Q E h=>?_) (fun cdv A outer s H vs Q E hr h=>?_)
 ·obtain⟨jp,l,J,s,es,rfl,_⟩:=h
  rfl
 ·obtain⟨jp,l,J,s',es,rfl,rj,js,sl,hl,le,k⟩:=h
  have hbig:1000000<sizeLine:=by rw[sizeLine_eq];decide
  have jps:=js.ps
  refine⟨_,(zg (zC (i:=3) nd rfl (Or.inr rfl) (zk Dparts_of (hr.mono (by decide)) rfl (za (pv 2) (za (yH (v:=.ref gu) rfl g_GIVEN_UP rfl) ze))))
   (zo (zE (zp (wS rfl) rfl B.any yS (za (xa ["given"] [3] rfl rfl (by kernel_rfl) (qJ (zk Dahead_of (hr.mono (by decide)) rfl (za (pv 0) (za (pv 1) ze)))) (fun _ _ _ _=>jw) (fun _ _ _ _=>(qM (xn (K:=K) rfl) (pv 0) (pv 1) (by with_unfolding_all rfl)))) ze))))),?_⟩
  refine⟨_,rfl,l,gu,es,zI,rfl,hl,G.all _,le,fun g H1 hg s1 G1=>?_⟩
  have z2:(zK zI es).length<=es.length:=jR _ _
  generalize zK zI es=fs at G1 k z2
  refine⟨_,rfl,_,rfl,(s':Int),jp,J,rfl,rj.same s1,js.ps,⟨by omega,by omega⟩,js.as,js.al,fun ml ms H2 s2 _ M2 mlen _ mem=>?_⟩
  have G2:=s2 _ _ G1
  refine⟨ml,rfl,⟨_,SqL.of M2⟩,jH (K:=K) (a:=ml) (xs:=ms.map V.int) (fun i zs H3=>zs=((ms.take i).map fun z=>fs.any fun e=>((e.p:Int)==z)).map V.bl/\Same H2 H3) ⟨rfl,Same.refl _⟩ (fun i zs H3 ⟨_,s3⟩=>SqL.of (s3 _ _ M2)) ?_ ?_⟩
  ·rintro i x zs H3 hx ⟨rfl,s3⟩
   rw[qr] at hx
   obtain⟨z,ez,rfl⟩:=jb.mp hx
   have il:=(zW.mp ez).1
   refine⟨rfl,_,rfl,_,rfl,g,_,rfl,.inl (SqL.of (s3 _ _ G2)),rfl,Wa fs,by rw[zq,zq,qR];omega,?_,s3⟩
   rw[qg ez,zX,zX,zdn];rfl
  ·rintro zs H3 ⟨rfl,s3⟩
   rw[show ms.take (ms.map V.int).length=ms by rw[zq,qX]]
   refine⟨by rw[zq,zq];omega,fun D hD=>⟨D,_,rfl,SqL.of zb,k _ _ ((s1.trans (s2.trans s3)).trans (zd hD)) ?_⟩⟩
   rw[QY,vP]
   constructor
   ·rintro⟨z,hz,h⟩
    obtain⟨e,he,h2⟩:=vP.mp h
    have h3:(e.p:Int)=z:=by simpa using h2
    rw[<- h3] at hz
    exact⟨e,he,(mem _).mp hz⟩
   ·rintro⟨e,he,h⟩
    exact⟨(e.p:Int),(mem _).mpr h,vP.mpr ⟨e,he,by simp⟩⟩
def Ev.f:Ev->Nat
 | .picked _ f=>f | .missed _ f=>f | _=>0
def qV(es:List Ev):List Int:=(zK zB es).map fun e=>(e.f:Int)
theorem YJ{es:List Ev}{e:Ev}(h:e∈zK zB es):e.r=[.int (e.f:Int)]:=by
 have:=qZ (jn.mp h).2
 cases e with
 | picked p f=>rfl
 | missed p f=>rfl
 | behind p=>exact absurd (show("behind" : Str)∈zB from this) (by decide)
 | none p=>exact absurd (show("none" : Str)∈zB from this) (by decide)
 | failed p=>exact absurd (show("failed" : Str)∈zB from this) (by decide)
 | dropped p=>exact absurd (show("dropped" : Str)∈zB from this) (by decide)
 | laid p k x y=>exact absurd (show("laid" : Str)∈zB from this) (by decide)
def xW(J:Job)(pa:xi)(es:List Ev):List Nat:=(atK J.fs pa.k J.fs.length).filter fun f:Nat=>decide (((qV es).count (f:Int):Int)<(J.fs[f]?.map xH.m).getD 0)
inductive NF(rd:List Nat)(own:Nat):V->Prop
 | own (h:own∈rd):NF rd own (.int (own:Int))
 | non (h:rd=[]):NF rd own .non
 | least (f:Nat) (n:own∉rd) (h:f∈rd) (l:∀g∈rd,f<=g):NF rd own (.int (f:Int))
theorem zaL(z:Nat)(l:List Nat):inV (.int (z:Int)) (zw l)=decide (z∈l):=by
 unfold inV zw
 rw[QY,ww,vP,yZ]
 constructor
 ·rintro⟨x,hx,h⟩
  have h2:(x:Int)=(z:Int):=by simpa [eqV] using h
  rw[<- show x=z by omega];exact hx
 ·intro h
  exact⟨z,h,by show((z:Int)==(z:Int))=true;simp⟩
theorem wL(l:List Nat):(zw l).all xg=true:=by
 unfold zw
 rw[List.all_map]
 exact xF.mpr fun _ _=>rfl
inductive zcj(K:PySem.W.Frag)(vs:List V)(H:Hp)(Q:VK):Prop
 | mk (jp pk l:Addr) (J:Job) (p own:Nat) (pa:xi) (es:List Ev) (_:vs=[.ref jp,.ref pk,.ref l]) (_:Rep K H (xo J) (.ref jp)) (_:JSm J) (_:SqT K H pk [.int (p:Int),.int (own:Int)]) (_:J.ps[p]? =some pa) (_:Evs K H l es) (_:es.length<=100000) (_:∀v H',Same H H'->NF (xW J pa es) own v->Q v H'):zcj K vs H Q
def zhc(K:PySem.W.Frag):Sp:=fun vs H Q _=>zcj K vs H Q
theorem zhi:zF ["job", "pick", "events", "part", "own", "taken", "ready"] ["job", "pick", "events"] (zt (topL 19)):=⟨rfl,rfl,rfl,by decide +kernel,rfl,by decide +kernel,by decide +kernel⟩
theorem zhz{f tr:Addr}{fd:FuncData}(F:Fun K "next_feeder" "next_feeder" (topL 19) f fd)(B:Blt mg)(g_TRIED:mg "TRIED" = some (.ref tr))(G:TxG K tr zB)(Devents_of:Dfn P w K mg base "events_of" 1 ["events", "words"] (VC K))(Dfeeders_for:Dfn P w K mg base "feeders_for" 1 ["job", "kind"] (zfd K)):qH P w K mg base CX0 2 f fd ["job", "pick", "events"] (zhc K):=by
 have nd:=zhi.nd
 refine F.ok zhi (fun vs H Q E h=>?_) (fun cdv A outer s H vs Q E hr h=>?_)
 ·obtain⟨jp,pk,l,J,p,own,pa,es,rfl,_⟩:=h
  rfl
 ·obtain⟨jp,pk,l,J,p,own,pa,es,rfl,rj,js,hp,ep,hl,le,k⟩:=h
  have hbig:1000000<sizeLine:=by rw[sizeLine_eq];decide
  have hu:=hr.units0
  have hu64:=hr.units
  have jfs:=js.fs
  obtain⟨g,fs,ps,as,fv,pxs,qj,_,qf,rf,qp,rp,_⟩:=xI rj
  refine⟨_,(zg (xj (pv 1) (xm rfl (zT (zy (i:=3) nd rfl (Or.inl rfl)) (zT (zy (i:=4) nd rfl (Or.inl rfl)) jN))))
   (zg (zC (i:=5) nd rfl (Or.inr rfl) (xa [] [] rfl rfl (by kernel_rfl) (qJ (zk Devents_of (hr.mono (by decide)) rfl (za (pv 2) (za (yH (v:=.ref tr) rfl g_TRIED rfl) ze)))) (fun _ _ _ _=>jw) (fun _ _ _ _=>(zu (qq (K:=K) rfl) (pv 0) zf (fun _ _=>rfl)))))
   (zg (Zg ["taken", "job"] [5,0] rfl rfl (by kernel_rfl) (qJ (zk Dfeeders_for (hr.mono (by decide)) rfl (za (pv 0) (za (zu qc (zu qc (zu qc (pv 0) zf (fun _ _=>rfl)) (pv 3) (fun _ _=>rfl)) zf (fun _ _=>rfl)) ze)))) (fun _ _ _ _=>(xX (zO zcZ (zgf (K:=K) rfl jh PySem.F.slot_list_count PySem.F.type_list_count zbE (pv 1) (za (pv 0) ze)) (zu (qq (K:=K) rfl) (zu (qq (K:=K) rfl) (zu (qq (K:=K) rfl) (pv 2) zf (fun _ _=>rfl)) (pv 0) (fun _ _=>rfl)) zf (fun _ _=>rfl)) (zQ _)))) (fun _ _ _ _=>(pv 0)) (zy (i:=6) nd rfl (Or.inl rfl)))
   (zg (je (zO wI (pv 4) (pv 6) (by with_unfolding_all rfl))
   (zo (zE (pv 4)))
   qI)
   (zo (zE (WI (W6 rfl hu64) rfl B.min zdI (za (pv 6) ze) Xq))))))),?_⟩
  refine⟨_,rfl,pk,_,rfl,hp,rfl,_,_,rfl,_,_,rfl,rfl,?_⟩
  refine⟨_,rfl,l,tr,es,zB,rfl,hl,G.all _,le,fun q H1 hq s1 ⟨xs,hx,rx⟩=>?_⟩
  have z2:(zK zB es).length<=es.length:=jR _ _
  have xl:=rx.len
  rw[zq] at xl
  refine⟨q,rfl,⟨_,SqL.of hx⟩,jH (K:=K) (a:=q) (xs:=xs) (fun i zs H2=>zs=(((zK zB es).take i).map fun e=>(e.f:Int)).map V.int/\Same H1 H2) ⟨rfl,Same.refl _⟩ (fun i zs H2 ⟨_,s2⟩=>SqL.of (s2 _ _ hx)) ?_ ?_⟩
  ·rintro i x zs H2 hx' ⟨rfl,s2⟩
   obtain⟨d,ed,rd⟩:=(rx.same s2).get hx'
   rw[qr] at ed
   obtain⟨e,ee,rfl⟩:=jb.mp ed
   obtain⟨a,r,rfl,qa,rr⟩:=yN rd
   rw[YJ (qU ee)] at rr
   obtain⟨x0,r0,rfl,e0,_⟩:=rr
   cases(show x0=_ from e0)
   have il:=(zW.mp ee).1
   refine⟨rfl,_,rfl,a,_,_,_,rfl,rfl,qa,at2,by rw[zq,zq,qR];omega,?_,s2⟩
   rw[qg ee,zX,zX];rfl
  rintro zs H2 ⟨rfl,s2⟩
  rw[xl,qX]
  refine⟨by rw[zq,zq];omega,fun tk htk=>?_⟩
  have s3:=(s1.trans s2).trans (zd (H:=H2) (o:=.lst (((zK zB es).map fun e=>(e.f:Int)).map V.int)) htk)
  have T3:=zb (H:=H2) (a:=tk) (o:=.lst (((zK zB es).map fun e=>(e.f:Int)).map V.int))
  rw[show((zK zB es).map fun e=>(e.f:Int))=qV es from rfl] at s3 T3 ⊢
  generalize upd H2 tk (.lst ((qV es).map V.int))=H3 at s3 T3
  have pl:=rp.len
  rw[zq] at pl
  obtain⟨xp,exp⟩:∃x,pxs[p]? =some x:=⟨_,ji (by rw[pl];exact(zW.mp ep).1)⟩
  obtain⟨d,ed,rd⟩:=rp.get exp
  rw[qr,ep] at ed
  cases ed
  obtain⟨pa',pc,rfl,qpa,_⟩:=wH rd
  refine⟨_,rfl,_,rfl,jp,_,_,_,rfl,rfl,s3.sqT qj,rfl,_,rfl,ps,_,_,.ref pa',rfl,rfl,s3.sqT qp,qk exp,pa',_,_,_,rfl,rfl,s3.sqT qpa,rfl,jp,J,pa.k,rfl,rj.same s3,by omega,fun fl H4 hfl s4 L4=>?_⟩
  have s4':=s3.trans s4
  have T4:=s4 _ _ T3
  have al:=QR J.fs pa.k J.fs.length
  have flen:=rf.len
  rw[zq] at flen
  have ain:∀f∈atK J.fs pa.k J.fs.length,f<J.fs.length:=fun f hf=>vd.mp (jn.mp hf).1
  rw[show xW J pa es=(atK J.fs pa.k J.fs.length).filter fun f:Nat=>decide (((qV es).count (f:Int):Int)<(J.fs[f]?.map xH.m).getD 0) from rfl] at k
  generalize atK J.fs pa.k J.fs.length=L at L4 al ain k
  refine⟨fl,rfl,⟨_,SqL.of L4⟩,jH (K:=K) (a:=fl) (xs:=zw L) (fun i zs H5=>An2 (zs=zw ((L.take i).filter fun f:Nat=>decide (((qV es).count (f:Int):Int)<(J.fs[f]?.map xH.m).getD 0))) (Same H4 H5)) ⟨rfl,Same.refl _⟩ (fun i zs H5 ⟨_,s5⟩=>SqL.of (s5 _ _ L4)) ?_ ?_⟩
  ·rintro i x zs H5 hx' ⟨rfl,s5⟩
   have hx'':=hx'
   unfold zw at hx'
   rw[qr] at hx'
   obtain⟨f,ef,rfl⟩:=jb.mp hx'
   have fl':=ain f (qU ef)
   have ii:=(zW.mp ef).1
   obtain⟨xf,exf⟩:∃x,fv[f]? =some x:=⟨_,ji (by rw[flen];exact fl')⟩
   obtain⟨d,ed,rd'⟩:=rf.get exf
   rw[qr] at ed
   obtain⟨fe,efe,rfl⟩:=jb.mp ed
   obtain⟨fa,fc,rfl,qfa,_⟩:=xv rd'
   have s5':=s4'.trans s5
   have zl:((L.take i).filter fun f:Nat=>decide (((qV es).count (f:Int):Int)<(J.fs[f]?.map xH.m).getD 0)).length<=i:=ja (jR _ _) (by rw[qR];omega)
   refine⟨rfl,_,rfl,.inl ⟨rfl,_,SqL.of (s5 _ _ T4)⟩,_,rfl,tk,qV es,(f:Int),rfl,rfl,s5 _ _ T4,_,rfl,jp,_,_,_,rfl,rfl,s5'.sqT qj,rfl,_,rfl,fs,_,_,.ref fa,rfl,rfl,s5'.sqT qf,qk exf,fa,_,_,_,rfl,rfl,s5'.sqT qfa,rfl,_,_,rfl,rfl,_,rfl,?_⟩
   rw[Zz ef,efe]
   show if decide (((qV es).count (f:Int):Int)<fe.m)=true then _ else _
   refine jA (fun c=>?_) (fun c=>?_)
   ·refine⟨_,rfl,by rw[zM];omega,?_,s5⟩
    rw[show(Option.map xH.m (some fe)).getD 0=fe.m from rfl,zH c,j6]
   ·refine⟨?_,s5⟩
    rw[show(Option.map xH.m (some fe)).getD 0=fe.m from rfl,zx c,qK]
  rintro zs H5 ⟨rfl,s5⟩
  rw[show L.take (zw L).length=L by rw[zM,qX]]
  have rl:(L.filter fun f:Nat=>decide (((qV es).count (f:Int):Int)<(J.fs[f]?.map xH.m).getD 0)).length<=L.length:=jR _ _
  generalize (L.filter fun f:Nat=>decide (((qV es).count (f:Int):Int)<(J.fs[f]?.map xH.m).getD 0))=R at k rl
  refine⟨by rw[zM];omega,fun ro hro=>?_⟩
  have s6:=(s4'.trans s5).trans (zd (H:=H5) (o:=.lst (zw R)) hro)
  have R6:=zb (H:=H5) (a:=ro) (o:=.lst (zw R))
  generalize upd H5 ro (.lst (zw R))=H6 at s6 R6
  refine⟨_,rfl,_,rfl,ro,_,rfl,.inl (SqL.of R6),rfl,wL R,_,rfl,?_⟩
  rw[zaL]
  refine jA (fun c=>?_) (fun c=>?_)
  ·exact⟨_,rfl,k _ _ s6 (.own (qZ c))⟩
  ·refine⟨_,rfl,ro,R.map fun i:Nat=>(i:Int),rfl,SqL.of (by rw[R6];unfold zw;rw[vO];rfl),fun h=>k _ _ s6 (.non (List.map_eq_nil_iff.mp h)),fun m hm hle=>?_⟩
   obtain⟨f,hf,rfl⟩:=qB.mp hm
   exact k _ _ s6 (.least f (fun z=>c (qQ z)) hf fun g' hg'=>by have:=hle _ (qB.mpr ⟨g',hg',rfl⟩);omega)
def ZB(bs:List Bool)(es:List Ev):Bool:=if bs.length<=(zK zB es).length then true else bs.getD (zK zB es).length false
theorem Evs.len{H:Hp}{l:Addr}{es:List Ev}(h:Evs K H l es):∃xs,H l=some (.lst xs)/\xs.length=es.length:=by
 obtain⟨xs,a,b⟩:=h
 have:=b.len
 rw[zq] at this
 exact⟨xs,a,this⟩
inductive Vy(K:PySem.W.Frag)(vs:List V)(H:Hp)(Q:VK):Prop
 | mk (lk l:Addr) (bs:List Bool) (es:List Ev) (_:vs=[.ref lk,.ref l]) (_:SqL K H lk (bs.map V.bl)) (_:Evs K H l es) (_:es.length<=100000) (_:∀H',Same H H'->Q (.bl (ZB bs es)) H'):Vy K vs H Q
def zck(K:PySem.W.Frag):Sp:=fun vs H Q _=>Vy K vs H Q
theorem zcB:zF ["luck", "events", "spent"] ["luck", "events"] (zt (topL 20)):=⟨rfl,rfl,rfl,by decide +kernel,rfl,by decide +kernel,by decide +kernel⟩
theorem zez{f tr:Addr}{fd:FuncData}(F:Fun K "is_lucky" "is_lucky" (topL 20) f fd)(B:Blt mg)(g_TRIED:mg "TRIED" = some (.ref tr))(G:TxG K tr zB)(Devents_of:Dfn P w K mg base "events_of" 1 ["events", "words"] (VC K)):qH P w K mg base CX0 2 f fd ["luck", "events"] (zck K):=by
 have nd:=zcB.nd
 refine F.ok zcB (fun vs H Q E h=>?_) (fun cdv A outer s H vs Q E hr h=>?_)
 ·obtain⟨lk,l,bs,es,rfl,_⟩:=h
  rfl
 ·obtain⟨lk,l,bs,es,rfl,hk,hl,le,k⟩:=h
  refine⟨_,(zg (zC (i:=2) nd rfl (Or.inl rfl) (zp zL rfl B.len boot_len (za (zk Devents_of (hr.mono (by decide)) rfl (za (pv 1) (za (yH (v:=.ref tr) rfl g_TRIED rfl) ze))) ze)))
   (zo (zE (zfB (qM zfD (pv 2) (zp zL rfl B.len boot_len (za (pv 0) ze)) (zQ _)) (x9 (zu zS (pv 0) (pv 2) (fun _ _=>rfl))))))),?_⟩
  refine⟨_,rfl,l,tr,es,zB,rfl,hl,G.all _,le,fun q H1 hq s1 E1=>?_⟩
  obtain⟨xs,hx,xl⟩:=E1.len
  have mb:(bs.map V.bl).length=bs.length:=zq ..
  have k1:=k H1 s1
  unfold ZB at k1
  refine⟨q,_,rfl,.inl (SqL.of hx),_,rfl,_,rfl,lk,_,rfl,.inl (s1.seq hk),_,_,rfl,rfl,_,rfl,jA (fun c=>?_) (fun c=>?_)⟩
  ·have c':=qZ c
   rw[zH (by omega)] at k1
   exact k1
  ·have c':=of_decide_eq_false ((Zw _).mp c)
   rw[zx (by omega)] at k1
   refine⟨_,rfl,_,rfl,lk,_,_,_,rfl,rfl,s1.seq hk,?_,k1⟩
   rw[xl]
   refine qk ?_
   rw[qr,Xb,ji (by omega)];rfl
def Zy(J:Job)(p:Nat)(es:List Ev):Prop:=∃e∈zK zI es,(e.p:Int)≠(p:Int)/\∃k,Wk (asI J) k (e.p:Int) (p:Int)
inductive TryR(J:Job)(pa:xi)(p own:Nat)(bs:List Bool)(es:List Ev):Nat->List Ev->List Ev->Prop
 | fin (fnd:List Ev):TryR J pa p own bs es 0 fnd (fnd++[.failed p])
 | none (n:Nat) (fnd:List Ev) (h:NF (xW J pa (es++fnd)) own .non):TryR J pa p own bs es (n+1) fnd (fnd++[.none p])
 | luck (n:Nat) (fnd:List Ev) (f:Nat) (h:NF (xW J pa (es++fnd)) own (.int (f:Int))) (g:ZB bs (es++fnd)=true):TryR J pa p own bs es (n+1) fnd (fnd++[.picked p f])
 | miss (n:Nat) (fnd:List Ev) (f:Nat) (r:List Ev) (h:NF (xW J pa (es++fnd)) own (.int (f:Int))) (g:ZB bs (es++fnd)=false) (t:TryR J pa p own bs es n (fnd++[.missed p f]) r):TryR J pa p own bs es (n+1) fnd r
def PickR(J:Job)(pa:xi)(p own:Nat)(bs:List Bool)(n:Nat)(es r:List Ev):Prop:=(Zy J p es/\r=[.behind p])\/(¬Zy J p es/\TryR J pa p own bs es n [] r)
theorem vp:∀es:List Ev,Dat.imms (es.map evD)=true
 | []=>rfl
 | e::es=>by
  show((evD e).imm&&Dat.imms (es.map evD))=true
  rw[vp es]
  cases e<;>rfl
theorem XI{H:Hp}{T l1 q:Addr}{xs ys:List V}{fnd:List Ev}{e:Ev}(r:Reps K H (fnd.map evD) xs)(ry:Reps K H (.str e.w::.int (e.p:Int)::e.r) ys)(hT:H T=none)(h1:upd H T (.tup ys) l1=none)(hq:upd (upd H T (.tup ys)) l1 (.lst [.ref T]) q=none) :
  Evs K (upd (upd (upd H T (.tup ys)) l1 (.lst [.ref T])) q (.lst (xs++[.ref T]))) q (fnd++[e]):=by
 have s2:=(zd (o:=.lst [.ref T]) h1).trans (zd (o:=.lst (xs++[.ref T])) hq)
 have s1:=(zd (o:=.tup ys) hT).trans s2
 refine⟨_,zb,?_⟩
 rw[zX]
 have he:Rep K (upd (upd (upd H T (.tup ys)) l1 (.lst [.ref T])) q (.lst (xs++[.ref T]))) (evD e) (.ref T):=⟨T,ys,rfl,SqT.of (s2 _ _ zb),ry.same s1⟩
 exact Reps.snoc he (r.same s1)
inductive Vv(K:PySem.W.Frag)(vs:List V)(H:Hp)(Q:VK):Prop
 | mk (jp pk lk l:Addr) (J:Job) (p own:Nat) (pa:xi) (bs:List Bool) (n:Nat) (es:List Ev) (_:vs=[.ref jp,.ref pk,.ref lk,.int (n:Int),.ref l]) (_:Rep K H (xo J) (.ref jp)) (_:JSm J) (_:SqT K H pk [.int (p:Int),.int (own:Int)]) (_:J.ps[p]? =some pa) (_:SqL K H lk (bs.map V.bl)) (_:n<=10) (_:Evs K H l es) (_:es.length<=10000) (_:∀(q:Addr) (r:List Ev) H',H q=none->Same H H'->Evs K H' q r->r.length<=n+1->PickR J pa p own bs n es r->Q (.ref q) H'):Vv K vs H Q
def zch(K:PySem.W.Frag):Sp:=fun vs H Q _=>Vv K vs H Q
theorem zcy:zF ["job", "pick", "luck", "tries", "events", "part", "found", "step", "feeder"] ["job", "pick", "luck", "tries", "events"] (zt (topL 21)):=⟨rfl,rfl,rfl,by decide +kernel,rfl,by decide +kernel,by decide +kernel⟩
theorem zeu{f:Addr}{fd:FuncData}(F:Fun K "pick_events" "pick_events" (topL 21) f fd)(B:Blt mg)(Dis_lost:Dfn P w K mg base "is_lost" 4 ["job", "part", "events"] (WD K))(Dnext_feeder:Dfn P w K mg base "next_feeder" 2 ["job", "pick", "events"] (zhc K))(Dis_lucky:Dfn P w K mg base "is_lucky" 2 ["luck", "events"] (zck K)):qH P w K mg base CX0 5 f fd ["job", "pick", "luck", "tries", "events"] (zch K):=by
 have nd:=zcy.nd
 refine F.ok zcy (fun vs H Q E h=>?_) (fun cdv A outer s H vs Q E hr h=>?_)
 ·obtain⟨jp,pk,lk,l,J,p,own,pa,bs,n,es,rfl,_⟩:=h
  rfl
 ·obtain⟨jp,pk,lk,l,J,p,own,pa,bs,n,es,rfl,rj,js,hp,ep,hk,n10,hl,le,k⟩:=h
  have hbig:1000000<sizeLine:=by rw[sizeLine_eq];decide
  have e62:(2:Int)^62=4611686018427387904:=by decide
  have pl:=(zW.mp ep).1
  refine⟨_,(zg (zC (i:=5) nd rfl (Or.inl rfl) (zu qc (pv 1) zf (fun _ _=>rfl)))
   (zg (je (jD (zk Dis_lost (hr.mono (by decide)) rfl (za (pv 0) (za (pv 5) (za (pv 4) ze)))))
   (zo (zE (zN (za (zY (za zP (za (pv 5) ze))) ze))))
   qI)
   (zg (zC (i:=6) nd rfl (Or.inl rfl) (zN ze))
   (zg (qW ju rfl (qz rfl B.range (za (pv 3) ze)) (zy (i:=7) nd rfl (Or.inl rfl))
   (zg (zC (i:=8) nd rfl (Or.inl rfl) (zk Dnext_feeder (hr.mono (by decide)) rfl (za (pv 0) (za (pv 1) (za (zA jO (pv 4) (pv 6)) ze)))))
    (zg (je (zO zc0 (pv 8) Xq (zQ _))
    (zo (zE (zA jO (pv 6) (zN (za (zY (za zP (za (pv 5) ze))) ze)))))
    qI)
    (zg (je (jD (zk Dis_lucky (hr.mono (by decide)) rfl (za (pv 2) (za (zA jO (pv 4) (pv 6)) ze))))
    (zo (zE (zA jO (pv 6) (zN (za (zY (za zP (za (pv 5) (za (pv 8) ze)))) ze)))))
    qI)
    (zo (z7 (jm jh jV jU z9 (pv 6) (za (zY (za zP (za (pv 5) (za (pv 8) ze)))) ze))))))))
   (zo (zE (zA jO (pv 6) (zN (za (zY (za zP (za (pv 5) ze))) ze))))))))),?_⟩
  refine⟨_,rfl,pk,_,_,_,rfl,rfl,hp,rfl,?_⟩
  refine⟨_,rfl,_,rfl,_,rfl,jp,l,J,p,es,rfl,rj,js,pl,hl,by omega,fun b H1 s1 hb=>⟨_,rfl,?_⟩⟩
  obtain⟨exs,elx,erx⟩:=hl
  have elen:=erx.len
  rw[zq] at elen
  cases b with
  | true=>
   refine ifT rfl ?_
   refine⟨_,rfl,le2,fun T hT=>⟨le1,fun q hq=>?_⟩⟩
   have s2:=(zd (o:=.tup [.str "behind",.int (p:Int)]) hT).trans (zd (o:=.lst [.ref T]) hq)
   have he:Rep K (upd (upd H1 T (.tup [.str "behind",.int (p:Int)])) q (.lst [.ref T])) (evD (.behind p)) (.ref T):=⟨T,_,rfl,SqT.of ((zd hq) _ _ zb),_,_,rfl,rfl,_,_,rfl,rfl,rfl⟩
   refine k q [.behind p] _ (s1.free ((zd hT).free hq)) (s1.trans s2) ⟨_,zb,_,_,rfl,he,rfl⟩ (by show 1<=_;omega) (.inl ⟨hb.mp rfl,rfl⟩)
  | false=>
   refine ifF rfl ?_
   have nl:¬Zy J p es:=fun z=>by have:=hb.mpr z;cases this
   refine⟨le0,fun fo hfo=>?_⟩
   have hfH:H fo=none:=s1.free hfo
   refine⟨_,rfl,_,rfl,(by rw[e62];omega),(by rw[e62];omega),?_⟩
   rw[vf]
   refine jc (fun i σ H'=>Ex4 fun(fnd:List Ev) (xs:List V) (v7 v8:Option V)=>An6 (σ=[some (.ref jp),some (.ref pk),some (.ref lk),some (.int (n:Int)),some (.ref l),some (.int (p:Int)),some (.ref fo),v7,v8]) (Same H H') (H' fo=some (.lst xs)) (Reps K H' (fnd.map evD) xs) (fnd.length<=i) (∀r,TryR J pa p own bs es (n-i) fnd r->TryR J pa p own bs es n [] r)) ⟨[],[],_,_,rfl,s1.trans (zd hfo),zb,rfl,zJ _,fun r h=>h⟩ ?_ ?_
   ·rintro i σ H2 hi ⟨fnd,xs,v7,v8,rfl,s2,F2,R2,fl,tr⟩
    have xl:=R2.len
    rw[zq] at xl
    obtain⟨m,em⟩:∃m,n-i=m+1:=⟨n-i-1,by omega⟩
    have em':n-(i+1)=m:=by omega
    rw[em] at tr
    rw[em']
    refine⟨_,rfl,_,rfl,_,rfl,_,rfl,l,fo,_,_,rfl,rfl,s2 _ _ elx,F2,by omega,fun c hc=>?_⟩
    have s3:=zd (H:=H2) (o:=.lst (exs++xs)) hc
    have C3:Evs K (upd H2 c (.lst (exs++xs))) c (es++fnd):=⟨_,zb,by rw[zX];exact Reps.app (erx.same (s2.trans s3)) (R2.same s3)⟩
    generalize upd H2 c (.lst (exs++xs))=H3 at s3 C3
    have s3':=s2.trans s3
    refine⟨jp,pk,c,J,p,own,pa,es++fnd,rfl,rj.same s3',js,s3'.sqT hp,ep,C3,by rw[zV];omega,fun v H4 s4 nf=>?_⟩
    have s4':=s3'.trans s4
    have F4:=s4 _ _ (s3 _ _ F2)
    have R4:=R2.same (s3.trans s4)
    refine⟨_,rfl,rfl,_,rfl,jA (fun c1=>?_) (fun c1=>?_)⟩
    ·have ev:v=.non:=qZ c1
     subst ev
     refine⟨_,rfl,_,rfl,le2,fun T hT=>⟨le1,fun l1 h1=>⟨fo,l1,_,_,rfl,rfl,(zd h1) _ _ ((zd hT) _ _ F4),zb,by show _+1<=_;omega,fun q hq=>?_⟩⟩⟩
     have s5:=(zd (o:=.tup [.str "none",.int (p:Int)]) hT).trans ((zd (o:=.lst [.ref T]) h1).trans (zd (o:=.lst (xs++[.ref T])) hq))
     exact k q (fnd++[.none p]) _ (s4'.free ((zd hT).free ((zd h1).free hq))) (s4'.trans s5) (XI (e:=.none p) (ys:=[.str "none",.int (p:Int)]) R4 ⟨_,_,rfl,rfl,_,_,rfl,rfl,rfl⟩ hT h1 hq) (by rw[zV];show _+1<=_;omega) (.inr ⟨nl,tr _ (.none m fnd nf)⟩)
    obtain⟨g,rfl⟩:∃g:Nat,v=.int (g:Int):=by
     cases nf with
     | own h=>exact⟨_,rfl⟩
     | non h=>exact absurd (qQ rfl) c1
     | least f a b d=>exact⟨_,rfl⟩
    refine⟨_,rfl,_,rfl,_,rfl,l,fo,_,_,rfl,rfl,s4' _ _ elx,F4,by omega,fun c2 hc2=>?_⟩
    have s5:=zd (H:=H4) (o:=.lst (exs++xs)) hc2
    have C5:Evs K (upd H4 c2 (.lst (exs++xs))) c2 (es++fnd):=⟨_,zb,by rw[zX];exact Reps.app (erx.same (s4'.trans s5)) (R4.same s5)⟩
    generalize upd H4 c2 (.lst (exs++xs))=H5 at s5 C5
    have s5':=s4'.trans s5
    refine⟨lk,c2,bs,es++fnd,rfl,s5'.seq hk,C5,by rw[zV];omega,fun H6 s6=>⟨_,rfl,?_⟩⟩
    have s6':=s5'.trans s6
    have F6:=s6 _ _ (s5 _ _ F4)
    have R6:=R4.same (s5.trans s6)
    refine jA (fun c3=>?_) (fun c3=>?_)
    ·refine⟨_,rfl,_,rfl,_,rfl,le3,fun T hT=>⟨le1,fun l1 h1=>⟨fo,l1,_,_,rfl,rfl,(zd h1) _ _ ((zd hT) _ _ F6),zb,by show _+1<=_;omega,fun q hq=>?_⟩⟩⟩
     have s7:=(zd (o:=.tup [.str "picked",.int (p:Int),.int (g:Int)]) hT).trans ((zd (o:=.lst [.ref T]) h1).trans (zd (o:=.lst (xs++[.ref T])) hq))
     exact k q (fnd++[.picked p g]) _ (s6'.free ((zd hT).free ((zd h1).free hq))) (s6'.trans s7) (XI (e:=.picked p g) (ys:=[.str "picked",.int (p:Int),.int (g:Int)]) R6 ⟨_,_,rfl,rfl,_,_,rfl,rfl,_,_,rfl,rfl,rfl⟩ hT h1 hq) (by rw[zV];show _+1<=_;omega) (.inr ⟨nl,tr _ (.luck m fnd g nf c3)⟩)
    ·refine⟨_,rfl,.inl ⟨rfl,_,SqL.of F6⟩,_,rfl,_,rfl,le3,fun T hT=>⟨fo,_,_,rfl,rfl,(zd hT) _ _ F6,by omega,?_⟩⟩
     have s7:=zd (H:=H6) (o:=.tup [.str "missed",.int (p:Int),.int (g:Int)]) hT
     have F7:=s7 _ _ F6
     have he:Rep K (upd H6 T (.tup [.str "missed",.int (p:Int),.int (g:Int)])) (evD (.missed p g)) (.ref T):=⟨T,_,rfl,SqT.of zb,_,_,rfl,rfl,_,_,rfl,rfl,_,_,rfl,rfl,rfl⟩
     have R7:Reps K (upd H6 T (.tup [.str "missed",.int (p:Int),.int (g:Int)])) ((fnd++[Ev.missed p g]).map evD) (xs++[.ref T]):=by rw[zX];exact Reps.snoc he (R6.same s7)
     have s7':=s6'.trans s7
     generalize upd H6 T (.tup [.str "missed",.int (p:Int),.int (g:Int)])=H7 at s7' F7 R7
     refine⟨fnd++[.missed p g],xs++[.ref T],_,_,rfl,fun c0 u0 e0=>?_,zb,R7.keep (SameT.put F7) (vp _),by rw[zV];show _+1<=_;omega,fun r h=>tr r (.miss m fnd g r nf ((Zw _).mp c3) h)⟩
     rw[zi (zn e0 hfH)];exact s7' c0 u0 e0
   ·rintro σ H2 ⟨fnd,xs,v7,v8,rfl,s2,F2,R2,fl,tr⟩
    have xl:=R2.len
    rw[zq] at xl
    rw[Nat.sub_self] at tr
    refine⟨_,rfl,_,rfl,le2,fun T hT=>⟨le1,fun l1 h1=>⟨fo,l1,_,_,rfl,rfl,(zd h1) _ _ ((zd hT) _ _ F2),zb,by show _+1<=_;omega,fun q hq=>?_⟩⟩⟩
    have s5:=(zd (o:=.tup [.str "failed",.int (p:Int)]) hT).trans ((zd (o:=.lst [.ref T]) h1).trans (zd (o:=.lst (xs++[.ref T])) hq))
    exact k q (fnd++[.failed p]) _ (s2.free ((zd hT).free ((zd h1).free hq))) (s2.trans s5) (XI (e:=.failed p) (ys:=[.str "failed",.int (p:Int)]) R2 ⟨_,_,rfl,rfl,_,_,rfl,rfl,rfl⟩ hT h1 hq) (by rw[zV];show _+1<=_;omega) (.inr ⟨nl,tr _ (.fin fnd)⟩)
def zh3(J:Job)(pa:xi)(p:Nat)(es:List Ev)(e:Ev):Prop:=(Zy J p es/\e=.dropped p)\/(¬Zy J p es/\e=.laid p pa.k pa.x pa.y)
theorem WJ{H:Hp}{p:xi}{x:V}(h:Rep K H (j7 p) x):∃a c,x=.ref a/\SqT K H a [.str p.k,.ref c]/\Rep K H (.tup [.int p.x,.int p.y]) (.ref c):=by
 obtain⟨a,xs,rfl,q,y0,r0,f0,g0,y1,r1,f1,g1,f2⟩:=h
 subst f0 f1
 cases(show r1=[] from f2)
 cases(show y0=_ from g0)
 obtain⟨c,ys,rfl,q',s⟩:=g1
 exact⟨a,c,rfl,q,c,ys,rfl,q',s⟩
theorem zek{H:Hp}{J:Job}{pxs:List V}{p:Nat}{pa:xi}(rp:Reps K H (J.ps.map j7) pxs)(ep:J.ps[p]? =some pa):∃a c,pxs[p]? =some (.ref a)/\SqT K H a [.str pa.k,.ref c]/\Rep K H (.tup [.int pa.x,.int pa.y]) (.ref c):=by
 have pl:=rp.len
 rw[zq] at pl
 obtain⟨xp,exp⟩:∃x,pxs[p]? =some x:=⟨_,ji (by rw[pl];exact(zW.mp ep).1)⟩
 obtain⟨d,ed,rd⟩:=rp.get exp
 rw[qr,ep] at ed
 cases ed
 obtain⟨a,c,rfl,q1,q2⟩:=WJ rd
 exact⟨a,c,exp,q1,q2⟩
inductive Y6(K:PySem.W.Frag)(vs:List V)(H:Hp)(Q:VK):Prop
 | mk (jp l:Addr) (J:Job) (p:Nat) (pa:xi) (es:List Ev) (_:vs=[.ref jp,.int (p:Int),.ref l]) (_:Rep K H (xo J) (.ref jp)) (_:JSm J) (_:J.ps[p]? =some pa) (_:Evs K H l es) (_:es.length<=100000) (_:∀(T:Addr) (e:Ev) H',Same H H'->Rep K H' (evD e) (.ref T)->zh3 J pa p es e->Q (.ref T) H'):Y6 K vs H Q
def zfb(K:PySem.W.Frag):Sp:=fun vs H Q _=>Y6 K vs H Q
theorem zfo:zF ["job", "part", "events", "kind", "place"] ["job", "part", "events"] (zt (topL 22)):=⟨rfl,rfl,rfl,by decide +kernel,rfl,by decide +kernel,by decide +kernel⟩
theorem zgr{f:Addr}{fd:FuncData}(F:Fun K "lay_event" "lay_event" (topL 22) f fd)(B:Blt mg)(Dis_lost:Dfn P w K mg base "is_lost" 4 ["job", "part", "events"] (WD K)):qH P w K mg base CX0 5 f fd ["job", "part", "events"] (zfb K):=by
 have nd:=zfo.nd
 refine F.ok zfo (fun vs H Q E h=>?_) (fun cdv A outer s H vs Q E hr h=>?_)
 ·obtain⟨jp,l,J,p,pa,es,rfl,_⟩:=h
  rfl
 ·obtain⟨jp,l,J,p,pa,es,rfl,rj,js,ep,hl,le,k⟩:=h
  obtain⟨g,fs,ps,as,fv,pxs,qj,_,qf,rf,qp,rp,_⟩:=xI rj
  obtain⟨a,c,exa,qa,rc⟩:=zek rp ep
  refine⟨_,(zg (je (jD (zk Dis_lost (hr.mono (by decide)) rfl (za (pv 0) (za (pv 1) (za (pv 2) ze)))))
   (zo (zE (zY (za zP (za (pv 1) ze)))))
   qI)
   (zg (xj (zu qc (zu qc (pv 0) zf (fun _ _=>rfl)) (pv 1) (fun _ _=>rfl)) (xm rfl (zT (zy (i:=3) nd rfl (Or.inl rfl)) (zT (zy (i:=4) nd rfl (Or.inl rfl)) jN))))
   (zo (zE (zY (za zP (za (pv 1) (za (pv 3) (za (pv 4) ze))))))))),?_⟩
  refine⟨_,rfl,_,rfl,_,rfl,jp,l,J,p,es,rfl,rj,js,(zW.mp ep).1,hl,le,fun b H1 s1 hb=>⟨_,rfl,?_⟩⟩
  cases b with
  | true=>
   refine ifT rfl ⟨_,rfl,le2,fun T hT=>?_⟩
   exact k T (.dropped p) _ (s1.trans (zd hT)) ⟨T,_,rfl,SqT.of zb,_,_,rfl,rfl,_,_,rfl,rfl,rfl⟩ (.inl ⟨hb.mp rfl,rfl⟩)
  | false=>
   refine ifF rfl ?_
   have nl:¬Zy J p es:=fun z=>by have:=hb.mpr z;cases this
   refine⟨_,rfl,jp,_,_,_,rfl,rfl,s1.sqT qj,rfl,_,rfl,ps,_,_,.ref a,rfl,rfl,s1.sqT qp,qk exa,a,_,rfl,s1.sqT qa,rfl,_,_,rfl,_,_,rfl,rfl,?_⟩
   refine⟨_,rfl,_,rfl,_,rfl,le4,fun T hT=>?_⟩
   exact k T (.laid p pa.k pa.x pa.y) _ (s1.trans (zd hT)) ⟨T,_,rfl,SqT.of zb,_,_,rfl,rfl,_,_,rfl,rfl,_,_,rfl,rfl,_,_,rfl,rc.same (s1.trans (zd hT)),rfl⟩ (.inr ⟨nl,rfl⟩)
def zfY(pks:List (Nat×Nat))(lys:List Nat):Dat:=.tup [.tup (pks.map jP),.tup (lys.map fun n:Nat=>Dat.int (n:Int))]
inductive PksR(J:Job)(bs:List Bool)(n:Nat)(es:List Ev):List (Nat×Nat)->List Ev->Prop
 | nil:PksR J bs n es [] []
 | snoc (pks:List (Nat×Nat)) (fnd:List Ev) (p own:Nat) (pa:xi) (r:List Ev) (h:PksR J bs n es pks fnd) (e:J.ps[p]? =some pa) (g:PickR J pa p own bs n (es++fnd) r):PksR J bs n es (pks++[(p,own)]) (fnd++r)
inductive LysR(J:Job)(es:List Ev)(pk:List Ev):List Nat->List Ev->Prop
 | nil (fnd:List Ev) (h:fnd=pk):LysR J es pk [] fnd
 | skip (lys:List Nat) (fnd:List Ev) (p:Nat) (h:LysR J es pk lys fnd) (g:(zK ["picked"] pk).any (fun e=>((e.p:Int)==(p:Int)))=false):LysR J es pk (lys++[p]) fnd
 | lay (lys:List Nat) (fnd:List Ev) (p:Nat) (pa:xi) (e:Ev) (h:LysR J es pk lys fnd) (g:(zK ["picked"] pk).any (fun e=>((e.p:Int)==(p:Int)))=true) (ep:J.ps[p]? =some pa) (l:zh3 J pa p (es++fnd) e):LysR J es pk (lys++[p]) (fnd++[e])
def TripR(J:Job)(bs:List Bool)(n:Nat)(es:List Ev)(pks:List (Nat×Nat))(lys:List Nat)(r:List Ev):Prop:=∃fnd,PksR J bs n es pks fnd/\LysR J es fnd lys r
inductive YV(K:PySem.W.Frag)(vs:List V)(H:Hp)(Q:VK):Prop
 | mk (jp tp lk l:Addr) (J:Job) (pks:List (Nat×Nat)) (lys:List Nat) (bs:List Bool) (n:Nat) (es:List Ev) (_:vs=[.ref jp,.ref tp,.ref lk,.int (n:Int),.ref l]) (_:Rep K H (xo J) (.ref jp)) (_:JSm J) (_:Rep K H (zfY pks lys) (.ref tp)) (_:(∀q∈pks,q.1<J.ps.length)) (_:(∀q∈lys,q<J.ps.length)) (_:pks.length<=60) (_:lys.length<=60) (_:SqL K H lk (bs.map V.bl)) (_:n<=10) (_:Evs K H l es) (_:es.length<=5000) (_:∀(q:Addr) (r:List Ev) H',H q=none->Same H H'->Evs K H' q r->r.length<=11*pks.length+lys.length->TripR J bs n es pks lys r->Q (.ref q) H'):YV K vs H Q
def ze7(K:PySem.W.Frag):Sp:=fun vs H Q _=>YV K vs H Q
theorem zfj:zF ["job", "trip", "luck", "tries", "events", "picks", "lays", "found", "pick", "picked", "part"] ["job", "trip", "luck", "tries", "events"] (zt (topL 23)):=⟨rfl,rfl,rfl,by decide +kernel,rfl,by decide +kernel,by decide +kernel⟩
def zbr(jp:_)(tp:_)(lk:_)(n:Nat)(l:_)(pt:_)(lt:_)(fo:_)(H:_)(K:_)(J:Job)(bs:List Bool)(es:List Ev)(pks:List (Nat×Nat)):=fun(i:Nat) (σ:St) (H':Hp)=>(Ex3 fun(fnd:List Ev) (xs:List V) (v8:Option V)=>An6 (σ=[some (.ref jp),some (.ref tp),some (.ref lk),some (.int (n:Int)),some (.ref l),some (.ref pt),some (.ref lt),some (.ref fo),v8,none,none]) (Same H H') (H' fo=some (.lst xs)) (Reps K H' (fnd.map evD) xs) (fnd.length<=11*i) (PksR J bs n es (pks.take i) fnd):Prop)
def zbq(jp:_)(tp:_)(lk:_)(n:Nat)(l:_)(pt:_)(lt:_)(fo:_)(v8:Option V)(pd:_)(H:_)(K:_)(pks:List (Nat×Nat))(fnd:_)(J:Job)(es:List Ev)(lys:List Nat):=fun(i:Nat) (σ:St) (H':Hp)=>(Ex3 fun(out:List Ev) (xs:List V) (v10:Option V)=>An7 (σ=[some (.ref jp),some (.ref tp),some (.ref lk),some (.int (n:Int)),some (.ref l),some (.ref pt),some (.ref lt),some (.ref fo),v8,some (.ref pd),v10]) (Same H H') (H' fo=some (.lst xs)) (Reps K H' (out.map evD) xs) (out.length<=11*pks.length+i) (H' pd=some (.lst ((zK ["picked"] fnd).map fun e=>V.int (e.p:Int)))) (LysR J es fnd (lys.take i) out):Prop)
theorem zgm{f:Addr}{fd:FuncData}(F:Fun K "trip_events" "trip_events" (topL 23) f fd)(B:Blt mg)(Dpick_events:Dfn P w K mg base "pick_events" 5 ["job", "pick", "luck", "tries", "events"] (zch K))(Dparts_of:Dfn P w K mg base "parts_of" 2 ["events", "words"] (YX K))(Dlay_event:Dfn P w K mg base "lay_event" 5 ["job", "part", "events"] (zfb K)):qH P w K mg base CX0 6 f fd ["job", "trip", "luck", "tries", "events"] (ze7 K):=by
 have nd:=zfj.nd
 refine F.ok zfj (fun vs H Q E h=>?_) (fun cdv A outer s H vs Q E hr h=>?_)
 ·obtain⟨jp,tp,lk,l,J,pks,lys,bs,n,es,rfl,_⟩:=h
  rfl
 ·obtain⟨jp,tp,lk,l,J,pks,lys,bs,n,es,rfl,rj,js,rt,pin,lin,p60,l60,hk,n10,hl,le,k⟩:=h
  have hbig:1000000<sizeLine:=by rw[sizeLine_eq];decide
  obtain⟨exs,elx,erx⟩:=hl
  have elen:=erx.len
  rw[zq] at elen
  obtain⟨t0,txs,e0,qt,x0,r0,rfl,⟨pt,pxs,rfl,qp,rpk⟩,x1,r1,rfl,⟨lt,lxs,rfl,ql,rly⟩,e1⟩:=rt
  cases e0
  cases(show r1=[] from e1)
  have pxl:=rpk.len
  rw[zq] at pxl
  have lxl:=rly.len
  rw[zq] at lxl
  refine⟨_,(zg (xj (pv 1) (xm rfl (zT (zy (i:=5) nd rfl (Or.inl rfl)) (zT (zy (i:=6) nd rfl (Or.inl rfl)) jN))))
   (zg (zC (i:=7) nd rfl (Or.inl rfl) (zN ze))
   (zg (qW ju rfl (vz (pv 5)) (zy (i:=8) nd rfl (Or.inl rfl))
   (zo (z7 (jm jh Yx Yw Zm (pv 7) (za (zk Dpick_events (hr.mono (by decide)) rfl (pa5 (pv 0) (pv 8) (pv 2) (pv 3) (zA jO (pv 4) (pv 7)))) ze)))))
   (zg (zC (i:=9) nd rfl (Or.inl rfl) (zk Dparts_of (hr.mono (by decide)) rfl (za (pv 7) (za (zY (za zP ze)) ze))))
   (zg (qW ju rfl (vz (pv 6)) (zy (i:=10) nd rfl (Or.inl rfl))
   (zo (je (zO wI (pv 10) (pv 9) (by with_unfolding_all rfl))
    (zo (z7 (jm jh jV jU z9 (pv 7) (za (zk Dlay_event (hr.mono (by decide)) rfl (za (pv 0) (za (pv 10) (za (zA jO (pv 4) (pv 7)) ze)))) ze))))
    qI)))
   (zo (zE (pv 7)))))))),?_⟩
  refine⟨_,rfl,tp,_,rfl,qt,rfl,_,_,rfl,_,_,rfl,rfl,le0,fun fo hfo=>?_⟩
  have s1:=zd (H:=H) (o:=.lst []) hfo
  refine⟨_,rfl,pt,rfl,⟨_,s1.sqT qp⟩,Z9 (K:=K) (a:=pt) (xs:=pxs) (zbr jp tp lk n l pt lt fo H K J bs es pks) ⟨[],[],_,rfl,s1,zb,rfl,zJ _,.nil⟩ (fun i σ H' _ ⟨_,_,_,_,s',_,_,_,_⟩=>s'.sqT qp) ?_ ?_⟩
  ·rintro i x σ H2 hx ⟨fnd,xs,v8,rfl,s2,F2,R2,fl,pr⟩
   have xl:=R2.len
   rw[zq] at xl
   have il:=(zW.mp hx).1
   obtain⟨d,ed,rd⟩:=(rpk.same s2).get hx
   rw[qr] at ed
   obtain⟨⟨p,own⟩,epk,rfl⟩:=jb.mp ed
   obtain⟨pa',ys,rfl,qpa,y0,r0,rfl,g0,y1,r1,rfl,g1,g2⟩:=rd
   cases(show r1=[] from g2)
   cases(show y0=_ from g0)
   cases(show y1=_ from g1)
   have hp:=pin _ (qU epk)
   have ep:J.ps[p]? =some J.ps[p]:=ji hp
   generalize J.ps[p]=pa at ep
   refine⟨_,rfl,.inl ⟨rfl,_,SqL.of F2⟩,_,rfl,_,rfl,_,rfl,_,rfl,_,rfl,_,rfl,l,fo,_,_,rfl,rfl,s2 _ _ elx,F2,by omega,fun c hc=>?_⟩
   have s3:=zd (H:=H2) (o:=.lst (exs++xs)) hc
   have C3:Evs K (upd H2 c (.lst (exs++xs))) c (es++fnd):=⟨_,zb,by rw[zX];exact Reps.app (erx.same (s2.trans s3)) (R2.same s3)⟩
   generalize upd H2 c (.lst (exs++xs))=H3 at s3 C3
   have s3':=s2.trans s3
   refine⟨jp,pa',lk,c,J,p,own,pa,bs,n,es++fnd,rfl,rj.same s3',js,s3.sqT qpa,ep,s3'.seq hk,n10,C3,by rw[zV];omega,fun q r H4 hq s4 ⟨zs,hz,rz⟩ rl pk=>?_⟩
   have zl:=rz.len
   rw[zq] at zl
   have F4:=s4 _ _ (s3 _ _ F2)
   have R4:Reps K H4 ((fnd++r).map evD) (xs++zs):=by rw[zX];exact Reps.app (R2.same (s3.trans s4)) rz
   have s4':=s3'.trans s4
   refine⟨fo,q,_,_,rfl,rfl,F4,hz,by omega,fnd++r,xs++zs,_,rfl,fun c0 u0 e0=>?_,zb,R4.keep (SameT.put F4) (vp _),by rw[zV];omega,?_⟩
   ·rw[zi (zn e0 hfo)];exact s4' c0 u0 e0
   ·rw[qg epk]
    exact .snoc _ fnd p own pa r pr ep pk
  rintro σ H2 ⟨fnd,xs,v8,rfl,s2,F2,R2,fl,pr⟩
  rw[pxl,qX] at pr
  rw[pxl] at fl
  refine⟨_,rfl,le1,fun wt hwt=>?_⟩
  have s3:=zd (H:=H2) (o:=.tup [.str "picked"]) hwt
  have W3:=zb (H:=H2) (a:=wt) (o:=.tup [.str "picked"])
  generalize upd H2 wt (.tup [.str "picked"])=H3 at s3 W3
  refine⟨fo,wt,fnd,["picked"],rfl,⟨xs,s3 _ _ F2,R2.same s3⟩,SqT.of W3,by omega,fun pd H4 hpd s4 P4=>?_⟩
  have s4':=s2.trans (s3.trans s4)
  have F4:=s4 _ _ (s3 _ _ F2)
  have R4:=R2.same (s3.trans s4)
  have nfp:fo≠pd:=fun z=>by rw[<- z,s3 _ _ F2] at hpd;cases hpd
  refine⟨_,rfl,lt,rfl,⟨_,s4'.sqT ql⟩,Z9 (K:=K) (a:=lt) (xs:=lxs) (zbq jp tp lk n l pt lt fo v8 pd H K pks fnd J es lys) ⟨fnd,xs,_,rfl,s4',F4,R4,by omega,P4,.nil _ rfl⟩ (fun i σ H' _ ⟨_,_,_,_,s',_,_,_,_,_⟩=>s'.sqT ql) ?_ ?_⟩
  ·rintro i x σ H5 hx ⟨out,xs,v10,rfl,s5,F5,R5,ol,P5,lr⟩
   have xl:=R5.len
   rw[zq] at xl
   have il:=(zW.mp hx).1
   obtain⟨d,ed,rd⟩:=(rly.same s5).get hx
   rw[qr] at ed
   obtain⟨p,epl,rfl⟩:=jb.mp ed
   cases(show x=_ from rd)
   have hp:=lin _ (qU epl)
   have ep:J.ps[p]? =some J.ps[p]:=ji hp
   generalize J.ps[p]=pa at ep
   refine⟨_,rfl,_,rfl,pd,_,rfl,.inl (SqL.of P5),rfl,Wa _,_,rfl,?_⟩
   rw[zdn]
   refine jA (fun c1=>?_) (fun c1=>?_)
   ·refine⟨_,rfl,.inl ⟨rfl,_,SqL.of F5⟩,_,rfl,_,rfl,_,rfl,_,rfl,l,fo,_,_,rfl,rfl,s5 _ _ elx,F5,by omega,fun c hc=>?_⟩
    have s6:=zd (H:=H5) (o:=.lst (exs++xs)) hc
    have C6:Evs K (upd H5 c (.lst (exs++xs))) c (es++out):=⟨_,zb,by rw[zX];exact Reps.app (erx.same (s5.trans s6)) (R5.same s6)⟩
    generalize upd H5 c (.lst (exs++xs))=H6 at s6 C6
    have s6':=s5.trans s6
    refine⟨jp,c,J,p,pa,es++out,rfl,rj.same s6',js,ep,C6,by rw[zV];omega,fun T e H7 s7 re lr'=>?_⟩
    have F7:=s7 _ _ (s6 _ _ F5)
    have P7:=s7 _ _ (s6 _ _ P5)
    have R7:Reps K H7 ((out++[e]).map evD) (xs++[.ref T]):=by rw[zX];exact Reps.snoc re (R5.same (s6.trans s7))
    have s7':=s6'.trans s7
    refine⟨fo,_,_,rfl,rfl,F7,by omega,out++[e],xs++[.ref T],_,rfl,fun c0 u0 e0=>?_,zb,R7.keep (SameT.put F7) (vp _),by rw[zV];show _+1<=_;omega,by rw[zi (qy nfp)];exact P7,?_⟩
    ·rw[zi (zn e0 hfo)];exact s7' c0 u0 e0
    ·rw[qg epl]
     exact .lay _ out p pa e lr c1 ep lr'
   ·refine⟨out,xs,_,rfl,s5,F5,R5,by omega,P5,?_⟩
    rw[qg epl]
    exact .skip _ out p lr ((Zw _).mp c1)
  ·rintro σ H5 ⟨out,xs,v10,rfl,s5,F5,R5,ol,_,lr⟩
   rw[lxl,qX] at lr
   rw[lxl] at ol
   exact⟨_,rfl,k fo out H5 hfo s5 ⟨xs,F5,R5⟩ ol ⟨fnd,pr,lr⟩⟩
def Ev.xy:Ev->Int×Int
 | .laid _ _ x y=>(x,y)
 | _=>(0,0)
structure vX(J:Job)(e:Ev):Prop where
 tr:e.w∈zB->e.f<J.fs.length
 ly:inB e.xy
structure JIn(J:Job):Prop where
 g:inB (J.gx,J.gy)
 f:∀f∈J.fs,inB (f.x,f.y)
 p:∀p∈J.ps,inB (p.x,p.y)
def ZW(J:Job)(i:Nat):Int×Int:=((J.fs[i]?.map xH.x).getD 0,(J.fs[i]?.map xH.y).getD 0)
def vG(J:Job)(es:List Ev):List (Int×Int):=(([(J.gx,J.gy)]++(zK zB es).map fun e=>ZW J e.f)++(zK ["laid"] es).map Ev.xy)++[(J.gx,J.gy)]
theorem zgB{es:List Ev}{e:Ev}(h:e∈zK ["laid"] es):∃k,e.r=[.str k,plD e.xy]:=by
 have:=qZ (jn.mp h).2
 cases e with
 | laid p k x y=>exact⟨k,rfl⟩
 | picked p f=>exact absurd (show("picked" : Str)∈(["laid"]:List Str) from this) (by decide)
 | missed p f=>exact absurd (show("missed" : Str)∈(["laid"]:List Str) from this) (by decide)
 | behind p=>exact absurd (show("behind" : Str)∈(["laid"]:List Str) from this) (by decide)
 | none p=>exact absurd (show("none" : Str)∈(["laid"]:List Str) from this) (by decide)
 | failed p=>exact absurd (show("failed" : Str)∈(["laid"]:List Str) from this) (by decide)
 | dropped p=>exact absurd (show("dropped" : Str)∈(["laid"]:List Str) from this) (by decide)
theorem zeP{J:Job}(j:JIn J){i:Nat}(h:i<J.fs.length):inB (ZW J i):=by
 unfold ZW
 rw[ji h]
 exact j.f _ (yV _)
theorem Xk{J:Job}{es:List Ev}(j:JIn J)(h:∀e∈es,vX J e):∀p∈vG J es,inB p:=fun p hp=>by
 rcases qT.mp hp with hp | hp
 ·rcases qT.mp hp with hp | hp
  ·rcases qT.mp hp with hp | hp
   ·rw[qo.mp hp];exact j.g
   ·obtain⟨e,he,rfl⟩:=qB.mp hp
    obtain⟨h1,h2⟩:=jn.mp he
    exact zeP j ((h e h1).tr (qZ h2))
  ·obtain⟨e,he,rfl⟩:=qB.mp hp
   exact(h e (jn.mp he).1).ly
 ·rw[qo.mp hp];exact j.g
theorem zeQ{H:Hp}{J:Job}{fv:List V}{i:Nat}(rf:Reps K H (J.fs.map xS) fv)(hi:i<J.fs.length):∃a c k m,fv[i]? =some (.ref a)/\SqT K H a [.str k,.ref c,.int m]/\Rep K H (plD (ZW J i)) (.ref c):=by
 have pl:=rf.len
 rw[zq] at pl
 obtain⟨xp,exp⟩:∃x,fv[i]? =some x:=⟨_,ji (by rw[pl];exact hi)⟩
 obtain⟨d,ed,rd⟩:=rf.get exp
 rw[qr,ji hi] at ed
 cases ed
 obtain⟨a,c,rfl,q1,q2⟩:=xv rd
 have q2:Rep K _ (.tup [.int _,.int _]) (.ref c):=⟨c,_,rfl,q2,_,_,rfl,rfl,_,_,rfl,rfl,rfl⟩
 refine⟨a,c,_,_,exp,q1,?_⟩
 unfold ZW
 rw[ji hi]
 exact q2
inductive Vo(K:PySem.W.Frag)(vs:List V)(H:Hp)(Q:VK):Prop
 | mk (jp l:Addr) (J:Job) (es:List Ev) (_:vs=[.ref jp,.ref l]) (_:Rep K H (xo J) (.ref jp)) (_:JIn J) (_:Evs K H l es) (_:(∀e∈es,vX J e)) (_:es.length<=400) (_:∀H',Same H H'->Q (.int (xr (vG J es)).sum) H'):Vo K vs H Q
def zcc(K:PySem.W.Frag):Sp:=fun vs H Q _=>Vo K vs H Q
theorem zcr:zF ["job", "events", "feeders", "places"] ["job", "events"] (zt (topL 24)):=⟨rfl,rfl,rfl,by decide +kernel,rfl,by decide +kernel,by decide +kernel⟩
theorem zeo{f tr:Addr}{fd:FuncData}(F:Fun K "way_by" "way_by" (topL 24) f fd)(B:Blt mg)(g_TRIED:mg "TRIED" = some (.ref tr))(G:TxG K tr zB)(Devents_of:Dfn P w K mg base "events_of" 1 ["events", "words"] (VC K))(Dlength_of:Dfn P w K mg base "length_of" 2 ["places"] (zfa K)):qH P w K mg base CX0 3 f fd ["job", "events"] (zcc K):=by
 have nd:=zcr.nd
 refine F.ok zcr (fun vs H Q E h=>?_) (fun cdv A outer s H vs Q E hr h=>?_)
 ·obtain⟨jp,l,J,es,rfl,_⟩:=h
  rfl
 ·obtain⟨jp,l,J,es,rfl,rj,jin,hl,ok,le,k⟩:=h
  have hbig:1000000<sizeLine:=by rw[sizeLine_eq];decide
  obtain⟨g,fs,ps,as,fv,pxs,qj,rg,qf,rf,qp,rp,_⟩:=xI rj
  refine⟨_,(zg (Zg ["job"] [0] rfl rfl (by kernel_rfl) (qJ (zk Devents_of (hr.mono (by decide)) rfl (za (pv 1) (za (yH (v:=.ref tr) rfl g_TRIED rfl) ze)))) (fun _ _ _ _=>jw) (fun _ _ _ _=>(zu (qq (K:=K) rfl) (zu (qq (K:=K) rfl) (zu (qq (K:=K) rfl) (pv 1) zf (fun _ _=>rfl)) (zu (qq (K:=K) rfl) (pv 0) zf (fun _ _=>rfl)) (fun _ _=>rfl)) zf (fun _ _=>rfl))) (zy (i:=2) nd rfl (Or.inl rfl)))
   (zg (Zg [] [] rfl rfl (by kernel_rfl) (qJ (zk Devents_of (hr.mono (by decide)) rfl (za (pv 1) (za (zY (za zP ze)) ze)))) (fun _ _ _ _=>jw) (fun _ _ _ _=>(zu (qq (K:=K) rfl) (pv 0) zf (fun _ _=>rfl))) (zy (i:=3) nd rfl (Or.inl rfl)))
   (zo (zE (zk Dlength_of (hr.mono (by decide)) rfl (za (zA jO (zA jO (zA jO (zN (za (zu qc (pv 0) zf (fun _ _=>rfl)) ze)) (pv 2)) (pv 3)) (zN (za (zu qc (pv 0) zf (fun _ _=>rfl)) ze))) ze)))))),?_⟩
  refine⟨_,rfl,l,tr,es,zB,rfl,hl,G.all _,by omega,fun q H1 hq s1 ⟨xs,hx,rx⟩=>?_⟩
  have z2:(zK zB es).length<=es.length:=jR _ _
  have xl:=rx.len
  rw[zq] at xl
  refine⟨q,rfl,⟨_,SqL.of hx⟩,jH (K:=K) (a:=q) (xs:=xs) (fun i zs H2=>Reps K H2 ((((zK zB es).take i).map fun e=>ZW J e.f).map plD) zs/\Same H1 H2) ⟨rfl,Same.refl _⟩ (fun i zs H2 ⟨_,s2⟩=>SqL.of (s2 _ _ hx)) ?_ ?_⟩
  ·rintro i x zs H2 hx' ⟨rz,s2⟩
   obtain⟨d,ed,rd⟩:=(rx.same s2).get hx'
   rw[qr] at ed
   obtain⟨e,ee,rfl⟩:=jb.mp ed
   obtain⟨a,r,rfl,qa,rr⟩:=yN rd
   have hm:=qU ee
   rw[YJ hm] at rr
   obtain⟨x0,r0,rfl,e0,_⟩:=rr
   cases(show x0=_ from e0)
   have il:=(zW.mp ee).1
   have zl:=rz.len
   rw[zq,zq,qR] at zl
   have hf:=(ok e (jn.mp hm).1).tr (qZ (jn.mp hm).2)
   obtain⟨fa,fc,fk,fm,ef,qfa,rfc⟩:=zeQ rf hf
   have s2':=s1.trans s2
   refine⟨rfl,_,rfl,jp,_,_,_,rfl,rfl,s2'.sqT qj,rfl,_,rfl,a,_,_,_,rfl,rfl,qa,at2,fs,_,_,.ref fa,rfl,rfl,s2'.sqT qf,qk ef,fa,_,_,_,rfl,rfl,s2'.sqT qfa,rfl,by omega,?_,s2⟩
   rw[qg ee,zX,zX]
   exact Reps.snoc (rfc.same s2') rz
  rintro zs H2 ⟨rz,s2⟩
  rw[xl,qX] at rz
  have zl:=rz.len
  rw[zq,zq] at zl
  refine⟨by omega,fun fe hfe=>?_⟩
  have s3:=(s1.trans s2).trans (zd (H:=H2) (o:=.lst zs) hfe)
  have F3:=zb (H:=H2) (a:=fe) (o:=.lst zs)
  have rz3:=rz.same (zd (H:=H2) (o:=.lst zs) hfe)
  generalize upd H2 fe (.lst zs)=H3 at s3 F3 rz3
  clear rz
  refine⟨_,rfl,le1,fun wt hwt=>?_⟩
  have s4:=zd (H:=H3) (o:=.tup [.str "laid"]) hwt
  have W4:=zb (H:=H3) (a:=wt) (o:=.tup [.str "laid"])
  generalize upd H3 wt (.tup [.str "laid"])=H4 at s4 W4
  refine⟨l,wt,es,["laid"],rfl,hl.same (s3.trans s4),SqT.of W4,by omega,fun q2 H5 hq2 s5 ⟨xs2,hx2,rx2⟩=>?_⟩
  have y2:(zK ["laid"] es).length<=es.length:=jR _ _
  have xl2:=rx2.len
  rw[zq] at xl2
  refine⟨q2,rfl,⟨_,SqL.of hx2⟩,jH (K:=K) (a:=q2) (xs:=xs2) (fun i zs H2=>Reps K H2 ((((zK ["laid"] es).take i).map Ev.xy).map plD) zs/\Same H5 H2) ⟨rfl,Same.refl _⟩ (fun i zs H2 ⟨_,s2⟩=>SqL.of (s2 _ _ hx2)) ?_ ?_⟩
  ·rintro i x us H6 hx' ⟨ru,s6⟩
   obtain⟨d,ed,rd⟩:=(rx2.same s6).get hx'
   rw[qr] at ed
   obtain⟨e,ee,rfl⟩:=jb.mp ed
   obtain⟨a,r,rfl,qa,rr⟩:=yN rd
   obtain⟨lk,el⟩:=zgB (qU ee)
   rw[el] at rr
   obtain⟨x0,r0,rfl,e0,x1,r1,rfl,e1,_⟩:=rr
   have il:=(zW.mp ee).1
   have ul:=ru.len
   rw[zq,zq,qR] at ul
   refine⟨rfl,_,rfl,a,_,_,x1,rfl,rfl,qa,(show atI (V.str e.w::V.int (e.p:Int)::x0::x1::r1) ((3:Nat):Int)=some x1 from qk rfl),by omega,?_,s6⟩
   rw[qg ee,zX,zX]
   exact Reps.snoc e1 ru
  rintro us H6 ⟨ru,s6⟩
  rw[xl2,qX] at ru
  have ul:=ru.len
  rw[zq,zq] at ul
  refine⟨by omega,fun pl hpl=>?_⟩
  have t6:=(s4.trans (s5.trans s6)).trans (zd (H:=H6) (o:=.lst us) hpl)
  have P7:=zb (H:=H6) (a:=pl) (o:=.lst us)
  have ru7:=ru.same (zd (H:=H6) (o:=.lst us) hpl)
  generalize upd H6 pl (.lst us)=H7 at t6 P7 ru7
  have s7:=s3.trans t6
  have F7:=t6 _ _ F3
  have rz7:=rz3.same t6
  refine⟨_,rfl,jp,_,_,_,rfl,rfl,s7.sqT qj,rfl,le1,fun a1 h1=>⟨_,rfl,a1,fe,_,_,rfl,rfl,zb,(zd h1) _ _ F7,by show 1+_<=_;omega,fun c1 hc1=>?_⟩⟩
  have s8:=(zd (H:=H7) (o:=.lst [.ref g]) h1).trans (zd (o:=.lst ([.ref g]++zs)) hc1)
  have C8:=zb (H:=upd H7 a1 (.lst [.ref g])) (a:=c1) (o:=.lst ([.ref g]++zs))
  generalize upd (upd H7 a1 (.lst [.ref g])) c1 (.lst ([.ref g]++zs))=H8 at s8 C8
  refine⟨_,rfl,c1,pl,_,_,rfl,rfl,C8,s8 _ _ P7,by rw[zV];show 1+_+_<=_;omega,fun c2 hc2=>?_⟩
  have s9:=s8.trans (zd (H:=H8) (o:=.lst (([.ref g]++zs)++us)) hc2)
  have C9:=zb (H:=H8) (a:=c2) (o:=.lst (([.ref g]++zs)++us))
  generalize upd H8 c2 (.lst (([.ref g]++zs)++us))=H9 at s9 C9
  have s9':=s7.trans s9
  refine⟨_,rfl,jp,_,_,_,rfl,rfl,s9'.sqT qj,rfl,le1,fun a2 h2=>⟨c2,a2,_,_,rfl,rfl,(zd h2) _ _ C9,zb,by rw[zV,zV];show 1+_+_+1<=_;omega,fun c3 hc3=>?_⟩⟩
  have sA:=(zd (H:=H9) (o:=.lst [.ref g]) h2).trans (zd (o:=.lst ((([.ref g]++zs)++us)++[.ref g])) hc3)
  have sA':=s9'.trans sA
  have rgA:=rg.same sA'
  have one:Reps K (upd (upd H9 a2 (.lst [.ref g])) c3 (.lst ((([.ref g]++zs)++us)++[.ref g]))) ([(J.gx,J.gy)].map plD) [.ref g]:=⟨_,_,rfl,rgA,rfl⟩
  refine⟨c3,_,vG J es,rfl,SqL.of zb,?_,Xk jin ok,?_,fun H' s'=>k H' (sA'.trans s')⟩
  ·unfold vG
   rw[zX,zX,zX]
   exact Reps.app (Reps.app (Reps.app one (rz7.same (s9.trans sA))) (ru7.same (s9.trans sA))) one
  ·unfold vG
   rw[zV,zV,zV,zq,zq]
   show 1+_+_+1<=_
   omega
end
theorem zbJ:inB ((0,0):Int×Int):=⟨by decide,by decide,by decide,by decide⟩
theorem VL{J:Job}{pa:xi}{es:List Ev}{f:Nat}(h:f∈xW J pa es):f<J.fs.length:=vd.mp (jn.mp (jn.mp h).1).1
theorem WP{rd:List Nat}{own f:Nat}(h:NF rd own (.int (f:Int))):f∈rd:=by
 generalize hv:V.int (f:Int)=v at h
 cases h with
 | own h=>rw[show f=own by have:=V.int.inj hv;omega];exact h
 | non h=>cases hv
 | least g n h l=>rw[show f=g by have:=V.int.inj hv;omega];exact h
theorem wJ{J:Job}{a b:List Ev}(h:∀e∈a,vX J e)(g:∀e∈b,vX J e):∀e∈a++b,vX J e:=fun e he=>(qT.mp he).elim (h e) (g e)
theorem Zk{J:Job}{x:Ev}(h:vX J x):∀e∈[x],vX J e:=fun e he=>by rw[qo.mp he];exact h
theorem zbC{J:Job}{p:Nat}:vX J (.behind p):=⟨fun h=>absurd (show("behind" : Str)∈zB from h) (by decide),zbJ⟩
theorem zew{J:Job}{p:Nat}:vX J (.none p):=⟨fun h=>absurd (show("none" : Str)∈zB from h) (by decide),zbJ⟩
theorem zbB{J:Job}{p:Nat}:vX J (.failed p):=⟨fun h=>absurd (show("failed" : Str)∈zB from h) (by decide),zbJ⟩
theorem WL{J:Job}{p:Nat}:vX J (.dropped p):=⟨fun h=>absurd (show("dropped" : Str)∈zB from h) (by decide),zbJ⟩
theorem TryR.ok{J:Job}{pa:xi}{p own:Nat}{bs:List Bool}{es:List Ev}{n:Nat}{fnd r:List Ev}(h:TryR J pa p own bs es n fnd r):(∀e∈fnd,vX J e)->∀e∈r,vX J e:=by
 induction h with
 | fin fnd=>exact fun hf=>wJ hf (Zk zbB)
 | none n fnd h=>exact fun hf=>wJ hf (Zk zew)
 | luck n fnd f h g=>exact fun hf=>wJ hf (Zk ⟨fun _=>VL (WP h),zbJ⟩)
 | miss n fnd f r h g t ih=>exact fun hf=>ih (wJ hf (Zk ⟨fun _=>VL (WP h),zbJ⟩))
theorem PksR.ok{J:Job}{bs:List Bool}{n:Nat}{es:List Ev}{pks:List (Nat×Nat)}{r:List Ev}(h:PksR J bs n es pks r):∀e∈r,vX J e:=by
 induction h with
 | nil=>exact fun e he=>nomatch he
 | snoc pks fnd p own pa r h e g ih=>
  refine wJ ih ?_
  rcases g with ⟨_,rfl⟩ | ⟨_,t⟩
  ·exact Zk zbC
  ·exact t.ok fun e he=>nomatch he
theorem LysR.ok{J:Job}(j:JIn J){es pk:List Ev}{lys:List Nat}{r:List Ev}(h:LysR J es pk lys r)(hp:∀e∈pk,vX J e):∀e∈r,vX J e:=by
 induction h with
 | nil fnd h=>rw[h];exact hp
 | skip lys fnd p h g ih=>exact ih
 | lay lys fnd p pa e h g ep l ih=>
  refine wJ ih (Zk ?_)
  rcases l with ⟨_,rfl⟩ | ⟨_,rfl⟩
  ·exact WL
  ·exact⟨fun h=>absurd (show("laid" : Str)∈zB from h) (by decide),j.p _ (qU ep)⟩
theorem TripR.ok{J:Job}(j:JIn J){bs:List Bool}{n:Nat}{es:List Ev}{pks:List (Nat×Nat)}{lys:List Nat}{r:List Ev}(h:TripR J bs n es pks lys r):∀e∈r,vX J e:=let ⟨_,a,b⟩:=h;b.ok j a.ok
inductive RunR(J:Job)(bs:List Bool)(n:Nat):List (List (Nat×Nat)×List Nat)->List Ev->Int->Prop
 | nil:RunR J bs n [] [] 0
 | snoc (ts:List (List (Nat×Nat)×List Nat)) (es:List Ev) (w:Int) (pks:List (Nat×Nat)) (lys:List Nat) (r:List Ev) (h:RunR J bs n ts es w) (t:TripR J bs n es pks lys r):RunR J bs n (ts++[(pks,lys)]) (es++r) (w+(xr (vG J r)).sum)
def wo(bs:List Bool)(s:Nat):Bool:=if bs.length<=s then true else bs.getD s false
def spent(es:List Ev):Nat:=(zK zB es).length
theorem yJ(bs:List Bool)(es:List Ev):ZB bs es=wo bs (spent es):=rfl
theorem zG(ws:List Str)(a b:List Ev):zK ws (a++b)=zK ws a++zK ws b:=vg ..
theorem jx(a b:List Ev):spent (a++b)=spent a+spent b:=by unfold spent;rw[zG,zV]
theorem Ze{e:Ev}(h:e.w∈zB):spent [e]=1:=by
 show([e].filter fun e=>decide (e.w∈zB)).length=1
 rw[QV (p:=fun e:Ev=>decide (e.w∈zB)) (qQ h)];rfl
theorem zd5(p f:Nat):spent [.picked p f]=1:=Ze (show("picked" : Str)∈zB by decide)
theorem YK(p f:Nat):spent [.missed p f]=1:=Ze (show("missed" : Str)∈zB by decide)
theorem NF.uniq{rd:List Nat}{own:Nat}{v v':V}(a:NF rd own v)(b:NF rd own v'):v=v':=by
 cases a with
 | own h=>
  cases b with
  | own _=>rfl
  | non h'=>rw[h'] at h;cases h
  | least f n _ _=>exact absurd h n
 | non h=>
  cases b with
  | own h'=>rw[h] at h';cases h'
  | non _=>rfl
  | least f n h' _=>rw[h] at h';cases h'
 | least f n h l=>
  cases b with
  | own h'=>exact absurd h' n
  | non h'=>rw[h'] at h;cases h
  | least f' _ h' l'=>
   have:=l f' h'
   have:=l' f h
   rw[show f=f' by omega]
theorem NF.f_uniq{rd:List Nat}{own f f':Nat}(a:NF rd own (.int (f:Int)))(b:NF rd own (.int (f':Int))):f=f':=by
 have:=V.int.inj (a.uniq b)
 omega
section
variable{J:Job}{pa:xi}{p own n:Nat}{bs bs':List Bool}{es:List Ev}
theorem TryR.pre{fnd r:List Ev}(h:TryR J pa p own bs es n fnd r):∃r',r=fnd++r':=by
 induction h with
 | fin fnd=>exact⟨_,rfl⟩
 | none n fnd h=>exact⟨_,rfl⟩
 | luck n fnd f h g=>exact⟨_,rfl⟩
 | miss n fnd f r h g t ih=>
  obtain⟨r',e⟩:=ih
  exact⟨[.missed p f]++r',by rw[e,jC]⟩
theorem TryR.agree{fnd r:List Ev}(h:TryR J pa p own bs es n fnd r):(∀s,s<spent (es++r)->wo bs s=wo bs' s)->TryR J pa p own bs' es n fnd r:=by
 induction h with
 | fin fnd=>exact fun _=>.fin fnd
 | none n fnd h=>exact fun _=>.none n fnd h
 | luck n fnd f h g=>
  intro a
  refine .luck n fnd f h ?_
  rw[yJ,<- a _ (by rw[<- jC,jx _ [_],zd5];omega),<- yJ]
  exact g
 | miss n fnd f r h g t ih=>
  intro a
  refine .miss n fnd f r h ?_ (ih a)
  obtain⟨r',e⟩:=t.pre
  rw[yJ,<- a _ (by simp only[e,jx,YK];omega),<- yJ]
  exact g
theorem TryR.uniq{fnd r r':List Ev}(h:TryR J pa p own bs es n fnd r)(h':TryR J pa p own bs es n fnd r'):r=r':=by
 induction h with
 | fin fnd=>cases h';rfl
 | none n fnd h=>
  cases h' with
  | none _ _ _=>rfl
  | luck _ _ f g _=>exact absurd (h.uniq g) (fun z=>nomatch z)
  | miss _ _ f _ g _ _=>exact absurd (h.uniq g) (fun z=>nomatch z)
 | luck n fnd f h g=>
  cases h' with
  | none _ _ g'=>exact absurd (g'.uniq h) (fun z=>nomatch z)
  | luck _ _ f' g' _=>rw[h.f_uniq g']
  | miss _ _ f' _ _ g' _=>rw[g] at g';cases g'
 | miss n fnd f r h g t ih=>
  cases h' with
  | none _ _ g'=>exact absurd (g'.uniq h) (fun z=>nomatch z)
  | luck _ _ f' _ g'=>rw[g] at g';cases g'
  | miss _ _ f' _ g' _ t'=>rw[h.f_uniq g'] at ih;exact ih t'
theorem PickR.agree{r:List Ev}(h:PickR J pa p own bs n es r)(a:∀s,s<spent (es++r)->wo bs s=wo bs' s):PickR J pa p own bs' n es r:=h.imp id fun ⟨x,y⟩=>⟨x,y.agree a⟩
theorem PickR.uniq{r r':List Ev}(h:PickR J pa p own bs n es r)(h':PickR J pa p own bs n es r'):r=r':=by
 rcases h with ⟨a,rfl⟩ | ⟨a,t⟩
 ·rcases h' with ⟨_,rfl⟩ | ⟨b,_⟩
  ·rfl
  ·exact absurd a b
 ·rcases h' with ⟨b,_⟩ | ⟨_,t'⟩
  ·exact absurd b a
  ·exact t.uniq t'
end
section
variable{J:Job}{n:Nat}{bs bs':List Bool}{es:List Ev}
theorem PksR.agree{pks:List (Nat×Nat)}{fnd:List Ev}(h:PksR J bs n es pks fnd):(∀s,s<spent (es++fnd)->wo bs s=wo bs' s)->PksR J bs' n es pks fnd:=by
 induction h with
 | nil=>exact fun _=>.nil
 | snoc pks fnd p own pa r h e g ih=>
  intro a
  refine .snoc pks fnd p own pa r (ih fun s hs=>a s ?_) e (g.agree fun s hs=>a s (by rw[<- jC];exact hs))
  rw[<- jC,jx (es++fnd)];omega
theorem xO{α:Type}{a b:List α}{x y:α}(h:a++[x]=b++[y]):a=b/\x=y:=by
 have:=List.append_inj' h rfl
 exact⟨this.1,by simpa using this.2⟩
theorem PksR.uniq{pks pks':List (Nat×Nat)}{fnd fnd':List Ev}(h:PksR J bs n es pks fnd)(h':PksR J bs n es pks' fnd')(e:pks=pks'):fnd=fnd':=by
 induction h generalizing pks' fnd' with
 | nil=>
  cases h' with
  | nil=>rfl
  | snoc pks _ p own _ _ _ _ _=>exact absurd e.symm (by simp)
 | snoc pks fnd p own pa r h ep g ih=>
  cases h' with
  | nil=>exact absurd e (by simp)
  | snoc pks2 fnd2 p2 own2 pa2 r2 h2 ep2 g2=>
   obtain⟨e1,e2⟩:=xO e
   cases e2
   cases ih h2 e1
   rw[ep] at ep2
   cases ep2
   rw[g.uniq g2]
theorem LysR.uniq{pk:List Ev}{l l':List Nat}{r r':List Ev}(h:LysR J es pk l r)(h':LysR J es pk l' r')(e:l=l'):r=r':=by
 induction h generalizing l' r' with
 | nil fnd h=>
  cases h' with
  | nil _ h2=>rw[h,h2]
  | skip l _ _ _ _=>exact absurd e.symm (by simp)
  | lay l _ _ _ _ _ _ _ _=>exact absurd e.symm (by simp)
 | skip l fnd p h g ih=>
  cases h' with
  | nil _ _=>exact absurd e (by simp)
  | skip l2 _ p2 h2 _=>
   obtain⟨e1,_⟩:=xO e
   exact ih h2 e1
  | lay l2 _ p2 _ _ _ g2 _ _=>
   obtain⟨_,rfl⟩:=xO e
   rw[g] at g2;cases g2
 | lay l fnd p pa x h g ep ly ih=>
  cases h' with
  | nil _ _=>exact absurd e (by simp)
  | skip l2 _ p2 _ g2=>
   obtain⟨_,rfl⟩:=xO e
   rw[g] at g2;cases g2
  | lay l2 fnd2 p2 pa2 x2 h2 _ ep2 ly2=>
   obtain⟨e1,rfl⟩:=xO e
   cases ih h2 e1
   rw[ep] at ep2
   cases ep2
   rcases ly with ⟨a,rfl⟩ | ⟨a,rfl⟩
   ·rcases ly2 with ⟨_,rfl⟩ | ⟨b,_⟩
    ·rfl
    ·exact absurd a b
   ·rcases ly2 with ⟨b,_⟩ | ⟨_,rfl⟩
    ·exact absurd b a
    ·rfl
theorem LysR.pre{pk:List Ev}{l:List Nat}{r:List Ev}(h:LysR J es pk l r):∃r',r=pk++r':=by
 induction h with
 | nil fnd h=>exact⟨[],by rw[h,qK]⟩
 | skip l fnd p h g ih=>exact ih
 | lay l fnd p pa x h g ep ly ih=>
  obtain⟨r',e⟩:=ih
  exact⟨r'++[x],by rw[e,jC]⟩
theorem TripR.agree{pks:List (Nat×Nat)}{l:List Nat}{r:List Ev}(h:TripR J bs n es pks l r)(a:∀s,s<spent (es++r)->wo bs s=wo bs' s):TripR J bs' n es pks l r:=by
 obtain⟨fnd,h1,h2⟩:=h
 obtain⟨r',e⟩:=h2.pre
 exact⟨fnd,h1.agree fun s hs=>a s (by rw[e,<- jC,jx];omega),h2⟩
theorem TripR.uniq{pks:List (Nat×Nat)}{l:List Nat}{r r':List Ev}(h:TripR J bs n es pks l r)(h':TripR J bs n es pks l r'):r=r':=by
 obtain⟨fnd,h1,h2⟩:=h
 obtain⟨fnd',h1',h2'⟩:=h'
 cases h1.uniq h1' rfl
 exact h2.uniq h2' rfl
end
section
variable{J:Job}{n:Nat}{bs bs':List Bool}
theorem RunR.agree{ts:List (List (Nat×Nat)×List Nat)}{es:List Ev}{w:Int}(h:RunR J bs n ts es w):(∀s,s<spent es->wo bs s=wo bs' s)->RunR J bs' n ts es w:=by
 induction h with
 | nil=>exact fun _=>.nil
 | snoc ts es w pks l r h t ih=>exact fun a=>.snoc ts es w pks l r (ih fun s hs=>a s (by rw[jx];omega)) (t.agree a)
theorem RunR.uniq{ts ts':List (List (Nat×Nat)×List Nat)}{es es':List Ev}{w w':Int}(h:RunR J bs n ts es w)(h':RunR J bs n ts' es' w')(e:ts=ts'):es=es'/\w=w':=by
 induction h generalizing ts' es' w' with
 | nil=>
  cases h' with
  | nil=>exact⟨rfl,rfl⟩
  | snoc ts _ _ _ _ _ _ _=>exact absurd e.symm (by simp)
 | snoc ts es w pks l r h t ih=>
  cases h' with
  | nil=>exact absurd e (by simp)
  | snoc ts2 es2 w2 pks2 l2 r2 h2 t2=>
   obtain⟨e1,e2⟩:=xO e
   cases e2
   obtain⟨rfl,rfl⟩:=ih h2 e1
   cases t.uniq t2
   exact⟨rfl,rfl⟩
theorem RunR.same{ts:List (List (Nat×Nat)×List Nat)}{es es':List Ev}{w w':Int}(h:RunR J bs n ts es w)(h':RunR J bs' n ts es' w')(a:∀s,s<spent es->wo bs s=wo bs' s):es=es'/\w=w':=(h.agree a).uniq h' rfl
end
def XR(ts:List (List (Nat×Nat)×List Nat)):List (Nat×Nat):=ts.flatMap (·.1)
theorem zbW(ts:List (List (Nat×Nat)×List Nat))(t:List (Nat×Nat)×List Nat):XR (ts++[t])=XR ts++t.1:=by
 unfold XR
 rw[Yn,List.flatMap_cons,List.flatMap_nil,qK]
theorem zdb{α:Type}[DecidableEq α]:∀{l m:List α},l.Nodup->(∀x∈l,x∈m)->l.length<=m.length
 | [],_,_,_=>qe _
 | a::l,m,nd,h=>by
  obtain⟨n1,n2⟩:=yr.mp nd
  have ha:=h a j8
  have:=zdb (l:=l) (m:=m.erase a) n2 fun x hx=>(List.mem_erase_of_ne (fun z=>n1 (by rw[<- z];exact hx))).mpr (h x (jv _ hx))
  rw[Yy ha] at this
  have:=Yu ha
  rw[xU];omega
inductive PkX(p:Nat):Ev->Prop
 | behind:PkX p (.behind p)
 | none:PkX p (.none p)
 | failed:PkX p (.failed p)
 | picked (f:Nat):PkX p (.picked p f)
inductive PkN(p:Nat):Ev->Prop
 | behind:PkN p (.behind p)
 | none:PkN p (.none p)
 | failed:PkN p (.failed p)
section
variable{J:Job}{pa:xi}{p own n:Nat}{bs:List Bool}{es:List Ev}
theorem TryR.form{fnd r:List Ev}(h:TryR J pa p own bs es n fnd r):∃(fs:List Nat) (x:Ev),r=fnd++fs.map (.missed p)++[x]/\fs.length<=n/\PkX p x:=by
 induction h with
 | fin fnd=>exact⟨[],_,by simp,qe _,.failed⟩
 | none n fnd h=>exact⟨[],_,by simp,qe _,.none⟩
 | luck n fnd f h g=>exact⟨[],_,by simp,qe _,.picked f⟩
 | miss n fnd f r h g t ih=>
  obtain⟨fs,x,e,l,k⟩:=ih
  exact⟨f::fs,x,by rw[e];simp,by rw[xU];omega,k⟩
theorem PickR.form{r:List Ev}(h:PickR J pa p own bs n es r):∃(fs:List Nat) (x:Ev),r=fs.map (.missed p)++[x]/\fs.length<=n/\PkX p x:=by
 rcases h with ⟨_,rfl⟩ | ⟨_,t⟩
 ·exact⟨[],_,rfl,qe _,.behind⟩
 ·obtain⟨fs,x,e,l,k⟩:=t.form
  exact⟨fs,x,by rw[e,Q1],l,k⟩
theorem vJ(ws:List Str)(h:("missed" : Str)∉ws)(p:Nat):∀fs:List Nat,zK ws (fs.map (.missed p))=[]
 | []=>rfl
 | f::fs=>by
  show zK ws ([.missed p f]++fs.map (.missed p))=[]
  rw[zG,vJ ws h p fs,qK]
  exact ZN (p:=fun e:Ev=>decide (e.w∈ws)) (fun z=>h (qZ z))
theorem QF(ws:List Str)(e:Ev):zK ws [e]=if decide (e.w∈ws)=true then [e] else []:=by
 unfold zK
 rw[ZK];rfl
theorem PkX.one{x:Ev}(h:PkX p x):(zK zI [x]).length+(zK ["picked"] [x]).length=1/\zK ["laid"] [x]=[]/\spent [x]<=1:=by
 cases h<;>exact⟨rfl,rfl,by first| exact zJ _ | exact qe _⟩
theorem Vn(p:Nat):∀fs:List Nat,spent (fs.map (.missed p))=fs.length
 | []=>rfl
 | f::fs=>by
  show spent ([.missed p f]++fs.map (.missed p))=_
  rw[jx,YK,Vn p fs,xU];omega
theorem PickR.counts{r:List Ev}(h:PickR J pa p own bs n es r):(zK zI r).length+(zK ["picked"] r).length=1/\zK ["laid"] r=[]/\spent r<=n+1:=by
 obtain⟨fs,x,rfl,l,k⟩:=h.form
 obtain⟨a,b,c⟩:=k.one
 rw[zG,zG,zG,vJ _ (by decide),vJ _ (by decide),vJ _ (by decide),jx,Vn]
 exact⟨a,b,by omega⟩
end
section
variable{J:Job}{n:Nat}{bs:List Bool}{es:List Ev}
theorem PksR.counts{pks:List (Nat×Nat)}{fnd:List Ev}(h:PksR J bs n es pks fnd):(zK zI fnd).length+(zK ["picked"] fnd).length=pks.length/\zK ["laid"] fnd=[]/\spent fnd<=(n+1)*pks.length:=by
 induction h with
 | nil=>exact⟨rfl,rfl,qe _⟩
 | snoc pks fnd p own pa r h e g ih=>
  obtain⟨a,b,c⟩:=ih
  obtain⟨a',b',c'⟩:=g.counts
  rw[zG,zG,zG,zV,zV,zV,b,b',jx,Nat.mul_add]
  exact⟨by show _=pks.length+1;omega,rfl,by show _<=_+(n+1)*1;omega⟩
theorem LysR.parts{pk:List Ev}{l:List Nat}{r:List Ev}(h:LysR J es pk l r):∃ls:List Ev,r=pk++ls/\(ls.map Ev.p).Sublist l/\(∀e∈ls,∃x∈zK ["picked"] pk,x.p=e.p)/\(zK zI ls).length+(zK ["laid"] ls).length=ls.length/\spent ls=0/\zK ["picked"] ls=[]:=by
 induction h with
 | nil fnd h=>exact⟨[],by rw[h,qK],X3 _,(fun e he=>nomatch he),rfl,rfl,rfl⟩
 | skip l fnd p h g ih=>
  obtain⟨ls,a,b,c⟩:=ih
  exact⟨ls,a,b.trans (List.sublist_append_left _ _),c⟩
 | lay l fnd p pa x h g ep ly ih=>
  obtain⟨ls,a,b,c,d,e,f⟩:=ih
  have px:x.p=p:=by rcases ly with ⟨_,rfl⟩ | ⟨_,rfl⟩<;>rfl
  have ox:(zK zI [x]).length+(zK ["laid"] [x]).length=1/\spent [x]=0/\zK ["picked"] [x]=[]:=by rcases ly with ⟨_,rfl⟩ | ⟨_,rfl⟩<;>exact⟨rfl,rfl,rfl⟩
  refine⟨ls++[x],by rw[a,jC],?_,fun y hy=>?_,?_,by rw[jx,e,ox.2.1],by rw[zG,f,ox.2.2];rfl⟩
  ·rw[zX]
   exact b.append (by rw[<- px];exact X3 _)
  ·rcases qT.mp hy with z | z
   ·exact c y z
   ·cases qo.mp z
    obtain⟨u,hu,eu⟩:=vP.mp g
    exact⟨u,hu,by have:=eq_of_beq eu;omega⟩
  ·rw[zG,zG,zV,zV,zV]
   have:=ox.1
   show _=_+1
   omega
theorem TripR.counts{pks:List (Nat×Nat)}{l:List Nat}{r:List Ev}(h:TripR J bs n es pks l r)(nd:l.Nodup):(zK zI r).length+(zK ["laid"] r).length<=pks.length/\spent r<=(n+1)*pks.length:=by
 obtain⟨fnd,h1,h2⟩:=h
 obtain⟨a,b,c⟩:=h1.counts
 obtain⟨ls,rfl,s,m,d,e,_⟩:=h2.parts
 have le:=zdb (nd.sublist s) (m:=(zK ["picked"] fnd).map Ev.p) fun q hq=>by
  obtain⟨y,hy,rfl⟩:=qB.mp hq
  obtain⟨x,hx,ex⟩:=m y hy
  exact qB.mpr ⟨x,hx,ex⟩
 rw[zq,zq] at le
 rw[zG,zG,zV,zV,b,jx,e]
 exact⟨by show _+(0+_)<=_;omega,by omega⟩
theorem RunR.counts{ts:List (List (Nat×Nat)×List Nat)}{es:List Ev}{w:Int}(h:RunR J bs n ts es w):(∀t∈ts,t.2.Nodup)->(zK zI es).length+(zK ["laid"] es).length<=(XR ts).length/\spent es<=(n+1)*(XR ts).length:=by
 induction h with
 | nil=>exact fun _=>⟨qe _,qe _⟩
 | snoc ts es w pks l r h t ih=>
  intro nd
  obtain⟨a,b⟩:=ih fun t ht=>nd t (vw _ ht)
  obtain⟨a',b'⟩:=t.counts (nd (pks,l) (jL _ (qo.mpr rfl)))
  rw[zG,zG,zV,zV,zbW,zV,jx,Nat.mul_add]
  exact⟨by show _<=_+pks.length;omega,by show _<=_+(n+1)*pks.length;omega⟩
end
def mOf(J:Job)(f:Nat):Int:=(J.fs[f]?.map xH.m).getD 0
def Stk(J:Job)(es:List Ev):Prop:=∀f:Nat,((qV es).count (f:Int):Int)<=mOf J f
theorem Zb(a b:List Ev):qV (a++b)=qV a++qV b:=by unfold qV;rw[zG,zX]
theorem zb8{e:Ev}(h:e.w∈zB):qV [e]=[(e.f:Int)]:=by
 unfold qV
 rw[QF,zH (qQ h)];rfl
theorem zb9{e:Ev}(h:e.w∉zB):qV [e]=[]:=by
 unfold qV
 rw[QF,zx (fun z=>h (qZ z))];rfl
theorem Stk.no{J:Job}{es:List Ev}{e:Ev}(s:Stk J es)(h:e.w∉zB):Stk J (es++[e]):=fun f=>by rw[Zb,zb9 h,qK];exact s f
theorem Stk.tr{J:Job}{es:List Ev}{e:Ev}(s:Stk J es)(h:e.w∈zB)(l:((qV es).count (e.f:Int):Int)<mOf J e.f):Stk J (es++[e]):=fun f=>by
 rw[Zb,zb8 h,X4]
 by_cases z:e.f=f
 ·subst z
  rw[Yz]
  omega
 ·rw[zdS (a:=(f:Int)) (l:=[(e.f:Int)]) (fun y=>z (by have:=qo.mp y;omega))]
  exact s f
theorem JG{J:Job}{pa:xi}{es:List Ev}{own f:Nat}(h:NF (xW J pa es) own (.int (f:Int))):((qV es).count (f:Int):Int)<mOf J f:=qZ (jn.mp (WP h)).2
section
variable{J:Job}{pa:xi}{p own n:Nat}{bs:List Bool}{es:List Ev}
theorem TryR.stk{fnd r:List Ev}(h:TryR J pa p own bs es n fnd r):Stk J (es++fnd)->Stk J (es++r):=by
 induction h with
 | fin fnd=>exact fun s=>by rw[<- jC];exact s.no (show("failed" : Str)∉zB by decide)
 | none n fnd h=>exact fun s=>by rw[<- jC];exact s.no (show("none" : Str)∉zB by decide)
 | luck n fnd f h g=>exact fun s=>by rw[<- jC];exact s.tr (e:=.picked p f) (show("picked" : Str)∈zB by decide) (JG h)
 | miss n fnd f r h g t ih=>exact fun s=>ih (by rw[<- jC];exact s.tr (e:=.missed p f) (show("missed" : Str)∈zB by decide) (JG h))
theorem PickR.stk{r:List Ev}(h:PickR J pa p own bs n es r)(s:Stk J es):Stk J (es++r):=by
 rcases h with ⟨_,rfl⟩ | ⟨_,t⟩
 ·exact s.no (show("behind" : Str)∉zB by decide)
 ·exact t.stk (by rw[qK];exact s)
end
def isM(q:Nat)(e:Ev):Bool:=decide (e.w = "missed")&&decide (e.p=q)
def qtW:List Str:=["picked", "laid", "dropped"]
structure Unl(n:Nat)(ps:List Nat)(r:List Ev):Prop where
 gv:(zK zI r).map Ev.p=ps
 qt:∀e∈r,e.w∉qtW
 ms:∀q,(r.filter (isM q)).length<=n*ps.count q
theorem Unl.nil{n:Nat}:Unl n [] []:=⟨rfl,(fun e he=>nomatch he),fun q=>qe _⟩
theorem Unl.app{n:Nat}{ps ps':List Nat}{r r':List Ev}(a:Unl n ps r)(b:Unl n ps' r'):Unl n (ps++ps') (r++r'):=by
 refine⟨by rw[zG,zX,a.gv,b.gv],fun e he=>(qT.mp he).elim (a.qt e) (b.qt e),fun q=>?_⟩
 have:=a.ms q
 have:=b.ms q
 rw[vg,zV,X4,Nat.mul_add]
 omega
theorem Unl.one{n p:Nat}{fs:List Nat}{x:Ev}(l:fs.length<=n)(k:PkN p x):Unl n [p] (fs.map (.missed p)++[x]):=by
 have m0:∀q,isM q x=false:=fun q=>by cases k<;>rfl
 refine⟨?_,fun e he=>?_,fun q=>?_⟩
 ·rw[zG,vJ _ (by decide),Q1]
  cases k<;>rfl
 ·rcases qT.mp he with z | z
  ·obtain⟨f,_,rfl⟩:=qB.mp z
   exact(show("missed" : Str)∉qtW by decide)
  ·cases qo.mp z
   cases k
   ·exact(show("behind" : Str)∉qtW by decide)
   ·exact(show("none" : Str)∉qtW by decide)
   ·exact(show("failed" : Str)∉qtW by decide)
 ·rw[vg,ZN (by rw[m0 q];exact qC),Zu,qK]
  by_cases z:p=q
  ·subst z
   rw[Yz,Nat.mul_one]
   exact ja (jR _ _) (by rw[zq];exact l)
  ·have:(fs.map (Ev.missed p)).filter (isM q)=[]:=Wq.mpr fun e he=>by
    obtain⟨f,_,rfl⟩:=qB.mp he
    intro y
    have:=(jG _ _▸y:decide ((Ev.missed p f).w = "missed")=true/\decide ((Ev.missed p f).p=q)=true).2
    exact z (qZ this)
   rw[this];exact qe _
theorem Unl.none{n:Nat}{ps:List Nat}{r:List Ev}(u:Unl n ps r){ws:List Str}(h:∀w∈ws,w∈qtW):zK ws r=[]:=Wq.mpr fun e he z=>u.qt e he (h _ (qZ z))
section
variable{J:Job}{n:Nat}{bs:List Bool}{es:List Ev}
theorem PksR.stk{pks:List (Nat×Nat)}{fnd:List Ev}(h:PksR J bs n es pks fnd)(s:Stk J es):Stk J (es++fnd):=by
 induction h with
 | nil=>rw[qK];exact s
 | snoc pks fnd p own pa r h e g ih=>rw[<- jC];exact g.stk ih
theorem LysR.stk{pk:List Ev}{l:List Nat}{r:List Ev}(h:LysR J es pk l r)(s:Stk J (es++pk)):Stk J (es++r):=by
 obtain⟨ls,rfl,_,_,_,z,_⟩:=h.parts
 intro f
 have:qV ls=[]:=List.eq_nil_of_length_eq_zero (by unfold qV;rw[zq];exact z)
 rw[<- jC,Zb,this,qK]
 exact s f
end
section
variable{J:Job}{n:Nat}{bs:List Bool}
theorem RunR.stk{ts:List (List (Nat×Nat)×List Nat)}{es:List Ev}{w:Int}(h:RunR J bs n ts es w)(s:∀f,0<=mOf J f):Stk J es:=by
 induction h with
 | nil=>exact fun f=>s f
 | snoc ts es w pks l r h t ih=>
  obtain⟨fnd,h1,h2⟩:=t
  exact h2.stk (h1.stk ih)
end
section
variable{P:Program}{w:World}{K:PySem.W.Frag}{mg:Str->Option Value}{base:Heap}
inductive YT(K:PySem.W.Frag)(vs:List V)(H:Hp)(Q:VK):Prop
 | mk (jp pl lk:Addr) (J:Job) (ts:List (List (Nat×Nat)×List Nat)) (bs:List Bool) (n:Nat) (_:vs=[.ref jp,.ref pl,.ref lk,.int (n:Int)]) (_:Rep K H (xo J) (.ref jp)) (_:JSm J) (_:JIn J) (_:Rep K H (.lst (ts.map fun t=>zfY t.1 t.2)) (.ref pl)) (_:ts.length<=60) (_:(XR ts).length<=60) (_:(∀t∈ts,t.2.Nodup)) (_:(∀t∈ts,t.1.length<=4/\t.2.length<=4/\(∀q∈t.1,q.1<J.ps.length)/\∀q∈t.2,q<J.ps.length)) (_:SqL K H lk (bs.map V.bl)) (_:n<=10) (_:∀(T eo a b:Addr) (es:List Ev) (w:Int) (ls gs:List Int) H',Same H H'->H' T=some (.tup [.ref eo,.ref a,.ref b,.int w])->Evs K H' eo es->H' a=some (.lst (ls.map V.int))->H' b=some (.lst (gs.map V.int))->ls.Perm ((zK ["laid"] es).map fun e=>(e.p:Int))->ls.Pairwise (·<= ·)->gs.Perm ((zK zI es).map fun e=>(e.p:Int))->gs.Pairwise (·<= ·)->es.length<=5000->RunR J bs n ts es w->H eo=none->H a=none->H b=none->H T=none->eo≠a->eo≠b->a≠b->Q (.ref T) H'):YT K vs H Q
def zcf(K:PySem.W.Frag):Sp:=fun vs H Q _=>YT K vs H Q
theorem zfi:zF ["job", "plan", "luck", "tries", "events", "way", "trip", "found"] ["job", "plan", "luck", "tries"] (zt (topL 25)):=⟨rfl,rfl,rfl,by decide +kernel,rfl,by decide +kernel,by decide +kernel⟩
def zbp(jp:_)(pl:_)(lk:_)(n:Nat)(eo:_)(H:_)(K:_)(J:Job)(bs:List Bool)(ts:List (List (Nat×Nat)×List Nat)):=fun(i:Nat) (σ:St) (H':Hp)=>(Ex5 fun(es:List Ev) (xs:List V) (wy:Int) (v6 v7:Option V)=>An6 (σ=[some (.ref jp),some (.ref pl),some (.ref lk),some (.int (n:Int)),some (.ref eo),some (.int wy),v6,v7]) (Same H H') (H' eo=some (.lst xs)) (Reps K H' (es.map evD) xs) (es.length<=48*i) (RunR J bs n (ts.take i) es wy):Prop)
theorem zgl{f gu:Addr}{fd:FuncData}(F:Fun K "run_plan" "run_plan" (topL 25) f fd)(B:Blt mg)(g_GIVEN_UP:mg "GIVEN_UP" = some (.ref gu))(G:TxG K gu zI)(Dtrip_events:Dfn P w K mg base "trip_events" 6 ["job", "trip", "luck", "tries", "events"] (ze7 K))(Dway_by:Dfn P w K mg base "way_by" 3 ["job", "events"] (zcc K))(Dparts_of:Dfn P w K mg base "parts_of" 2 ["events", "words"] (YX K)):qH P w K mg base CX0 7 f fd ["job", "plan", "luck", "tries"] (zcf K):=by
 have nd:=zfi.nd
 refine F.ok zfi (fun vs H Q E h=>?_) (fun cdv A outer s H vs Q E hr h=>?_)
 ·obtain⟨jp,pl,lk,J,ts,bs,n,rfl,_⟩:=h
  rfl
 ·obtain⟨jp,pl,lk,J,ts,bs,n,rfl,rj,js,jin,rpl,t2,ap,tnd,tin,hk,n10,k⟩:=h
  have hbig:1000000<sizeLine:=by rw[sizeLine_eq];decide
  obtain⟨pl',pxs,e0,qpl,rpx⟩:=rpl
  cases e0
  have pxl:=rpx.len
  rw[zq] at pxl
  refine⟨_,(zg (zC (i:=4) nd rfl (Or.inl rfl) (zN ze))
   (zg (zC (i:=5) nd rfl (Or.inl rfl) zf)
   (zg (qW ju rfl (qJ (pv 1)) (zy (i:=6) nd rfl (Or.inl rfl))
   (zg (zC (i:=7) nd rfl (Or.inl rfl) (zk Dtrip_events (hr.mono (by decide)) rfl (pa5 (pv 0) (pv 6) (pv 2) (pv 3) (pv 4))))
    (zg (z7 (jm jh Yx Yw Zm (pv 4) (za (pv 7) ze)))
    (zo (zf9 (i:=5) nd rfl (Or.inl rfl) (zk Dway_by (hr.mono (by decide)) rfl (za (pv 0) (za (pv 7) ze))) zgI)))))
   (zo (zE (zY (za (pv 4) (za (zp xC rfl B.sorted xw (za (zk Dparts_of (hr.mono (by decide)) rfl (za (pv 4) (za (zY (za zP ze)) ze))) ze)) (za (zp xC rfl B.sorted xw (za (zk Dparts_of (hr.mono (by decide)) rfl (za (pv 4) (za (yH (v:=.ref gu) rfl g_GIVEN_UP rfl) ze))) ze)) (za (pv 5) ze)))))))))),?_⟩
  refine⟨le0,fun eo heo=>?_⟩
  have s1:=zd (H:=H) (o:=.lst []) heo
  refine⟨_,rfl,pl,rfl,⟨_,s1.seq qpl⟩,xc (K:=K) (a:=pl) (xs:=pxs) (zbp jp pl lk n eo H K J bs ts) ⟨[],[],0,_,_,rfl,s1,zb,rfl,zJ _,.nil⟩ (fun i σ H' _ ⟨_,_,_,_,_,_,s',_,_,_,_⟩=>s'.seq qpl) ?_ ?_⟩
  ·rintro i x σ H2 hx ⟨es,xs,wy,v6,v7,rfl,s2,F2,R2,el,rr⟩
   have xl:=R2.len
   rw[zq] at xl
   have il:=(zW.mp hx).1
   obtain⟨d,ed,rd⟩:=(rpx.same s2).get hx
   rw[qr] at ed
   obtain⟨⟨pks,lys⟩,et,rfl⟩:=jb.mp ed
   obtain⟨h1,h2,h3,h4⟩:=tin _ (qU et)
   dsimp only at h1 h2 h3 h4 rd
   have rd':=rd
   obtain⟨tp,_,rfl,_⟩:=rd'
   refine⟨_,rfl,_,rfl,_,rfl,_,rfl,_,rfl,jp,tp,lk,eo,J,pks,lys,bs,n,es,rfl,rj.same s2,js,rd,h3,h4,by omega,by omega,s2.seq hk,n10,⟨xs,F2,R2⟩,by omega,fun q r H3 hq s3 ⟨zs,hz,rz⟩ rl tr=>?_⟩
   have zl:=rz.len
   rw[zq] at zl
   have F3:=s3 _ _ F2
   have s3':=s2.trans s3
   have nqe:q≠eo:=fun z=>by rw[z,F2] at hq;cases hq
   refine⟨_,rfl,.inl ⟨rfl,_,SqL.of F3⟩,_,rfl,eo,q,_,_,rfl,rfl,F3,hz,by omega,?_⟩
   have R3:Reps K H3 ((es++r).map evD) (xs++zs):=by rw[zX];exact Reps.app (R2.same s3) rz
   have R4:=R3.keep (SameT.put (ys:=xs++zs) F3) (vp _)
   have Z4:Evs K (upd H3 eo (.lst (xs++zs))) q r:=⟨zs,by rw[zi nqe];exact hz,rz.keep (SameT.put F3) (vp _)⟩
   have F4:=zb (H:=H3) (a:=eo) (o:=.lst (xs++zs))
   have s4:Same H (upd H3 eo (.lst (xs++zs))):=fun c0 u0 e0=>by rw[zi (zn e0 heo)];exact s3' c0 u0 e0
   generalize upd H3 eo (.lst (xs++zs))=H4 at R4 Z4 F4 s4
   refine⟨_,rfl,_,rfl,_,rfl,jp,q,J,r,rfl,rj.same s4,jin,Z4,tr.ok jin,by omega,fun H5 s5=>⟨_,_,rfl,rfl,?_⟩⟩
   refine⟨es++r,xs++zs,wy+(xr (vG J r)).sum,_,_,rfl,s4.trans s5,s5 _ _ F4,R4.same s5,by rw[zV];omega,?_⟩
   rw[qg et]
   exact .snoc _ es wy pks lys r rr tr
  ·rintro σ H2 ⟨es,xs,wy,v6,v7,rfl,s2,F2,R2,el,rr⟩
   rw[pxl,qX] at rr
   rw[pxl] at el
   have z1:=(rr.counts tnd).1
   have E2:Evs K H2 eo es:=⟨xs,F2,R2⟩
   have mp:∀l:List Ev,(l.map fun e=>V.int (e.p:Int))=(l.map fun e=>(e.p:Int)).map V.int:=fun l=>by rw[vO];rfl
   refine⟨_,rfl,_,rfl,le1,fun wt hwt=>?_⟩
   have s3:=zd (H:=H2) (o:=.tup [.str "laid"]) hwt
   have W3:=zb (H:=H2) (a:=wt) (o:=.tup [.str "laid"])
   generalize upd H2 wt (.tup [.str "laid"])=H3 at s3 W3
   refine⟨eo,wt,es,["laid"],rfl,E2.same s3,SqT.of W3,by omega,fun q H4 hq s4 L4=>?_⟩
   refine⟨q,(zK ["laid"] es).map fun e=>(e.p:Int),rfl,SqL.of (by rw[L4,mp]),by rw[zq];omega,fun a ls ha pa pw=>?_⟩
   have s5:=(s3.trans s4).trans (zd (H:=H4) (o:=.lst (ls.map V.int)) ha)
   have A5:=zb (H:=H4) (a:=a) (o:=.lst (ls.map V.int))
   generalize upd H4 a (.lst (ls.map V.int))=H5 at s5 A5
   refine⟨_,rfl,eo,gu,es,zI,rfl,E2.same s5,G.all _,by omega,fun q2 H6 hq2 s6 L6=>?_⟩
   refine⟨q2,(zK zI es).map fun e=>(e.p:Int),rfl,SqL.of (by rw[L6,mp]),by rw[zq];omega,fun b gs hb pb pwb=>?_⟩
   have s7:=s6.trans (zd (H:=H6) (o:=.lst (gs.map V.int)) hb)
   have B7:=zb (H:=H6) (a:=b) (o:=.lst (gs.map V.int))
   generalize upd H6 b (.lst (gs.map V.int))=H7 at s7 B7
   refine⟨_,rfl,le4,fun T hT=>?_⟩
   have s8:=zd (H:=H7) (o:=.tup [.ref eo,.ref a,.ref b,.int wy]) hT
   exact k T eo a b es wy ls gs _ (s2.trans (s5.trans (s7.trans s8))) zb (E2.same (s5.trans (s7.trans s8))) ((s7.trans s8) _ _ A5) (s8 _ _ B7) pa pw pb pwb (by omega) rr heo ((s2.trans (s3.trans s4)).none ha) ((s2.trans (s5.trans s6)).none hb) ((s2.trans (s5.trans s7)).none hT) (fun z=>by rw[<- z,(s3.trans s4) _ _ F2] at ha;cases ha) (fun z=>by rw[<- z,(s5.trans s6) _ _ F2] at hb;cases hb) (fun z=>by rw[<- z,s6 _ _ A5] at hb;cases hb)
theorem zed{r:Int}(h0:0<=r)(h1:r<4):∃z:Int,atI [V.int 6,V.int 41,V.int 41,V.int 401] r=some (.int z)/\6<=z/\z<=401:=by
 have hc:r=0\/r=1\/r=2\/r=3:=by omega
 rcases hc with rfl | rfl | rfl | rfl
 ·exact⟨_,rfl,by decide,by decide⟩
 ·exact⟨_,rfl,by decide,by decide⟩
 ·exact⟨_,rfl,by decide,by decide⟩
 ·exact⟨_,rfl,by decide,by decide⟩
theorem zga{r:Int}(h0:0<=r)(h1:r<4)(a b c d:Bool):∃z:Bool,atI [V.bl a,V.bl b,V.bl c,V.bl d] r=some (.bl z):=by
 have hc:r=0\/r=1\/r=2\/r=3:=by omega
 rcases hc with rfl | rfl | rfl | rfl<;>exact⟨_,rfl⟩
inductive zcl(vs:List V)(H:Hp)(Q:VK):Prop
 | mk (b:Addr) (n:Int) (_:vs=[.ref b]) (_:BoxAt H b n) (_:n<500000) (_:∀(l:Addr) (bs:List Bool) H',SameB b H H'->BoxAt H' b (n+1000)->H l=none->l≠b->H' l=some (.lst (bs.map V.bl))->bs.length<=400->Q (.ref l) H'):zcl  vs H Q
def zhd:Sp:=fun vs H Q _=>zcl  vs H Q
theorem zhj:zF ["_law_box_here", "_law_draw", "_law_found", "_law_many", "_law_k"] ["_law_box_here"] (zt (topL 50)):=⟨rfl,rfl,rfl,by decide +kernel,rfl,by decide +kernel,by decide +kernel⟩
def zbo(b:_)(d:_)(l:_)(m:_)(H:_)(n:_):=fun(i:Nat) (σ:St) (H':Hp)=>(Ex2 fun(bs:List Bool) (v4:Option V)=>An5 (σ=[some (.ref b),some (.int d),some (.ref l),some (.int m),v4]) (SameB b H H') (BoxAt H' b (n+3+2*i)) (H' l=some (.lst (bs.map V.bl))) (bs.length=i):Prop)
theorem zhA{f:Addr}{fd:FuncData}(F:Fun K "_law_luck" "_law_luck" (topL 50) f fd)(B:Blt mg)(D_take:Dfn P w K mg base "_law_take" 1 ["_law_box_here", "_law_size"] jW):qH P w K mg base CX0 2 f fd ["_law_box_here"] zhd:=by
 have nd:=zhj.nd
 refine F.ok zhj (fun vs H Q E h=>?_) (fun cdv A outer s H vs Q E hr h=>?_)
 ·obtain⟨b,n,rfl,_⟩:=h
  rfl
 ·obtain⟨b,n,rfl,B0,hn,k⟩:=h
  have hbig:100000<sizeLine:=by rw[sizeLine_eq];decide
  refine⟨_,(zg (Qo (i:=1) (j:=2) rfl nd rfl rfl (by decide) rfl rfl (za (zk D_take (hr.mono (by decide)) rfl (za (pv 0) (za zf ze))) (za (zN ze) ze)) (by rfl))
   (zg (zC (i:=3) nd rfl (Or.inl rfl) (zk D_take (hr.mono (by decide)) rfl (za (pv 0) (za (zu zS (zN (za zf (za zf (za zf (za zf ze))))) (zk D_take (hr.mono (by decide)) rfl (za (pv 0) (za zf ze))) (fun _ _=>rfl)) ze))))
   (zg (qW ju rfl (qz rfl B.range (za (pv 3) ze)) (zy (i:=4) nd rfl (Or.inl rfl))
   (zo (z7 (jm jh jV jU z9 (pv 2) (za (zu zS (zN (za yI (za yI (za (qM jt (zk D_take (hr.mono (by decide)) rfl (za (pv 0) (za zf ze))) zf (zQ _)) (za (qM Qt (zk D_take (hr.mono (by decide)) rfl (za (pv 0) (za zf ze))) zf (zQ _)) ze))))) (pv 1) (fun _ _=>rfl)) ze)))))
   (zo (zE (pv 2)))))),?_⟩
  have e62:(2:Int)^62=4611686018427387904:=by decide
  refine⟨_,rfl,b,4,n,rfl,B0,by omega,by decide,by decide,fun d H1 d0 d1 B1 S1=>⟨le0,fun l hl=>?_⟩⟩
  have lb:=B1.nne hl
  have S2:=S1.new (o:=.lst []) hl
  have B2:=B1.new (o:=.lst []) hl
  have L2:upd H1 l (.lst []) l=some (.lst []):=zb
  have lN:=S1.none hl lb
  generalize upd H1 l (.lst [])=H2 at S2 B2 L2
  refine⟨_,_,rfl,_,rfl,le4,fun q hq=>⟨_,rfl,b,4,_,rfl,B2.new hq,by omega,by decide,by decide,fun r H3 r0 r1 B3 S3=>?_⟩⟩
  obtain⟨z,ez,z0,z1⟩:=zed r0 r1
  have qb:=B2.nne hq
  refine⟨q,_,_,_,rfl,rfl,SqL.of (S3 _ _ zb qb),ez,b,z,_,rfl,B3,by omega,by omega,by omega,fun m H4 m0 m1 B4 S4=>?_⟩
  have S5:=((S2.new hq).trans S3).trans S4
  have L5:=S4 _ _ (S3 _ _ ((zd (o:=.lst [.int 6,.int 41,.int 41,.int 401]) hq) _ _ L2) lb) lb
  refine⟨_,rfl,_,rfl,(by rw[e62];omega),(by rw[e62];omega),?_⟩
  refine jc (zbo b d l m H n) ⟨[],_,rfl,S5,B4.mono (by omega),L5,rfl⟩ ?_ ?_
  ·rintro i σ H' hi ⟨bs,v4,rfl,S',B',L',bl⟩
   refine⟨_,rfl,.inl ⟨rfl,_,SqL.of L'⟩,_,rfl,b,2,_,rfl,B',by omega,by decide,by decide,fun r1 H6 a0 a1 B6 S6=>⟨rfl,_,rfl,b,5,_,rfl,B6,by omega,by decide,by decide,fun r2 H7 c0 c1 B7 S7=>⟨_,_,rfl,rfl,le4,fun t ht=>?_⟩⟩⟩
   obtain⟨z,ez⟩:=zga d0 d1 false true (decide (V.int r1=V.int 0)) (decide (0<r2))
   have tb:=B7.nne ht
   have S8:=(S'.trans S6).trans S7
   have L8:=(zd (o:=.lst [.bl false,.bl true,.bl (decide (V.int r1=V.int 0)),.bl (decide (0<r2))]) ht) _ _ (S7 _ _ (S6 _ _ L' lb) lb)
   refine⟨_,rfl,t,_,_,_,rfl,rfl,SqL.of zb,(by first| exact ez | (rw[<- ez];rfl)),l,_,_,rfl,rfl,L8,by rw[zq];omega,bs++[z],_,rfl,(S8.new ht).put lN,((B7.new ht).other lb).mono (by omega),by rw[zb,zX];rfl,by rw[zV,bl];rfl⟩
  ·rintro σ H' ⟨bs,v4,rfl,S',B',L',bl⟩
   exact⟨_,rfl,k l bs H' S' (B'.mono (by omega)) lN lb L' (by omega)⟩
theorem zef{r:Int}(h0:0<=r)(h1:r<3):∃z:Int,atI [V.int 0,V.int 0,V.int 5] r=some (.int z)/\0<=z/\z<=5:=by
 have hc:r=0\/r=1\/r=2:=by omega
 rcases hc with rfl | rfl | rfl<;>exact⟨_,rfl,by decide,by decide⟩
structure CaseAt(K:PySem.W.Frag)(H:Hp)(jp pl lk:Addr)(J:Job)(ts:List jr)(bs:List Bool)(m:Nat):Prop where
 rj:Rep K H (xo J) (.ref jp)
 jo:∃ord,JobOk J ord
 rp:∃tr,H pl=some (.lst tr)/\Reps K H (ts.map xt) tr
 po:∃os:List Nat,os.Perm (List.range J.ps.length)/\YC J os ts
 hl:H lk=some (.lst (bs.map V.bl))
 bl:bs.length<=400
 m1:1<=m
 m5:m<=5
inductive VD(K:PySem.W.Frag)(vs:List V)(H:Hp)(Q:VK):Prop
 | mk (b:Addr) (n:Int) (_:vs=[.ref b]) (_:BoxAt H b n) (_:n<400000) (_:∀(T jp pl lk:Addr) (J:Job) (ts:List jr) (bs:List Bool) (m:Nat) H',SameB b H H'->BoxAt H' b (n+6000)->H' T=some (.tup [.ref jp,.ref pl,.ref lk,.int (m:Int)])->CaseAt K H' jp pl lk J ts bs m->Q (.ref T) H'):VD K vs H Q
def WE(K:PySem.W.Frag):Sp:=fun vs H Q _=>VD K vs H Q
theorem zcF:zF ["_law_box_here", "_law_few", "_law_most", "_law_job_here", "_law_plan_here"] ["_law_box_here"] (zt (topL 54)):=⟨rfl,rfl,rfl,by decide +kernel,rfl,by decide +kernel,by decide +kernel⟩
def zbn(b:_)(H:_)(n:_):=fun(σ':St) (H':Hp)=>(Ex2 fun(few most:Int)=>An7 (σ'=[some (.ref b),some (.int few),some (.int most),none,none]) (0<=few) (few<=60) (0<=most) (most<=60) (SameB b H H') (BoxAt H' b (n+1)):Prop)
theorem zeD{f:Addr}{fd:FuncData}(F:Fun K "_law_case" "_law_case" (topL 54) f fd)(B:Blt mg)(D_take:Dfn P w K mg base "_law_take" 1 ["_law_box_here", "_law_size"] jW)(D_job:Dfn P w K mg base "_law_job" 4 ["_law_box_here", "_law_few", "_law_most", "_law_plenty"] (zfc K))(D_plan:Dfn P w K mg base "_law_plan" 4 ["_law_box_here", "_law_job_here", "_law_most"] (zcg K))(D_luck:Dfn P w K mg base "_law_luck" 2 ["_law_box_here"] zhd):qH P w K mg base CX0 5 f fd ["_law_box_here"] (WE K):=by
 have nd:=zcF.nd
 refine F.ok zcF (fun vs H Q E h=>?_) (fun cdv A outer s H vs Q E hr h=>?_)
 ·obtain⟨b,n,rfl,_⟩:=h
  rfl
 ·obtain⟨b,n,rfl,B0,hn,k⟩:=h
  have hbig:100000<sizeLine:=by rw[sizeLine_eq];decide
  refine⟨_,(zg (xJ (xj (jX (zO jt (zk D_take (hr.mono (by decide)) rfl (za (pv 0) (za zf ze))) zf (zQ _)) (zY (za zf (za zf ze))) (zY (za zf (za zf ze)))) (xm rfl (zT (zy (i:=1) nd rfl (Or.inl rfl)) (zT (zy (i:=2) nd rfl (Or.inl rfl)) jN)))))
   (zg (zC (i:=3) nd rfl (Or.inl rfl) (zk D_job (hr.mono (by decide)) rfl (za (pv 0) (za (pv 1) (za (pv 2) (za (qM jt (zk D_take (hr.mono (by decide)) rfl (za (pv 0) (za zf ze))) zf (zQ _)) ze))))))
   (zg (zC (i:=4) nd rfl (Or.inl rfl) (zk D_plan (hr.mono (by decide)) rfl (za (pv 0) (za (pv 3) (za (zu zS (zN (za zf (za zf (za zf ze)))) (zk D_take (hr.mono (by decide)) rfl (za (pv 0) (za zf ze))) (fun _ _=>rfl)) ze)))))
   (zo (zE (zY (za (pv 3) (za (pv 4) (za (zk D_luck (hr.mono (by decide)) rfl (za (pv 0) ze)) (za (zA qw zf (zk D_take (hr.mono (by decide)) rfl (za (pv 0) (za zf ze)))) ze)))))))))),?_⟩
  refine⟨zbn b H n,?_,?_⟩
  ·refine⟨_,rfl,b,16,n,rfl,B0,by omega,by decide,by decide,fun r H1 r0 r1 B1 S1=>⟨rfl,_,rfl,jA (fun c=>⟨le2,fun q hq=>?_⟩) (fun c=>⟨le2,fun q hq=>?_⟩)⟩⟩
   ·exact⟨q,_,rfl,SqT.of zb,rfl,_,_,rfl,_,_,rfl,rfl,60,60,rfl,by decide,by decide,by decide,by decide,S1.new hq,B1.new hq⟩
   ·exact⟨q,_,rfl,SqT.of zb,rfl,_,_,rfl,_,_,rfl,rfl,7,24,rfl,by decide,by decide,by decide,by decide,S1.new hq,B1.new hq⟩
  rintro σ' H1 ⟨few,most,rfl,f0,f1,m0,m1,S1,B1⟩
  refine⟨_,rfl,_,rfl,_,rfl,_,rfl,b,2,_,rfl,B1,by omega,by decide,by decide,fun r2 H2 _ _ B2 S2=>⟨rfl,b,few,most,_,_,rfl,B2,by omega,f0,f1,m0,m1,fun jp J ord H3 S3 B3 rj jo=>?_⟩⟩
  have S3':=(S1.trans S2).trans S3
  refine⟨_,rfl,_,rfl,le3,fun q hq=>⟨_,rfl,b,3,_,rfl,B3.new hq,by omega,by decide,by decide,fun r H4 r0 r1 B4 S4=>?_⟩⟩
  have qb:=B3.nne hq
  obtain⟨z,ez,z0,z1⟩:=zef r0 r1
  have rj3:=rj.same (zd (o:=.lst [.int 0,.int 0,.int 5]) hq)
  have S4':=(S3'.new (o:=.lst [.int 0,.int 0,.int 5]) hq).trans S4
  have rj4:=rj3.keep (SameT.draw (B3.new (o:=.lst [.int 0,.int 0,.int 5]) hq) S4) (vI J)
  refine⟨q,_,_,_,rfl,rfl,SqL.of (S4 _ _ zb qb),ez,b,jp,J,ord,z,_,rfl,B4,by omega,rj4,jo,z0,by omega,fun pl os ts tr H5 S5 B5 pb plN L5 r5 pm ob po=>?_⟩
  have rj5:=rj4.keep (SameT.draw B4 S5) (vI J)
  refine⟨_,rfl,_,rfl,_,rfl,b,_,rfl,B5,by omega,fun lk bs H6 S6 B6 lkN lkb L6 bl=>?_⟩
  have rj6:=rj5.keep (SameT.draw B5 S6) (vI J)
  refine⟨_,rfl,b,5,_,rfl,B6,by omega,by decide,by decide,fun m H7 m0 m1 B7 S7=>⟨_,_,rfl,rfl,le4,fun T hT=>?_⟩⟩
  have s8:=zd (o:=.tup [.ref jp,.ref pl,.ref lk,.int (1+m)]) hT
  have em:(((1+m).toNat:Nat):Int)=1+m:=by omega
  refine k T jp pl lk J ts bs (1+m).toNat _ ((((S4'.trans S5).trans S6).trans S7).new hT) ((B7.new hT).mono (by omega)) (by rw[zb,em]) ⟨(rj6.keep (SameT.draw B6 S7) (vI J)).same s8,⟨ord,jo⟩,⟨tr,s8 _ _ (S7 _ _ (S6 _ _ L5 pb) pb),((r5.keep (SameT.draw B5 S6) (j4 ts)).keep (SameT.draw B6 S7) (j4 ts)).same s8⟩,⟨os,pm,po⟩,s8 _ _ (S7 _ _ L6 lkb),bl,by omega,by omega⟩
end
def vy(n:Nat)(g:Nat->Int):List V:=(List.range n).map fun k=>V.int (g k)
theorem Qm(n:Nat)(g:Nat->Int):(vy n g).length=n:=by unfold vy;rw[zq,vQ]
theorem VI{n f:Nat}{g:Nat->Int}(h:f<n):(vy n g)[f]? =some (.int (g f)):=by
 unfold vy
 rw[qr,Ym h]
 rfl
def upF(g:Nat->Int)(f:Nat)(v:Int):Nat->Int:=fun k=>if k=f then v else g k
theorem zcJ{n f:Nat}{g:Nat->Int}{v:Int}(h:f<n):(vy n g).set f (.int v)=vy n (upF g f v):=by
 refine List.ext_getElem? fun k=>?_
 rw[Yj]
 unfold vy upF
 by_cases e:f=k
 ·subst e
  rw[zH rfl,zH (by rw[zq,vQ];exact h),qr,Ym h]
  show _=some (V.int (if f=f then v else g f))
  rw[zH rfl]
 ·rw[zx e,qr,qr]
  by_cases hk:k<n
  ·rw[Ym hk]
   show some (V.int (g k))=some (V.int (if k=f then v else g k))
   rw[zx (fun z=>e z.symm)]
  ·rw[List.getElem?_eq_none (by rw[vQ];omega)]
   rfl
theorem ZE{α:Type}(f:α->Bool){l:List α}{i:Nat}{x:α}(h:l[i]? =some x):(l.take (i+1)).filter f=(l.take i).filter f++(if f x=true then [x] else []):=by
 rw[qg h,vg]
 cases hf:f x
 ·rw[ZN (by rw[hf];exact qC)];rfl
 ·rw[QV hf];rfl
def qF(J:Job)(es:List Ev)(k:Nat):Int:=(J.fs[k]?.map xH.m).getD 0-((qV es).count (k:Int):Int)
def pOf(l:List Ev):List Nat:=l.map Ev.p
def stK(st lk eo la gi:Addr)(t w:Int):List (Key×V):=[(.inr "stock",.ref st),(.inr "luck",.ref lk),(.inr "tried",.int t),(.inr "far",.int w),(.inr "events",.ref eo),(.inr "laid",.ref la),(.inr "given",.ref gi)]
section
variable{K:PySem.W.Frag}
structure StA(K:PySem.W.Frag)(G H:Hp)(sp st lk eo la gi:Addr)(n:Nat)(sk:Nat->Int)(t:Int)(es:List Ev)(ls gs:List Nat)(w:Int):Prop where
 hs:H sp=some (.dK (stK st lk eo la gi t w))
 ht:H st=some (.lst (vy n sk))
 he:∃xs,H eo=some (.lst xs)/\Reps K (WX [sp,st,eo,la,gi] H) (es.map evD) xs
 ha:H la=some (.lst (zw ls))
 hi:H gi=some (.lst (zw gs))
 nd:[sp,st,eo,la,gi].Nodup
 fr:Same G (WX [sp,st,eo,la,gi] H)
variable{G H H':Hp}{sp st lk eo la gi:Addr}{n:Nat}{sk sk':Nat->Int}{t t':Int}{es:List Ev}{ls gs:List Nat}{w w':Int}
theorem StA.ne(h:StA K G H sp st lk eo la gi n sk t es ls gs w):sp≠st/\sp≠eo/\sp≠la/\sp≠gi/\st≠eo/\st≠la/\st≠gi/\eo≠la/\eo≠gi/\la≠gi:=by
 have nd:=h.nd
 simp only[yr,zZ,not_or,w8,not_false_eq_true,and_true,W9] at nd
 obtain⟨⟨a1,a2,a3,a4⟩,⟨b1,b2,b3⟩,⟨c1,c2⟩,d1⟩:=nd
 exact⟨a1,a2,a3,a4,b1,b2,b3,c1,c2,d1⟩
theorem StA.out(h:StA K G H sp st lk eo la gi n sk t es ls gs w){p:Addr}(hp:H p=none):p∉[sp,st,eo,la,gi]:=fun z=>by
 obtain⟨xs,he,_⟩:=h.he
 simp only[zZ,w8,or_false] at z
 rcases z with rfl | rfl | rfl | rfl | rfl
 ·rw[h.hs] at hp;cases hp
 ·rw[h.ht] at hp;cases hp
 ·rw[he] at hp;cases hp
 ·rw[h.ha] at hp;cases hp
 ·rw[h.hi] at hp;cases hp
theorem StA.mv(h:StA K G H sp st lk eo la gi n sk t es ls gs w)(f:∀a∈[sp,st,eo,la,gi],H' a=H a)(s:Same (WX [sp,st,eo,la,gi] H) (WX [sp,st,eo,la,gi] H'))(g:Same G (WX [sp,st,eo,la,gi] H')):StA K G H' sp st lk eo la gi n sk t es ls gs w:=by
 obtain⟨xs,he,re⟩:=h.he
 refine⟨by rw[f _ (by simp)];exact h.hs,by rw[f _ (by simp)];exact h.ht,⟨xs,by rw[f _ (by simp)];exact he,re.same s⟩,by rw[f _ (by simp)];exact h.ha,by rw[f _ (by simp)];exact h.hi,h.nd,g⟩
theorem StA.new(h:StA K G H sp st lk eo la gi n sk t es ls gs w){p:Addr}{o:HO}(hp:H p=none):StA K G (upd H p o) sp st lk eo la gi n sk t es ls gs w:=
 h.mv (fun a ha=>zi fun z=>h.out hp (z▸ha)) (WX.new hp) (h.fr.trans (WX.new hp))
theorem StA.same(h:StA K G H sp st lk eo la gi n sk t es ls gs w)(s:Same H H'):StA K G H' sp st lk eo la gi n sk t es ls gs w:=by
 obtain⟨xs,he,re⟩:=h.he
 exact⟨s _ _ h.hs,s _ _ h.ht,⟨xs,s _ _ he,re.same (WX.same s)⟩,s _ _ h.ha,s _ _ h.hi,h.nd,h.fr.trans (WX.same s)⟩
theorem StA.put(h:StA K G H sp st lk eo la gi n sk t es ls gs w){p:Addr}{o:HO}(hp:p∉[sp,st,eo,la,gi])(g:G p=none)(hl:∃ys,H p=some (.lst ys)):StA K G (upd H p o) sp st lk eo la gi n sk t es ls gs w:=by
 obtain⟨ys,hl⟩:=hl
 refine⟨?_,?_,?_,?_,?_,h.nd,?_⟩
 ·rw[zi fun z=>hp (by rw[<- z];simp)];exact h.hs
 ·rw[zi fun z=>hp (by rw[<- z];simp)];exact h.ht
 ·obtain⟨xs,he,re⟩:=h.he
  refine⟨xs,by rw[zi fun z=>hp (by rw[<- z];simp)];exact he,re.keep (fun a u e h1 h2=>?_) (vp _)⟩
  unfold WX at e ⊢
  split at e
  ·cases e
  ·rename_i hn
   rw[zx hn]
   have:a≠p:=fun z=>by rw[z,hl] at e;cases e;exact h1 _ rfl
   rw[zi this]
   exact e
 ·rw[zi fun z=>hp (by rw[<- z];simp)];exact h.ha
 ·rw[zi fun z=>hp (by rw[<- z];simp)];exact h.hi
 ·intro a u e
  have:=h.fr a u e
  unfold WX at this ⊢
  split at this
  ·cases this
  ·rename_i hn
   rw[zx hn,zi fun z=>by rw[z,g] at e;cases e]
   exact this
theorem StA.stock(h:StA K G H sp st lk eo la gi n sk t es ls gs w):StA K G (upd H st (.lst (vy n sk'))) sp st lk eo la gi n sk' t es ls gs w:=by
 obtain⟨n1,n2,n3,n4,n5,n6,n7,n8,n9,n10⟩:=h.ne
 have m:Same (WX [sp,st,eo,la,gi] H) (WX [sp,st,eo,la,gi] (upd H st (.lst (vy n sk')))):=WX.put (by simp)
 obtain⟨xs,he,re⟩:=h.he
 exact⟨by rw[zi n1];exact h.hs,zb,⟨xs,by rw[zi n5.symm];exact he,re.same m⟩,by rw[zi n6.symm];exact h.ha,by rw[zi n7.symm];exact h.hi,h.nd,h.fr.trans m⟩
theorem StA.nums(h:StA K G H sp st lk eo la gi n sk t es ls gs w):StA K G (upd H sp (.dK (stK st lk eo la gi t' w'))) sp st lk eo la gi n sk t' es ls gs w':=by
 obtain⟨n1,n2,n3,n4,n5,n6,n7,n8,n9,n10⟩:=h.ne
 have m:Same (WX [sp,st,eo,la,gi] H) (WX [sp,st,eo,la,gi] (upd H sp (.dK (stK st lk eo la gi t' w')))):=WX.put (by simp)
 obtain⟨xs,he,re⟩:=h.he
 exact⟨zb,by rw[zi n1.symm];exact h.ht,⟨xs,by rw[zi n2.symm];exact he,re.same m⟩,by rw[zi n3.symm];exact h.ha,by rw[zi n4.symm];exact h.hi,h.nd,h.fr.trans m⟩
theorem StA.event(h:StA K G H sp st lk eo la gi n sk t es ls gs w){xs:List V}{e:Ev}{v:V}(hx:H eo=some (.lst xs))(rx:Reps K (WX [sp,st,eo,la,gi] H) (es.map evD) xs)(rv:Rep K (WX [sp,st,eo,la,gi] H) (evD e) v):StA K G (upd H eo (.lst (xs++[v]))) sp st lk eo la gi n sk t (es++[e]) ls gs w:=by
 obtain⟨n1,n2,n3,n4,n5,n6,n7,n8,n9,n10⟩:=h.ne
 have m:Same (WX [sp,st,eo,la,gi] H) (WX [sp,st,eo,la,gi] (upd H eo (.lst (xs++[v])))):=WX.put (by simp)
 refine⟨by rw[zi n2];exact h.hs,by rw[zi n5];exact h.ht,⟨_,zb,?_⟩,by rw[zi n8.symm];exact h.ha,by rw[zi n9.symm];exact h.hi,h.nd,h.fr.trans m⟩
 rw[zX]
 exact(rx.same m).app ⟨v,[],rfl,rv.same m,rfl⟩
theorem StA.giv(h:StA K G H sp st lk eo la gi n sk t es ls gs w){p:Nat}:StA K G (upd H gi (.lst (zw gs++[.int (p:Int)]))) sp st lk eo la gi n sk t es ls (gs++[p]) w:=by
 obtain⟨n1,n2,n3,n4,n5,n6,n7,n8,n9,n10⟩:=h.ne
 have m:Same (WX [sp,st,eo,la,gi] H) (WX [sp,st,eo,la,gi] (upd H gi (.lst (zw gs++[.int (p:Int)])))):=WX.put (by simp)
 obtain⟨xs,he,re⟩:=h.he
 exact⟨by rw[zi n4];exact h.hs,by rw[zi n7];exact h.ht,⟨xs,by rw[zi n9];exact he,re.same m⟩,by rw[zi n10];exact h.ha,by rw[zb,j6],h.nd,h.fr.trans m⟩
theorem StA.lay(h:StA K G H sp st lk eo la gi n sk t es ls gs w){p:Nat}:StA K G (upd H la (.lst (zw ls++[.int (p:Int)]))) sp st lk eo la gi n sk t es (ls++[p]) gs w:=by
 obtain⟨n1,n2,n3,n4,n5,n6,n7,n8,n9,n10⟩:=h.ne
 have m:Same (WX [sp,st,eo,la,gi] H) (WX [sp,st,eo,la,gi] (upd H la (.lst (zw ls++[.int (p:Int)])))):=WX.put (by simp)
 obtain⟨xs,he,re⟩:=h.he
 exact⟨by rw[zi n3];exact h.hs,by rw[zi n6];exact h.ht,⟨xs,by rw[zi n8];exact he,re.same m⟩,by rw[zb,j6],by rw[zi n10.symm];exact h.hi,h.nd,h.fr.trans m⟩
theorem StA.dS(h:StA K G H sp st lk eo la gi n sk t es ls gs w):DGet H sp (.str "stock") (some (.ref st)):=DGet.k (k:=.inr "stock") h.hs
theorem StA.dL(h:StA K G H sp st lk eo la gi n sk t es ls gs w):DGet H sp (.str "luck") (some (.ref lk)):=DGet.k (k:=.inr "luck") h.hs
theorem StA.dT(h:StA K G H sp st lk eo la gi n sk t es ls gs w):DGet H sp (.str "tried") (some (.int t)):=DGet.k (k:=.inr "tried") h.hs
theorem StA.dF(h:StA K G H sp st lk eo la gi n sk t es ls gs w):DGet H sp (.str "far") (some (.int w)):=DGet.k (k:=.inr "far") h.hs
theorem StA.dE(h:StA K G H sp st lk eo la gi n sk t es ls gs w):DGet H sp (.str "events") (some (.ref eo)):=DGet.k (k:=.inr "events") h.hs
theorem StA.dA(h:StA K G H sp st lk eo la gi n sk t es ls gs w):DGet H sp (.str "laid") (some (.ref la)):=DGet.k (k:=.inr "laid") h.hs
theorem StA.dG(h:StA K G H sp st lk eo la gi n sk t es ls gs w):DGet H sp (.str "given") (some (.ref gi)):=DGet.k (k:=.inr "given") h.hs
theorem StA.pT(h:StA K G H sp st lk eo la gi n sk t es ls gs w):DPut H sp (.str "tried") (.int t') (upd H sp (.dK (stK st lk eo la gi t' w))):=DPut.k (k:=.inr "tried") h.hs (by rw[sizeLine_eq];show 7<_;decide)
theorem StA.pF(h:StA K G H sp st lk eo la gi n sk t es ls gs w):DPut H sp (.str "far") (.int w') (upd H sp (.dK (stK st lk eo la gi t w'))):=DPut.k (k:=.inr "far") h.hs (by rw[sizeLine_eq];show 7<_;decide)
theorem StA.le(h:StA K G H sp st lk eo la gi n sk t es ls gs w):Same G H:=h.fr.trans WX.le
end
theorem Wy(es:List Ev){e:Ev}(h:e.w∈zB):qV (es++[e])=qV es++[(e.f:Int)]:=by
 unfold qV
 rw[zG,zX,QF,zH (qQ h)]
 rfl
theorem zbF(J:Job)(es:List Ev){e:Ev}(h:e.w∈zB):qF J (es++[e])=upF (qF J es) e.f (qF J es e.f-1):=by
 funext k
 unfold upF qF
 rw[Wy es h,X4,List.count_singleton]
 by_cases c:k=e.f
 ·subst c
  rw[zH rfl,zH (by simp)]
  omega
 ·rw[zx c,zx (by simp;omega)]
  omega
theorem wf(J:Job)(pa:xi)(es:List Ev):xW J pa es=(atK J.fs pa.k J.fs.length).filter fun f=>decide (0<qF J es f):=by
 unfold xW
 refine List.filter_congr fun f _=>?_
 rw[ww,yZ,yZ]
 unfold qF
 omega
theorem Qb{fs:List xH}{kd:Str}{k:Nat}:k∈atK fs kd fs.length↔∃fe,fs[k]? =some fe/\fe.k=kd:=by
 unfold atK
 rw[jn,vd,yZ]
 constructor
 ·rintro⟨_,h⟩
  obtain⟨fe,e,h⟩:=jb.mp h
  exact⟨fe,e,h⟩
 ·rintro⟨fe,e,h⟩
  exact⟨(zW.mp e).1,by rw[e];exact congrArg some h⟩
theorem zgW(fs:List xH)(kd:Str)(n:Nat):(atK fs kd n).Pairwise (·< ·):=List.Pairwise.filter _ List.pairwise_lt_range
def wV(J:Job)(pa:xi)(own:Nat)(es:List Ev):List Nat:=(own::atK J.fs pa.k J.fs.length).filter fun f=>decide (0<qF J es f)
theorem zdt{J:Job}{pa:xi}{own:Nat}{es:List Ev}(h:wV J pa own es=[]):NF (xW J pa es) own .non:=by
 refine .non ?_
 rw[wf,Wq]
 exact fun a ha=>(Wq.mp h) a (jv _ ha)
theorem zbM{J:Job}{pa:xi}{own f:Nat}{es:List Ev}{r:List Nat}(ho:own∈atK J.fs pa.k J.fs.length)(h:wV J pa own es=f::r):NF (xW J pa es) own (.int (f:Int))/\f<J.fs.length/\0<qF J es f:=by
 have hm:f∈wV J pa own es:=by rw[h];exact j8
 have hp:0<qF J es f:=qZ (jn.mp hm).2
 have hk:f∈atK J.fs pa.k J.fs.length:=by
  rcases zZ.mp (jn.mp hm).1 with e | e
  ·rw[e];exact ho
  ·exact e
 obtain⟨fe,ef,_⟩:=Qb.mp hk
 refine⟨?_,(zW.mp ef).1,hp⟩
 unfold wV at h
 rw[ZK] at h
 split at h
 ·rename_i c
  have e:own=f:=(List.cons.inj h).1
  rw[<- e]
  refine .own ?_
  rw[wf]
  exact jn.mpr ⟨ho,c⟩
 ·rename_i c
  rw[<- wf] at h
  refine .least f (fun z=>?_) (by rw[h];exact j8) fun g hg=>?_
  ·rw[wf] at z
   exact c (jn.mp z).2
  ·have pw:(xW J pa es).Pairwise (·< ·):=by rw[wf];exact(zgW _ _ _).filter _
   rw[h] at pw hg
   rcases zZ.mp hg with e | e
   ·omega
   ·exact yo ((List.pairwise_cons.mp pw).1 g e)
def wB(b:Bool):Str:=if b then "picked" else "missed"
def evB(b:Bool)(p q:Nat):Ev:=if b then .picked p q else .missed p q
theorem zdv(b:Bool)(p q:Nat):(evB b p q).w∈zB:=by
 cases b
 ·show("missed" : Str)∈zB
  decide
 ·show("picked" : Str)∈zB
  decide
theorem zdw(b:Bool)(p q:Nat):(evB b p q).f=q:=by cases b<;>rfl
theorem zhW(b:Bool)(p q:Nat):evD (evB b p q)=.tup [.str (wB b),.int (p:Int),.int (q:Int)]:=by cases b<;>rfl
theorem zgP(b:Bool):atI [V.str "missed",V.str "picked"] (if b=true then 1 else 0)=some (.str (wB b)):=by cases b<;>rfl
section
variable{P:Program}{w:World}{K:PySem.W.Frag}{mg:Str->Option Value}{base:Heap}
inductive Xe(J:Job)(pa:xi)(p own:Nat)(bs:List Bool)(es:List Ev)(n:Nat)(fnd:List Ev):Str->Prop
 | good (h:TryR J pa p own bs es n [] fnd) (g:∃f r,fnd=r++[Ev.picked p f]/\∀e∈r,e.w = "missed"):Xe J pa p own bs es n fnd ""
 | none (h:TryR J pa p own bs es n [] (fnd++[.none p])) (g:∀e∈fnd,e.w = "missed"):Xe J pa p own bs es n fnd "none"
 | failed (h:TryR J pa p own bs es n [] (fnd++[.failed p])) (g:∀e∈fnd,e.w = "missed"):Xe J pa p own bs es n fnd "failed"
inductive YO(K:PySem.W.Frag)(vs:List V)(H:Hp)(Q:VK):Prop
 | mk (sp st lk eo la gi jp:Addr) (G:Hp) (J:Job) (p own n:Nat) (pa:xi) (bs:List Bool) (es:List Ev) (ls gs:List Nat) (w:Int) (_:vs=[.ref sp,.ref jp,.int (p:Int),.int (own:Int),.int (n:Int)]) (_:StA K G H sp st lk eo la gi J.fs.length (qF J es) (spent es:Nat) es ls gs w) (_:Rep K G (xo J) (.ref jp)) (_:SqL K G lk (bs.map V.bl)) (_:J.ps[p]? =some pa) (_:own∈atK J.fs pa.k J.fs.length) (_:n<=10) (_:es.length<=4000) (_:J.fs.length<=60) (_:bs.length<=400) (_:∀(T so:Addr) (fnd:List Ev) (wd:Str) H',StA K G H' sp st lk eo la gi J.fs.length (qF J (es++fnd)) (spent (es++fnd):Nat) (es++fnd) ls gs w->Xe J pa p own bs es n fnd wd->(∀e∈fnd,e.w∈zB/\e.f<J.fs.length)->fnd.length<=n->H' T=some (.tup [.ref so,.str wd])->G so=none->so∉[sp,st,eo,la,gi]->T∉[sp,st,eo,la,gi]->H' so=some (.lst (zw (fnd.map Ev.f)))->Q (.ref T) H'):YO K vs H Q
def ze6(K:PySem.W.Frag):Sp:=fun vs H Q _=>YO K vs H Q
theorem zfg:zF ["_law_state", "_law_job_here", "_law_part", "_law_feeder", "_law_tries", "_law_some", "_law_k", "_law_kin", "_law_full", "_law_good"] ["_law_state", "_law_job_here", "_law_part", "_law_feeder", "_law_tries"] (zt (topL 51)):=⟨rfl,rfl,rfl,by decide +kernel,rfl,by decide +kernel,by decide +kernel⟩
theorem zgk{f:Addr}{fd:FuncData}(F:Fun K "_law_tried" "_law_tried" (topL 51) f fd)(B:Blt mg):qH P w K mg base CX0 1 f fd ["_law_state", "_law_job_here", "_law_part", "_law_feeder", "_law_tries"] (ze6 K):=by
 have nd:=zfg.nd
 refine F.ok zfg (fun vs H Q E h=>?_) (fun cdv A outer s H vs Q E hr h=>?_)
 ·obtain⟨sp,st,lk,eo,la,gi,jp,G,J,p,own,n,pa,bs,es,ls,gs,w,rfl,_⟩:=h
  rfl
 ·obtain⟨sp,st,lk,eo,la,gi,jp,G,J,p,own,n,pa,bs,es,ls,gs,w,rfl,sa,rj,hlk,epa,ho,n10,el,fl,bl,k⟩:=h
  have hbig:1000000<sizeLine:=by rw[sizeLine_eq];decide
  have e62:(2:Int)^62=4611686018427387904:=by decide
  have hu:=hr.units0
  have hu1:=QE hr
  refine⟨_,(zg (zC (i:=5) nd rfl (Or.inl rfl) (zN ze))
   (zg (qW ju rfl (qz rfl B.range (za (pv 4) ze)) (zy (i:=6) nd rfl (Or.inl rfl))
   (zg (Zg ["_law_part", "_law_job_here"] [2,1] rfl rfl (by kernel_rfl) (qz rfl B.range (za (zp zL rfl B.len boot_len (za (zu qc (pv 1) zf (fun _ _=>rfl)) ze)) ze)) (fun _ _ _ _=>(xX (zO jt (zu (qq (K:=K) rfl) (zu (qq (K:=K) rfl) (zu (qq (K:=K) rfl) (pv 2) zf (fun _ _=>rfl)) (pv 0) (fun _ _=>rfl)) zf (fun _ _=>rfl)) (zu (qq (K:=K) rfl) (zu (qq (K:=K) rfl) (zu (qq (K:=K) rfl) (pv 2) zf (fun _ _=>rfl)) (pv 1) (fun _ _=>rfl)) zf (fun _ _=>rfl)) (zQ _)))) (fun _ _ _ _=>(pv 0)) (zy (i:=7) nd rfl (Or.inl rfl)))
    (zg (Zg ["_law_state"] [0] rfl rfl (by kernel_rfl) (qJ (zA jO (zN (za (pv 3) ze)) (pv 7))) (fun _ _ _ _=>(xX (zO Qt (zu (yM (K:=K) rfl) (qL hu1 (pv 1) zP (fun _ _=>rfl)) (pv 0) (fun _ _=>rfl)) zf (zQ _)))) (fun _ _ _ _=>(pv 0)) (zy (i:=8) nd rfl (Or.inl rfl)))
    (zg (je (zO (VS hu) (pv 8) (zN ze) (zQ _))
    (zo (zE (zY (za (pv 5) (za zP ze)))))
    qI)
    (zg (z7 (jm jh jV jU z9 (pv 5) (za (zu zS (pv 8) zf (fun _ _=>rfl)) ze)))
    (zg (xj (zA xz (zu zS (qL hu1 (pv 0) zP (fun _ _=>rfl)) (zu zS (pv 8) zf (fun _ _=>rfl)) (fun _ _=>rfl)) zf) (Zh (qL hu1 (pv 0) zP (fun _ _=>rfl)) (zu zS (pv 8) zf (fun _ _=>rfl)) vF))
    (zg (Xn hu1 (pv 0) zP (zA qw (qL hu1 (pv 0) zP (fun _ _=>rfl)) zf) rfl)
    (zg (xJ (zC (i:=9) nd rfl (Or.inl rfl) (jX (zO zhv (qL hu1 (pv 0) zP (fun _ _=>rfl)) (zp zL rfl B.len boot_len (za (qL hu1 (pv 0) zP (fun _ _=>rfl)) ze)) (zQ _)) (zu zS (qL hu1 (pv 0) zP (fun _ _=>rfl)) (zA xz (qL hu1 (pv 0) zP (fun _ _=>rfl)) zf) (fun _ _=>rfl)) yI)))
    (zg (z7 (jm jh jV jU z9 (qL hu1 (pv 0) zP (fun _ _=>rfl)) (za (zY (za (zu zS (zN (za zP (za zP ze))) (qA wR rfl B.int vL (za (pv 9) ze)) (fun _ _=>rfl)) (za (pv 2) (za (zu zS (pv 8) zf (fun _ _=>rfl)) ze)))) ze)))
    (zo (je (jD (pv 9))
    (zo (zE (zY (za (pv 5) (za zP ze)))))
    qI)))))))))))
   (zo (zE (zY (za (pv 5) (za zP ze))))))),?_⟩
  refine⟨le0,fun so hso=>?_⟩
  have nso:=sa.out hso
  have gso:=sa.le.none hso
  have sa0:=sa.new (o:=.lst []) hso
  refine⟨_,rfl,_,rfl,by rw[e62];omega,by rw[e62];omega,?_⟩
  have en:((n:Int)).toNat=n:=vf n
  refine jc (fun i σ H1=>Ex5 fun(v6 v7 v8 v9:Option V) (fnd:List Ev)=>An6 (σ=[some (.ref sp),some (.ref jp),some (.int (p:Int)),some (.int (own:Int)),some (.int (n:Int)),some (.ref so),v6,v7,v8,v9]) (StA K G H1 sp st lk eo la gi J.fs.length (qF J (es++fnd)) (spent (es++fnd):Nat) (es++fnd) ls gs w) (H1 so=some (.lst (zw (fnd.map Ev.f)))) ((∀e∈fnd,e.w = "missed" /\ e.f<J.fs.length)) (fnd.length=i) (∀r,TryR J pa p own bs es (n-i) fnd r->TryR J pa p own bs es n [] r)) ⟨_,_,_,_,[],rfl,by rw[qK];exact sa0,zb,(fun e he=>nomatch he),rfl,fun r h=>h⟩ ?_ ?_
  ·rintro i σ H1 hi ⟨v6,v7,v8,v9,fnd,rfl,sa1,hso1,fe,fl1,tr⟩
   rw[en] at hi
   have rj1:=rj.same sa1.le
   obtain⟨gg,fs,ps,as,fv,px,qj,_,qf,rf,qps,rpp,_⟩:=xI rj1
   obtain⟨pv0,epv,rpv⟩:=QQ rpp epa
   obtain⟨pad,pac,rfl,qpa,_⟩:=wH rpv
   have lfv:=rf.len
   rw[zq] at lfv
   refine⟨_,rfl,jp,_,_,_,rfl,rfl,qj,rfl,fs,_,rfl,.inr qf,_,rfl,(by rw[e62];omega),(by rw[e62];omega),yL (fun j zs H2=>zs=zw (atK J.fs pa.k j)/\Same H1 H2) ⟨rfl,Same.refl _⟩ ?_ ?_⟩
   ·rintro j zs H2 hj ⟨rfl,s2⟩
    have hj':j<J.fs.length:=by rw[<- lfv];simpa using hj
    have i0:(0:Int)+(j:Int)=(j:Int):=XT _
    rw[i0]
    have ef:J.fs[j]? =some J.fs[j]:=ji hj'
    generalize J.fs[j]=fe1 at ef
    obtain⟨fv0,efv,rfv⟩:=QQ (rf.same s2) ef
    obtain⟨fa,fc,rfl,qfa,_⟩:=xv rfv
    have zc:=QR J.fs pa.k j
    refine⟨rfl,_,rfl,jp,_,_,_,rfl,rfl,s2.sqT qj,rfl,_,rfl,fs,_,_,_,rfl,rfl,s2.sqT qf,qk efv,fa,_,_,_,rfl,rfl,qfa,rfl,_,rfl,jp,_,_,_,rfl,rfl,s2.sqT qj,rfl,_,rfl,ps,_,_,_,rfl,rfl,s2.sqT qps,qk epv,pad,_,_,_,rfl,rfl,s2.sqT qpa,rfl,rfl,_,rfl,?_⟩
    by_cases e:fe1.k=pa.k
    ·refine ifT (by show decide (V.str fe1.k=V.str pa.k)=true;rw[e];exact qQ rfl) ⟨_,rfl,by rw[zM];omega,?_,s2⟩
     rw[zaZ ef e,j6]
    ·refine ifF (xE fun z=>e (V.str.inj z)) ⟨?_,s2⟩
     rw[za0 ef e]
   rintro zs H2 ⟨e1,s2⟩
   rw[vf,lfv] at e1
   subst e1
   have zc:=QR J.fs pa.k J.fs.length
   refine⟨by rw[zM];omega,fun kin hkin=>?_⟩
   have s3:=s2.trans (zd (o:=.lst (zw (atK J.fs pa.k J.fs.length))) hkin)
   have hk3:=zb (H:=H2) (a:=kin) (o:=.lst (zw (atK J.fs pa.k J.fs.length)))
   generalize upd H2 kin (.lst (zw (atK J.fs pa.k J.fs.length)))=H3 at s3 hk3 ⊢
   refine⟨_,rfl,le1,fun l1 hl1=>⟨_,rfl,l1,kin,_,_,rfl,rfl,zb,(zd hl1) _ _ hk3,by rw[zM];show 1+_<=_;omega,fun l2 hl2=>⟨l2,rfl,⟨_,SqL.of zb⟩,?_⟩⟩⟩
   have s4:=(s3.trans (zd (o:=.lst [.int (own:Int)]) hl1)).trans (zd (o:=.lst ([.int (own:Int)]++zw (atK J.fs pa.k J.fs.length))) hl2)
   have h24:upd (upd H3 l1 (.lst [.int (own:Int)])) l2 (.lst ([.int (own:Int)]++zw (atK J.fs pa.k J.fs.length))) l2=some (.lst (zw (own::atK J.fs pa.k J.fs.length))):=zb
   generalize upd (upd H3 l1 (.lst [.int (own:Int)])) l2 (.lst ([.int (own:Int)]++zw (atK J.fs pa.k J.fs.length)))=H4 at s4 h24 ⊢
   have sa4:=sa1.same s4
   refine jH (K:=K) (a:=l2) (xs:=zw (own::atK J.fs pa.k J.fs.length)) (fun j zs H5=>An2 (zs=zw (((own::atK J.fs pa.k J.fs.length).take j).filter fun f=>decide (0<qF J (es++fnd) f))) (Same H4 H5)) ⟨rfl,Same.refl _⟩ (fun j zs H5 ⟨_,s5⟩=>SqL.of (s5 _ _ h24)) ?_ ?_
   ·rintro j x zs H5 hx ⟨rfl,s5⟩
    unfold zw at hx
    rw[qr] at hx
    obtain⟨q,eq,rfl⟩:=jb.mp hx
    have jl:=(zW.mp eq).1
    have ql:q<J.fs.length:=by
     rcases zZ.mp (qU eq) with e | e
     ·rw[e];obtain⟨fe1,e1,_⟩:=Qb.mp ho;exact(zW.mp e1).1
     ·obtain⟨fe1,e1,_⟩:=Qb.mp e;exact(zW.mp e1).1
    have sa5:=sa4.same s5
    have eft:=ZE (fun f=>decide (0<qF J (es++fnd) f)) eq
    refine⟨rfl,_,rfl,sp,_,rfl,sa5.dS,_,rfl,st,_,_,_,rfl,rfl,SqL.of sa5.ht,qk (VI ql),_,_,rfl,rfl,_,rfl,?_⟩
    rw[xU] at jl
    cases e:decide (0<qF J (es++fnd) q) with
    | true=>
     refine ifT rfl ⟨_,rfl,?_,?_,s5⟩
     ·rw[zM]
      exact J8 (jR _ _) (by rw[qR];omega)
     ·rw[eft,zH e,j6]
    | false=>
     refine ifF rfl ⟨?_,s5⟩
     rw[eft,zx (by rw[e];exact qC),qK]
   rintro zs H5 ⟨e1,s5⟩
   rw[zM,qX] at e1
   change zs=zw (wV J pa own (es++fnd)) at e1
   subst e1
   have fll:(wV J pa own (es++fnd)).length<=61:=ja (jR _ _) (by rw[xU];omega)
   refine⟨by rw[zM];omega,fun fp hfp=>?_⟩
   have s6:=s4.trans (s5.trans (zd (o:=.lst (zw (wV J pa own (es++fnd)))) hfp))
   have hf6:=zb (H:=H5) (a:=fp) (o:=.lst (zw (wV J pa own (es++fnd))))
   generalize upd H5 fp (.lst (zw (wV J pa own (es++fnd))))=H6 at s6 hf6
   refine⟨_,rfl,le0,fun e0 he0=>⟨fp,e0,_,rfl,rfl,SqL.of ((zd he0) _ _ hf6),SqL.of zb,_,rfl,?_⟩⟩
   have s7:=s6.trans (zd (o:=.lst []) he0)
   have hf7:=(zd (o:=.lst []) he0) _ _ hf6
   generalize upd H6 e0 (.lst [])=H7 at s7 hf7 ⊢
   have sa7:=sa1.same s7
   have hso7:=s7 _ _ hso1
   have nfs:fp≠so:=fun z=>by rw[z,(s4.trans s5) _ _ hso1] at hfp;cases hfp
   have nfx:=(sa1.same (s4.trans s5)).out hfp
   clear s2 s3 s4 s5 s6 hf6 he0 hfp h24 hk3 hl1 hl2 hkin
   cases efn:wV J pa own (es++fnd) with
   | nil=>
    refine ifT rfl ⟨_,rfl,le2,fun T hT=>?_⟩
    have sa8:=sa7.new (o:=.tup [.ref so,.str "none"]) hT
    refine k T so fnd "none" _ sa8 (.none (tr _ ?_) fun e he=>(fe e he).1) (fun e he=>⟨by rw[(fe e he).1];decide,(fe e he).2⟩) (by omega) zb gso nso (sa7.out hT) ((zd hT) _ _ hso7)
    rw[show n-i=(n-i-1)+1 by omega]
    exact .none _ _ (zdt efn)
   | cons q r=>
    rw[efn] at hf7
    obtain⟨nf,ql,qp⟩:=zbM ho efn
    refine ifF rfl ?_
    have at0:atI (zw (q::r)) 0=some (.int (q:Int)):=qk (j:=0) rfl
    have fml:(fnd.map Ev.f).length<=10:=by rw[zq];omega
    refine⟨_,rfl,.inl ⟨rfl,_,SqL.of hso7⟩,_,rfl,fp,_,_,_,rfl,rfl,SqL.of hf7,at0,so,_,_,rfl,rfl,hso7,by rw[zM];omega,?_⟩
    have sa8:=sa7.put (o:=.lst (zw (fnd.map Ev.f)++[.int (q:Int)])) nso gso ⟨_,hso7⟩
    have hf8:upd H7 so (.lst (zw (fnd.map Ev.f)++[.int (q:Int)])) fp=some (.lst (zw (q::r))):=by rw[zi nfs];exact hf7
    have hs8:=zb (H:=H7) (a:=so) (o:=.lst (zw (fnd.map Ev.f)++[.int (q:Int)]))
    generalize upd H7 so (.lst (zw (fnd.map Ev.f)++[.int (q:Int)]))=H8 at sa8 hf8 hs8 ⊢
    refine⟨_,rfl,sp,_,rfl,sa8.dS,_,rfl,fp,_,_,_,rfl,rfl,SqL.of hf8,at0,st,_,_,_,rfl,rfl,SqL.of sa8.ht,qk (VI ql),_,_,rfl,rfl,_,rfl,sp,_,rfl,sa8.dS,_,rfl,fp,_,_,_,rfl,rfl,SqL.of hf8,at0,st,_,_,q,rfl,rfl,sa8.ht,by rw[Qm];exact XC ql,?_⟩
    rw[zcJ ql]
    have nn:=sa8.ne
    have sa9:=sa8.stock (sk':=upF (qF J (es++fnd)) q (qF J (es++fnd) q-1))
    have hf9:upd H8 st (.lst (vy J.fs.length (upF (qF J (es++fnd)) q (qF J (es++fnd) q-1)))) fp=some (.lst (zw (q::r))):=by rw[zi fun z=>nfx (by rw[z];simp)];exact hf8
    have hs9:upd H8 st (.lst (vy J.fs.length (upF (qF J (es++fnd)) q (qF J (es++fnd) q-1)))) so=some (.lst (zw (fnd.map Ev.f)++[.int (q:Int)])):=by rw[zi fun z=>nso (by rw[z];simp)];exact hs8
    generalize upd H8 st (.lst (vy J.fs.length (upF (qF J (es++fnd)) q (qF J (es++fnd) q-1))))=H9 at sa9 hf9 hs9 ⊢
    refine⟨_,rfl,sp,_,rfl,sa9.dT,_,_,rfl,rfl,_,rfl,sp,_,rfl,sa9.pT,?_⟩
    have sa10:=sa9.nums (t':=(spent (es++fnd):Nat)+1) (w':=w)
    have hf10:upd H9 sp (.dK (stK st lk eo la gi ((spent (es++fnd):Nat)+1) w)) fp=some (.lst (zw (q::r))):=by rw[zi fun z=>nfx (by rw[z];simp)];exact hf9
    have hs10:upd H9 sp (.dK (stK st lk eo la gi ((spent (es++fnd):Nat)+1) w)) so=some (.lst (zw (fnd.map Ev.f)++[.int (q:Int)])):=by rw[zi fun z=>nso (by rw[z];simp)];exact hs9
    generalize upd H9 sp (.dK (stK st lk eo la gi ((spent (es++fnd):Nat)+1) w))=H10 at sa10 hf10 hs10 ⊢
    have hl10:=sa10.le.seq hlk
    refine⟨fun σ' H'=>An2 (σ'=[some (.ref sp),some (.ref jp),some (.int (p:Int)),some (.int (own:Int)),some (.int (n:Int)),some (.ref so),some (.int (0+(i:Int))),some (.ref kin),some (.ref fp),some (.bl (ZB bs (es++fnd)))]) (H'=H10),?_,?_⟩
    ·refine⟨_,rfl,sp,_,rfl,sa10.dT,_,rfl,sp,_,rfl,sa10.dL,lk,_,rfl,.inl hl10,_,_,rfl,rfl,_,rfl,?_⟩
     rw[zq]
     have el:ZB bs (es++fnd)=wo bs (spent (es++fnd)):=yJ _ _
     unfold wo at el
     by_cases c:bs.length<=spent (es++fnd)
     ·refine ifF (xE (by omega)) ⟨?_,rfl⟩
      rw[el,zH c]
      rfl
     ·have eb:bs[spent (es++fnd)]? =some bs[spent (es++fnd)]:=ji (by omega)
      have ei:((spent (es++fnd):Nat):Int)+1-1=((spent (es++fnd):Nat):Int):=by omega
      refine ifT (qQ (by omega)) ⟨_,rfl,sp,_,rfl,sa10.dL,_,rfl,sp,_,rfl,sa10.dT,_,_,rfl,rfl,lk,_,_,.bl bs[spent (es++fnd)],rfl,rfl,hl10,(by rw[ei];exact qk (by rw[qr,eb];rfl)),?_,rfl⟩
      rw[el,zx c,Xb,eb]
      rfl
    rintro σ' H10' ⟨rfl,e10⟩
    rw[e10]
    clear e10 H10'
    generalize eb:ZB bs (es++fnd)=gd
    obtain⟨xs,hx,rx⟩:=sa10.he
    have xl:=rx.len
    rw[zq,zV] at xl
    refine⟨_,rfl,sp,_,rfl,sa10.dE,.inl ⟨rfl,_,SqL.of hx⟩,le2,fun q2 hq2=>⟨_,rfl,.inr ⟨_,rfl,q2,_,_,.str (wB gd),rfl,rfl,SqL.of zb,zgP gd,_,rfl,_,rfl,fp,_,_,_,rfl,rfl,SqL.of ((zd hq2) _ _ hf10),at0,le3,fun T hT=>⟨eo,xs,_,rfl,rfl,(zd hT) _ _ ((zd hq2) _ _ hx),by omega,?_⟩⟩⟩⟩
    have sa11:=(sa10.new (o:=.lst [.str "missed",.str "picked"]) hq2).new (o:=.tup [.str (wB gd),.int (p:Int),.int (q:Int)]) hT
    have nT:=(sa10.new (o:=.lst [.str "missed",.str "picked"]) hq2).out hT
    have s11:=(zd (o:=.lst [.str "missed",.str "picked"]) hq2).trans (zd (o:=.tup [.str (wB gd),.int (p:Int),.int (q:Int)]) hT)
    have hT11:=zb (H:=upd H10 q2 (.lst [.str "missed",.str "picked"])) (a:=T) (o:=.tup [.str (wB gd),.int (p:Int),.int (q:Int)])
    generalize upd (upd H10 q2 (.lst [.str "missed",.str "picked"])) T (.tup [.str (wB gd),.int (p:Int),.int (q:Int)])=H11 at sa11 s11 hT11 ⊢
    have rv:Rep K (WX [sp,st,eo,la,gi] H11) (evD (evB gd p q)) (.ref T):=by
     rw[zhW]
     exact⟨T,_,rfl,SqT.of (WX.at nT hT11),_,_,rfl,rfl,_,_,rfl,rfl,_,_,rfl,rfl,rfl⟩
    have sa12:=sa11.event (s11 _ _ hx) (rx.same (WX.same s11)) rv
    rw[jC] at sa12
    have el2:upF (qF J (es++fnd)) q (qF J (es++fnd) q-1)=qF J (es++(fnd++[evB gd p q])):=by
     rw[<- jC,zbF J _ (zdv gd p q),zdw]
    have et2:((spent (es++fnd):Nat):Int)+1=(spent (es++(fnd++[evB gd p q])):Nat):=by
     rw[<- jC,jx (es++fnd),Ze (zdv gd p q)]
     omega
    rw[el2,et2] at sa12
    have hs12:upd H11 eo (.lst (xs++[.ref T])) so=some (.lst (zw ((fnd++[evB gd p q]).map Ev.f))):=by
     rw[zi fun z=>nso (by rw[z];simp),zX,List.map_singleton,zdw,j6]
     exact s11 _ _ hs10
    generalize upd H11 eo (.lst (xs++[.ref T]))=H12 at sa12 hs12 ⊢
    have fe2:∀e∈fnd++[evB gd p q],e.w∈zB/\e.f<J.fs.length:=fun e he=>by
     rcases qT.mp he with h | h
     ·exact⟨by rw[(fe e h).1];decide,(fe e h).2⟩
     ·rw[qo.mp h]
      exact⟨zdv gd p q,by rw[zdw];exact ql⟩
    have fl2:(fnd++[evB gd p q]).length=i+1:=by rw[zV,fl1];rfl
    refine⟨_,rfl,_,rfl,?_⟩
    cases gd with
    | true=>
     refine ifT rfl ⟨_,rfl,le2,fun T2 hT2=>?_⟩
     refine k T2 so _ "" _ (sa12.new hT2) (.good (tr _ ?_) ⟨q,fnd,rfl,fun e he=>(fe e he).1⟩) fe2 (by omega) zb gso nso (sa12.out hT2) ((zd hT2) _ _ hs12)
     rw[show n-i=(n-i-1)+1 by omega]
     exact .luck _ _ _ nf eb
    | false=>
     refine ifF rfl ⟨_,_,_,_,_,rfl,sa12,hs12,(fun e he=>⟨?_,(fe2 e he).2⟩),fl2,fun r h=>tr r ?_⟩
     ·rcases qT.mp he with h | h
      ·exact(fe e h).1
      ·rw[qo.mp h];rfl
     rw[show n-i=(n-(i+1))+1 by omega]
     exact .miss _ _ _ _ nf eb h
  ·rintro σ H1 ⟨v6,v7,v8,v9,fnd,rfl,sa1,hso1,fe,fl1,tr⟩
   rw[en] at tr fl1
   refine⟨_,rfl,le2,fun T hT=>?_⟩
   have sa8:=sa1.new (o:=.tup [.ref so,.str "failed"]) hT
   refine k T so fnd "failed" _ sa8 (.failed (tr _ ?_) fun e he=>(fe e he).1) (fun e he=>⟨by rw[(fe e he).1];decide,(fe e he).2⟩) (by omega) zb gso nso (sa1.out hT) ((zd hT) _ _ hso1)
   rw[Nat.sub_self]
   exact .fin _
theorem x8{ws:List Str}{l:List Ev}(h:∀e∈l,e.w∉ws):zK ws l=[]:=Wq.mpr fun e he=>by rw[yZ];exact h e he
theorem Wb{ws:List Str}{l:List Ev}(h:∀e∈l,e.w∈ws):zK ws l=l:=List.filter_eq_self.mpr fun e he=>qQ (h e he)
theorem xA{ws:List Str}{e:Ev}(h:e.w∈ws):zK ws [e]=[e]:=Wb fun x hx=>by rw[qo.mp hx];exact h
theorem xb{ws:List Str}{e:Ev}(h:e.w∉ws):zK ws [e]=[]:=x8 fun x hx=>by rw[qo.mp hx];exact h
theorem vE{w:Str}(h:w∈zB):w∉zI/\w∉(["laid"]:List Str):=by
 rcases zZ.mp h with e | h
 ·rw[e];decide
 ·rw[qo.mp h];decide
theorem Xt(a b:List Ev):pOf (a++b)=pOf a++pOf b:=zX
def wb(J:Job)(es:List Ev):List (Int×Int):=([(J.gx,J.gy)]++(zK zB es).map fun e=>ZW J e.f)++(zK ["laid"] es).map Ev.xy
def nI(l:List Nat):List Int:=l.map fun k:Nat=>(k:Int)
theorem zdp(j:Int)(is:List Int):inV (.int j) (is.map V.int)=decide (j∈is):=by
 rw[ww,yZ]
 unfold inV
 rw[vP]
 constructor
 ·rintro⟨y,hy,e⟩
  obtain⟨k,hk,rfl⟩:=qB.mp hy
  have:(k==j)=true:=e
  rw[<- xT.mp this]
  exact hk
 ·intro h
  exact⟨.int j,qB.mpr ⟨j,h,rfl⟩,(show(j==j)=true from beq_self_eq_true _)⟩
theorem zdo(j:Int)(l:List Nat):inV (.int j) (zw l)=decide (j∈nI l):=by rw[Qv];exact zdp j (nI l)
def rkO(ord:List Nat)(i:Int):Nat:=ord.idxOf i.toNat
theorem zfZ{J:Job}{ord:List Nat}(jo:JobOk J ord)(i:Int):rkO ord i<=60:=by
 have h:rkO ord i<=ord.length:=List.idxOf_le_length
 have:=jo.op.length_eq
 rw[vQ] at this
 have:=jo.pl
 omega
theorem zdq{ord:List Nat}(nd:ord.Nodup){k x:Nat}(e:ord[k]? =some x):ord.idxOf x=k:=by
 obtain⟨h1,h2⟩:=zW.mp e
 have h3:=zdO (qU e)
 have h4:ord[ord.idxOf x]'h3=x:=List.getElem_idxOf h3
 exact(Q3 nd).mp (h4.trans h2.symm)
theorem zcK{J:Job}{ord:List Nat}(jo:JobOk J ord):∀q∈asI J,rkO ord q.1<rkO ord q.2:=fun q hq=>by
 obtain⟨p,hp,rfl⟩:=qB.mp hq
 obtain⟨k,l,hkl,e1,e2⟩:=jo.bo p hp
 have nd:=jo.op.nodup_iff.mpr Yh
 show ord.idxOf ((p.1:Int)).toNat<ord.idxOf ((p.2:Int)).toNat
 rw[vf,vf,zdq nd e1,zdq nd e2]
 exact hkl
theorem yK{J:Job}{ord:List Nat}(jo:JobOk J ord){p:Nat}{es:List Ev}{ms:List Int}(am:∀j,j∈ms↔∃k,1<=k/\Wk (asI J) k j (p:Nat)):(ms.any fun j=>decide (j∈nI (pOf (zK zI es))))=true↔Zy J p es:=by
 rw[vP]
 constructor
 ·rintro⟨j,hj,hd⟩
  obtain⟨n,hn,e⟩:=qB.mp (qZ hd)
  obtain⟨x,hx,rfl⟩:=qB.mp hn
  obtain⟨k,k1,w⟩:=(am j).mp hj
  rw[<- e] at w
  refine⟨x,hx,fun z=>?_,k,w⟩
  rw[z] at w
  have:=w.rank (zcK jo)
  omega
 ·rintro⟨x,hx,ne,k,w⟩
  cases k with
  | zero=>exact absurd w ne
  | succ k=>exact⟨(x.p:Int),(am _).mpr ⟨k+1,by omega,w⟩,qQ (qB.mpr ⟨x.p,qB.mpr ⟨x,hx,rfl⟩,rfl⟩)⟩
def Zo(pk:List Ev)(p:Nat):Bool:=(zK ["picked"] pk).any fun e=>((e.p:Int)==(p:Int))
theorem zgM(pk:List Ev)(p:Nat):decide (p∈pOf (zK ["picked"] pk))=Zo pk p:=by
 rw[ww,yZ]
 unfold Zo pOf
 rw[vP,qB]
 constructor
 ·rintro⟨e,h,rfl⟩
  exact⟨e,h,beq_self_eq_true _⟩
 ·rintro⟨e,h,h2⟩
  have:(e.p:Int)=p:=xT.mp h2
  exact⟨e,h,by omega⟩
theorem zcp{α:Type}{C:List α->Prop}(h0:C [])(hs:∀l a,C l->C (l++[a])):∀l,C l:=fun l=>by
 have:∀r:List α,C r.reverse:=fun r=>by
  induction r with
  | nil=>exact h0
  | cons a r ih=>rw[List.reverse_cons];exact hs _ _ ih
 have h:=this l.reverse
 rwa[List.reverse_reverse] at h
theorem WW{J:Job}{es pk:List Ev}:∀(lys:List Nat) {r:List Ev},LysR J es pk (lys.filter (Zo pk)) r->LysR J es pk lys r:=by
 refine zcp (fun h=>h) fun l a ih r h=>?_
 rw[vg] at h
 cases e:Zo pk a with
 | false=>
  rw[ZN (by rw[e];exact qC),Zu,qK] at h
  exact .skip _ _ _ (ih h) e
 | true=>
  rw[QV e,Zu] at h
  generalize hz:l.filter (Zo pk)++[a]=z at h
  cases h with
  | nil h=>exact absurd hz (by simp)
  | skip lys _ p h g=>
   obtain⟨rfl,rfl⟩:=xO hz
   rw[show Zo pk a=false from g] at e
   cases e
  | lay lys fnd p pa ev h g ep l2=>
   obtain⟨rfl,rfl⟩:=xO hz
   exact .lay _ _ _ _ _ (ih h) g ep l2
theorem zfW:zF ["_law_one", "_law_other"] ["_law_one", "_law_other"] (zt (topL 44)):=⟨rfl,rfl,rfl,by decide +kernel,rfl,by decide +kernel,by decide +kernel⟩
theorem zey{f:Addr}{fd:FuncData}(F:Fun K "_law_way" "_law_way" (topL 44) f fd)(B:Blt mg):qH P w K mg base CX0 1 f fd ["_law_one", "_law_other"] (YM K):=by
 refine F.ok zfW (fun vs H Q E h=>?_) (fun cdv A outer s H vs Q E hr h=>?_)
 ·obtain⟨u,v,p,q,rfl,_⟩:=h
  rfl
 ·obtain⟨u,v,p,q,rfl,hu',hv',k⟩:=h
  obtain⟨a,rfl,ha⟩:=Z6 hu'
  obtain⟨b,rfl,hb⟩:=Z6 hv'
  refine⟨_,(zo (zE (zp (Zq rfl) rfl B.max QN (za (zp vK rfl B.abs vN (za (zA xz (zu qc (pv 0) zf (fun _ _=>rfl)) (zu qc (pv 1) zf (fun _ _=>rfl))) ze)) (za (zp vK rfl B.abs vN (za (zA xz (zu qc (pv 0) zf (fun _ _=>rfl)) (zu qc (pv 1) zf (fun _ _=>rfl))) ze)) ze))))),?_⟩
  refine⟨_,rfl,a,_,_,_,rfl,rfl,ha,rfl,_,rfl,b,_,_,_,rfl,rfl,hb,rfl,_,_,rfl,rfl,_,rfl,_,rfl,a,_,_,_,rfl,rfl,ha,rfl,_,rfl,b,_,_,_,rfl,rfl,hb,rfl,_,_,rfl,rfl,_,rfl,_,_,rfl,k⟩
theorem zb7{J:Job}{pa:xi}{p own n:Nat}{bs:List Bool}{es fn:List Ev}{wd:Str}(h:(Zy J p es/\wd = "behind" /\ fn=[])\/(¬Zy J p es/\Xe J pa p own bs es n fn wd)) :
  (wd = "" /\ PickR J pa p own bs n es fn/\pOf (zK ["picked"] fn)=[p])\/(wd ≠ "" /\ ∃e:Ev,evD e=.tup [.str wd,.int (p:Int)]/\e.p=p/\e.w∈zI/\PickR J pa p own bs n es (fn++[e])/\zK ["picked"] fn=[]):=by
 have np:∀{l:List Ev},(∀e∈l,e.w = "missed")->zK ["picked"] l=[]:=fun h=>x8 fun e he=>by rw[h e he];decide
 rcases h with ⟨h1,rfl,rfl⟩ | ⟨h1,h2⟩
 ·exact .inr ⟨by decide,.behind p,rfl,rfl,(show("behind" : Str)∈zI by decide),.inl ⟨h1,rfl⟩,rfl⟩
 ·cases h2 with
  | good h g=>
   obtain⟨q,r,rfl,hm⟩:=g
   refine .inl ⟨rfl,.inr ⟨h1,h⟩,?_⟩
   rw[zG,np hm,xA (show("picked" : Str)∈(["picked"]:List Str) by decide)]
   rfl
  | none h g=>exact .inr ⟨by decide,.none p,rfl,rfl,(show("none" : Str)∈zI by decide),.inr ⟨h1,h⟩,np g⟩
  | failed h g=>exact .inr ⟨by decide,.failed p,rfl,rfl,(show("failed" : Str)∈zI by decide),.inr ⟨h1,h⟩,np g⟩
theorem wO(ws:List Str)(l:List Ev):(zK ws l).length<=l.length:=jR _ _
theorem Z3(J:Job)(l:List Ev):(wb J l).length<=1+2*l.length:=by
 unfold wb
 have h1:=wO zB l
 have h2:=wO ["laid"] l
 rw[zV,zV,zq,zq]
 show 1+_+_<=_
 omega
theorem zcH{J:Job}{a b:List Ev}(ha:zK ["laid"] a=[])(hb:∀e∈b,e.w∈zB):wb J (a++b)=wb J a++b.map fun e=>ZW J e.f:=by
 unfold wb
 rw[zG,zG,ha,Wb hb,x8 fun e he=>(vE (hb e he)).2,zX]
 simp
theorem JF{J:Job}{a:List Ev}{e:Ev}(h:e.w∈zI):wb J (a++[e])=wb J a:=by
 unfold wb
 have n1:e.w∉zB:=fun z=>(vE z).1 h
 have n2:e.w∉(["laid"]:List Str):=fun z=>by rw[qo.mp z] at h;revert h;decide
 rw[zG,zG,xb n1,xb n2,qK,qK]
theorem zcI{J:Job}{a:List Ev}{p:Nat}{k:Str}{x y:Int}:wb J (a++[.laid p k x y])=wb J a++[(x,y)]:=by
 unfold wb
 rw[zG,zG,xb (e:=.laid p k x y) (show("laid" : Str)∉zB by decide),xA (e:=.laid p k x y) (show("laid" : Str)∈(["laid"]:List Str) by decide),qK,zX,jC]
 simp[Ev.xy]
theorem JobOk.jin{J:Job}{ord:List Nat}(jo:JobOk J ord):JIn J:=⟨jo.gate,fun f hf=>(jo.fa f hf).2.1,fun p hp=>(jo.pa p hp).2.1⟩
def StB(K:PySem.W.Frag)(G H:Hp)(sp st lk eo la gi:Addr)(J:Job)(es:List Ev)(w:Int):Prop:=StA K G H sp st lk eo la gi J.fs.length (qF J es) (spent es:Nat) es (pOf (zK ["laid"] es)) (pOf (zK zI es)) w
theorem JM(J:Job)(es:List Ev){e:Ev}(h:e.w∉zB):qF J (es++[e])=qF J es:=by
 funext k
 unfold qF qV
 rw[zG,xb h,qK]
theorem Qj(es:List Ev){e:Ev}(h:e.w∉zB):spent (es++[e])=spent es:=by
 unfold spent
 rw[zG,xb h,qK]
theorem wN{w:Str}(h:w∈zI):w∉zB/\w∉(["laid"]:List Str)/\w∉(["picked"]:List Str):=by
 unfold zI at h
 simp only[zZ,w8,or_false] at h
 rcases h with rfl | rfl | rfl | rfl<;>decide
theorem StA.gave{G H:Hp}{sp st lk eo la gi:Addr}{J:Job}{es:List Ev}{e:Ev}{p:Nat}{w:Int}(h:StA K G H sp st lk eo la gi J.fs.length (qF J es) (spent es:Nat) (es++[e]) (pOf (zK ["laid"] es)) (pOf (zK zI es)++[p]) w)(hp:e.p=p)(he:e.w∈zI):StB K G H sp st lk eo la gi J (es++[e]) w:=by
 subst hp
 obtain⟨n1,n2,_⟩:=wN he
 unfold StB
 rw[JM J es n1,Qj es n1,zG,xb n2,qK,zG,xA he,Xt]
 exact h
theorem StA.laid{G H:Hp}{sp st lk eo la gi:Addr}{J:Job}{es:List Ev}{e:Ev}{p:Nat}{w:Int}(h:StA K G H sp st lk eo la gi J.fs.length (qF J es) (spent es:Nat) (es++[e]) (pOf (zK ["laid"] es)++[p]) (pOf (zK zI es)) w)(hp:e.p=p)(he:e.w = "laid"):StB K G H sp st lk eo la gi J (es++[e]) w:=by
 subst hp
 have n1:e.w∉zB:=by rw[he];decide
 have n2:e.w∉zI:=by rw[he];decide
 have n3:e.w∈(["laid"]:List Str):=by rw[he];decide
 unfold StB
 rw[JM J es n1,Qj es n1,zG,xA n3,Xt,zG,xb n2,qK]
 exact h
structure OvG(K:PySem.W.Frag)(G:Hp)(ov:Addr)(J:Job)(mss:List (List Int))(ozs:List V):Prop where
 ho:SqL K G ov ozs
 ol:mss.length=J.ps.length
 rw:∀(p:Nat) (ms:List Int),mss[p]? =some ms->∃a,ozs[p]? =some (.ref a)/\SqL K G a (ms.map V.int)
 am:∀(p:Nat) (ms:List Int),mss[p]? =some ms->ms.length<=60/\∀j,j∈ms↔∃k,1<=k/\Wk (asI J) k j (p:Nat)
theorem OvG.at{G:Hp}{ov:Addr}{J:Job}{mss:List (List Int)}{ozs:List V}(o:OvG K G ov J mss ozs){p:Nat}(h:p<J.ps.length):∃(a:Addr) (ms:List Int),ozs[p]? =some (.ref a)/\SqL K G a (ms.map V.int)/\ms.length<=60/\∀j,j∈ms↔∃k,1<=k/\Wk (asI J) k j (p:Nat):=by
 have hl:p<mss.length:=by rw[o.ol];exact h
 have e:mss[p]? =some mss[p]:=ji hl
 obtain⟨a,h1,h2⟩:=o.rw p _ e
 obtain⟨h3,h4⟩:=o.am p _ e
 exact⟨a,_,h1,h2,h3,h4⟩
theorem StA.onto{G H:Hp}{sp st lk eo la gi:Addr}{n:Nat}{sk:Nat->Int}{t:Int}{es:List Ev}{ls gs:List Nat}{w:Int}(h:StA K G H sp st lk eo la gi n sk t es ls gs w):StA K (WX [sp,st,eo,la,gi] H) H sp st lk eo la gi n sk t es ls gs w:=⟨h.hs,h.ht,h.he,h.ha,h.hi,h.nd,Same.refl _⟩
theorem StA.over{G G' H:Hp}{sp st lk eo la gi:Addr}{n:Nat}{sk:Nat->Int}{t:Int}{es:List Ev}{ls gs:List Nat}{w:Int}(h:StA K G' H sp st lk eo la gi n sk t es ls gs w)(g:Same G G'):StA K G H sp st lk eo la gi n sk t es ls gs w:=⟨h.hs,h.ht,h.he,h.ha,h.hi,h.nd,g.trans h.fr⟩
inductive YQ(K:PySem.W.Frag)(vs:List V)(H:Hp)(Q:VK):Prop
 | mk (sp st lk eo la gi jp tp ov:Addr) (G:Hp) (J:Job) (ord:List Nat) (pks:List (Nat×Nat)) (lys:List Nat) (n:Nat) (bs:List Bool) (es:List Ev) (w:Int) (mss:List (List Int)) (ozs:List V) (_:vs=[.ref sp,.ref jp,.ref tp,.int (n:Int),.ref ov]) (_:StB K G H sp st lk eo la gi J es w) (_:Rep K G (xo J) (.ref jp)) (_:JobOk J ord) (_:SqL K G lk (bs.map V.bl)) (_:bs.length<=400) (_:Rep K G (zfY pks lys) (.ref tp)) (_:(∀q∈pks,Jg J q)) (_:(∀q∈lys,q<J.ps.length)) (_:pks.length<=4) (_:lys.length<=4) (_:n<=10) (_:es.length<=3000) (_:OvG K G ov J mss ozs) (_:∀(r:List Ev) H',StB K G H' sp st lk eo la gi J (es++r) (w+(xr (vG J r)).sum)->TripR J bs n es pks lys r->r.length<=48->Q .non H'):YQ K vs H Q
def zce(K:PySem.W.Frag):Sp:=fun vs H Q _=>YQ K vs H Q
theorem zfh:zF ["_law_state", "_law_job_here", "_law_trip_here", "_law_tries", "_law_over_here", "_law_places_here", "_law_got", "_law_part", "_law_feeder", "_law_some", "_law_word"] ["_law_state", "_law_job_here", "_law_trip_here", "_law_tries", "_law_over_here"] (zt (topL 52)):=⟨rfl,rfl,rfl,by decide +kernel,rfl,by decide +kernel,by decide +kernel⟩
theorem zgj{f:Addr}{fd:FuncData}(F:Fun K "_law_trip_run" "_law_trip_run" (topL 52) f fd)(B:Blt mg)(D_tried:Dfn P w K mg base "_law_tried" 1 ["_law_state", "_law_job_here", "_law_part", "_law_feeder", "_law_tries"] (ze6 K))(D_way:Dfn P w K mg base "_law_way" 1 ["_law_one", "_law_other"] (YM K)):qH P w K mg base CX0 2 f fd ["_law_state", "_law_job_here", "_law_trip_here", "_law_tries", "_law_over_here"] (zce K):=by
 have nd:=zfh.nd
 refine F.ok zfh (fun vs H Q E h=>?_) (fun cdv A outer s H vs Q E hr h=>?_)
 ·obtain⟨sp,st,lk,eo,la,gi,jp,tp,ov,G,J,ord,pks,lys,n,bs,es,w,mss,ozs,rfl,_⟩:=h
  rfl
 ·obtain⟨sp,st,lk,eo,la,gi,jp,tp,ov,G,J,ord,pks,lys,n,bs,es,w,mss,ozs,rfl,sb,rj,jo,hlk,bl,rt,pin,lin,p4,l4,n10,el,og,k⟩:=h
  have hbig:1000000<sizeLine:=by rw[sizeLine_eq];decide
  have hu:=hr.units0
  have hu1:=QE hr
  have fl40:=jo.fl
  have pl60:=jo.pl
  obtain⟨t0,txs,e0,qt,x0,r0,rfl,⟨pt,pxs,rfl,qp,rpk⟩,x1,r1,rfl,⟨lt,lxs,rfl,ql,rly⟩,e1⟩:=rt
  cases e0
  cases(show r1=[] from e1)
  have pxl:=rpk.len
  rw[zq] at pxl
  have lxl:=rly.len
  rw[zq] at lxl
  obtain⟨gg,fs,ps,as,fv,px,qj,rg,qf,rf,qps,rpp,_⟩:=xI rj
  have sG:=sb.le
  refine⟨_,(zg (xj (zY (za (zN (za (zu qc (pv 1) zf (fun _ _=>rfl)) ze)) (za (zN ze) ze))) (xm rfl (zT (zy (i:=5) nd rfl (Or.inl rfl)) (zT (zy (i:=6) nd rfl (Or.inr rfl)) jN))))
   (zg (qW ju rfl (vz (zu qc (pv 2) zf (fun _ _=>rfl))) (xm rfl (zT (zy (i:=7) nd rfl (Or.inl rfl)) (zT (zy (i:=8) nd rfl (Or.inl rfl)) jN)))
   (zg (Qo (i:=9) (j:=10) rfl nd rfl rfl (by decide) rfl rfl (za (zN ze) (za zP ze)) (by rfl))
    (zg (xJ (je (Xm (jD (zp (wS rfl) rfl B.any yS (za (xa ["_law_state"] [0] rfl rfl (by kernel_rfl) (qJ (zu zS (pv 4) (pv 7) (fun _ _=>rfl))) (fun _ _ _ _=>jw) (fun _ _ _ _=>(qM (xn (K:=K) rfl) (pv 0) (qL hu1 (pv 1) zP (fun _ _=>rfl)) (by with_unfolding_all rfl)))) ze))))
    (zo (xj (zk D_tried (hr.mono (by decide)) rfl (pa5 (pv 0) (pv 1) (pv 7) (pv 8) (pv 3))) (xm rfl (zT (zy (i:=9) nd rfl (Or.inl rfl)) (zT (zy (i:=10) nd rfl (Or.inl rfl)) jN)))))
    qI))
    (zg (z7 (jm jh Yx Yw Zm (pv 5) (za (xa ["_law_job_here"] [1] rfl rfl (by kernel_rfl) (qJ (pv 9)) (fun _ _ _ _=>jw) (fun _ _ _ _=>(zu (qq (K:=K) rfl) (zu (qq (K:=K) rfl) (zu (qq (K:=K) rfl) (pv 1) zf (fun _ _=>rfl)) (pv 0) (fun _ _=>rfl)) zf (fun _ _=>rfl)))) ze)))
    (zo (je (zO jt (pv 10) zP (zQ _))
    (zo (z7 (jm jh jV jU z9 (pv 6) (za (pv 7) ze))))
    (zg (z7 (jm jh jV jU z9 (qL hu1 (pv 0) zP (fun _ _=>rfl)) (za (zY (za (pv 10) (za (pv 7) ze))) ze)))
     (zo (z7 (jm jh jV jU z9 (qL hu1 (pv 0) zP (fun _ _=>rfl)) (za (pv 7) ze)))))))))))
   (zg (qW ju rfl (qJ (xa ["_law_got"] [6] rfl rfl (by kernel_rfl) (vz (zu qc (pv 2) zf (fun _ _=>rfl))) (fun _ _ _ _=>(xX (zO (xn (K:=K) rfl) (pv 0) (pv 1) (by with_unfolding_all rfl)))) (fun _ _ _ _=>(pv 0)))) (zy (i:=7) nd rfl (Or.inl rfl))
   (zo (je (jD (zp (wS rfl) rfl B.any yS (za (xa ["_law_state"] [0] rfl rfl (by kernel_rfl) (qJ (zu zS (pv 4) (pv 7) (fun _ _=>rfl))) (fun _ _ _ _=>jw) (fun _ _ _ _=>(qM (xn (K:=K) rfl) (pv 0) (qL hu1 (pv 1) zP (fun _ _=>rfl)) (by with_unfolding_all rfl)))) ze)))
    (zg (z7 (jm jh jV jU z9 (qL hu1 (pv 0) zP (fun _ _=>rfl)) (za (zY (za zP (za (pv 7) ze))) ze)))
     (zo (z7 (jm jh jV jU z9 (qL hu1 (pv 0) zP (fun _ _=>rfl)) (za (pv 7) ze)))))
    (zg (z7 (jm jh jV jU z9 (qL hu1 (pv 0) zP (fun _ _=>rfl)) (za (zA zem (zY (za zP (za (pv 7) ze))) (zu qc (zu qc (pv 1) zf (fun _ _=>rfl)) (pv 7) (fun _ _=>rfl))) ze)))
     (zg (z7 (jm jh jV jU z9 (qL hu1 (pv 0) zP (fun _ _=>rfl)) (za (pv 7) ze)))
     (zo (z7 (jm jh jV jU z9 (pv 5) (za (zu qc (zu qc (zu qc (pv 1) zf (fun _ _=>rfl)) (pv 7) (fun _ _=>rfl)) zf (fun _ _=>rfl)) ze)))))))))
   (zg (z7 (jm jh jV jU z9 (pv 5) (za (zu qc (pv 1) zf (fun _ _=>rfl)) ze)))
   (zo (Xn hu1 (pv 0) zP (zA qw (qL hu1 (pv 0) zP (fun _ _=>rfl)) (zp (JY rfl) rfl B.sum boot_sum (za (vA [] [] rfl rfl (by kernel_rfl) (Xp rfl B.zip (za (pv 5) (za (jK j5 (pv 5) (jz zf) xK) ze))) (fun _ _ _ _=>jw) (fun _ _ _ _=>(zk D_way (hr.mono (by decide)) rfl (za (pv 0) (za (pv 1) ze))))) ze))) rfl)))))),?_⟩
  refine⟨_,rfl,jp,_,_,_,rfl,rfl,sG.sqT qj,rfl,le1,fun pl hpl=>⟨le0,fun got hgot=>⟨le2,fun T hT=>⟨T,_,rfl,SqT.of zb,rfl,_,_,rfl,_,_,rfl,rfl,?_⟩⟩⟩⟩
  have sb1:=((sb.new (o:=.lst [.ref gg]) hpl).new (o:=.lst []) hgot).new (o:=.tup [.ref pl,.ref got]) hT
  have npl:=sb.out hpl
  have ngt:=(sb.new (o:=.lst [.ref gg]) hpl).out hgot
  have gpl:=sG.none hpl
  have ggt:=((sb.new (o:=.lst [.ref gg]) hpl)).le.none hgot
  have npg:pl≠got:=fun z=>by rw[<- z,zb] at hgot;cases hgot
  have hpl1:upd (upd (upd H pl (.lst [.ref gg])) got (.lst [])) T (.tup [.ref pl,.ref got]) pl=some (.lst [.ref gg]):=(zd hT) _ _ ((zd hgot) _ _ zb)
  have hgt1:upd (upd (upd H pl (.lst [.ref gg])) got (.lst [])) T (.tup [.ref pl,.ref got]) got=some (.lst []):=(zd hT) _ _ zb
  generalize upd (upd (upd H pl (.lst [.ref gg])) got (.lst [])) T (.tup [.ref pl,.ref got])=H1 at sb1 hpl1 hgt1 ⊢
  refine⟨_,rfl,tp,_,_,_,rfl,rfl,sb1.le.sqT qt,rfl,pt,rfl,⟨_,sb1.le.sqT qp⟩,Z9 (K:=K) (a:=pt) (xs:=pxs) (fun i σ H'=>Ex6 fun(v7 v8 v9 v10:Option V) (fnd:List Ev) (zs:List V)=>An9 (σ=[some (.ref sp),some (.ref jp),some (.ref tp),some (.int (n:Int)),some (.ref ov),some (.ref pl),some (.ref got),v7,v8,v9,v10]) (StB K G H' sp st lk eo la gi J (es++fnd) w) (H' pl=some (.lst zs)) (Reps K G ((wb J fnd).map plD) zs) (H' got=some (.lst (zw (pOf (zK ["picked"] fnd))))) (zK ["laid"] fnd=[]) ((∀e∈zK zB fnd,e.f<J.fs.length)) (fnd.length<=11*i) (PksR J bs n es (pks.take i) fnd)) ⟨_,_,_,_,[],[.ref gg],rfl,by rw[qK];exact sb1,hpl1,⟨.ref gg,[],rfl,rg,rfl⟩,hgt1,rfl,(fun e he=>nomatch he),zJ _,.nil⟩ (fun i σ H' _ ⟨_,_,_,_,_,_,_,s',_,_,_,_,_,_,_⟩=>s'.le.sqT qp) ?_ ?_⟩
  ·rintro i x σ H2 hx ⟨v7,v8,v9,v10,fnd,zs,rfl,sb2,hpl2,rz,hgt2,nl,tf,fl,pr⟩
   have il:=(zW.mp hx).1
   obtain⟨d,ed,rd⟩:=rpk.get hx
   rw[qr] at ed
   obtain⟨⟨p,own⟩,epk,rfl⟩:=jb.mp ed
   obtain⟨pa',rfl,qpa⟩:=Zj rd
   obtain⟨pa,fe,epa,efe,ekd⟩:=pin _ (qU epk)
   dsimp only at epa efe qpa
   have hp:p<J.ps.length:=(zW.mp epa).1
   obtain⟨ra,ms,era,hra,ml,am⟩:=og.at hp
   refine⟨pa',_,rfl,sb2.le.sqT qpa,rfl,_,_,rfl,_,_,rfl,rfl,?_⟩
   refine⟨le0,fun so hso=>⟨_,_,rfl,?_⟩⟩
   have sb3:=sb2.new (o:=.lst []) hso
   have nso:=sb2.out hso
   have gso:=sb2.le.none hso
   have nsp:so≠pl:=fun z=>by rw[z,hpl2] at hso;cases hso
   have nsg:so≠got:=fun z=>by rw[z,hgt2] at hso;cases hso
   have hpl3:=(zd (o:=.lst []) hso) _ _ hpl2
   have hgt3:=(zd (o:=.lst []) hso) _ _ hgt2
   have hso3:=zb (H:=H2) (a:=so) (o:=.lst [])
   generalize upd H2 so (.lst [])=H3 at sb3 hpl3 hgt3 hso3 ⊢
   refine⟨fun σ' H'=>Ex3 fun(so':Addr) (wd:Str) (fn:List Ev)=>An8 (σ'=[some (.ref sp),some (.ref jp),some (.ref tp),some (.int (n:Int)),some (.ref ov),some (.ref pl),some (.ref got),some (.int (p:Int)),some (.int (own:Int)),some (.ref so'),some (.str wd)]) (StA K G H' sp st lk eo la gi J.fs.length (qF J ((es++fnd)++fn)) (spent ((es++fnd)++fn):Nat) ((es++fnd)++fn) (pOf (zK ["laid"] (es++fnd))) (pOf (zK zI (es++fnd))) w) (H' pl=some (.lst zs)) (H' got=some (.lst (zw (pOf (zK ["picked"] fnd))))) (H' so'=some (.lst (zw (fn.map Ev.f)))) ((∀e∈fn,e.w∈zB/\e.f<J.fs.length)) (fn.length<=n) (((Zy J p (es++fnd)/\wd = "behind" /\ fn=[])\/(¬Zy J p (es++fnd)/\Xe J pa p own bs (es++fnd) n fn wd))),?_,?_⟩
   ·refine⟨_,rfl,_,rfl,ov,_,_,_,rfl,rfl,sb3.le.seq og.ho,qk era,ra,rfl,⟨_,sb3.le.seq hra⟩,jH (K:=K) (a:=ra) (xs:=ms.map V.int) (fun l zs' H4=>zs'=((ms.take l).map fun m=>decide (m∈nI (pOf (zK zI (es++fnd))))).map V.bl/\Same H3 H4) ⟨rfl,Same.refl _⟩ (fun l zs' H4 ⟨_,s4⟩=>s4.seq (sb3.le.seq hra)) ?_ ?_⟩
    ·rintro l x zs' H4 hx ⟨rfl,s4⟩
     rw[qr] at hx
     obtain⟨m,em,rfl⟩:=jb.mp hx
     have ll:=(zW.mp em).1
     have sb4:=StA.same sb3 s4
     refine⟨rfl,_,rfl,_,rfl,sp,_,rfl,sb4.dG,gi,_,rfl,.inl (SqL.of sb4.hi),rfl,wL _,?_,?_,s4⟩
     ·rw[zq,zq,qR];omega
     ·rw[zdo,qg em,zX,zX]
      rfl
    rintro zs' H4 ⟨e1,s4⟩
    rw[zq,qX] at e1
    subst e1
    refine⟨by rw[zq,zq];omega,fun D hD=>⟨D,_,rfl,SqL.of zb,_,rfl,?_⟩⟩
    have ea:((ms.map fun m=>decide (m∈nI (pOf (zK zI (es++fnd))))).any id)=ms.any fun m=>decide (m∈nI (pOf (zK zI (es++fnd)))):=by rw[QY];rfl
    have s5:=s4.trans (zd (o:=.lst ((ms.map fun m=>decide (m∈nI (pOf (zK zI (es++fnd))))).map V.bl)) hD)
    generalize upd H4 D (.lst ((ms.map fun m=>decide (m∈nI (pOf (zK zI (es++fnd))))).map V.bl))=H5 at s5 ⊢
    have sb5:=StA.same sb3 s5
    rw[ea]
    by_cases hL:Zy J p (es++fnd)
    ·rw[(yK jo am).mpr hL]
     exact ifF rfl ⟨so, "behind",[],rfl,by rw[qK];exact sb5,s5 _ _ hpl3,s5 _ _ hgt3,s5 _ _ hso3,(fun e he=>nomatch he),qe _,.inl ⟨hL,rfl,rfl⟩⟩
    ·have ef:(ms.any fun m=>decide (m∈nI (pOf (zK zI (es++fnd)))))=false:=by
      cases e:ms.any fun m=>decide (m∈nI (pOf (zK zI (es++fnd)))) with
      | true=>exact absurd ((yK jo am).mp e) hL
      | false=>rfl
     rw[ef]
     refine ifT rfl ⟨_,rfl,_,rfl,_,rfl,_,rfl,_,rfl,sp,st,lk,eo,la,gi,jp,_,J,p,own,n,pa,bs,es++fnd,_,_,w,rfl,sb5.onto,rj.same sb5.fr,sb5.fr.seq hlk,epa,Qb.mpr ⟨fe,efe,ekd⟩,n10,by rw[zV];omega,by omega,bl,fun T2 so2 fn wd H6 sa6 te fe6 fn6 hT6 _ _ _ hso6=>?_⟩
     have at6:∀{a:Addr} {u:HO},a∉[sp,st,eo,la,gi]->H5 a=some u->H6 a=some u:=fun ha e=>WX.le _ _ (sa6.fr _ _ (WX.at ha e))
     exact⟨T2,_,rfl,SqT.of hT6,rfl,_,_,rfl,_,_,rfl,rfl,so2,wd,fn,rfl,sa6.over sb5.fr,at6 npl (s5 _ _ hpl3),at6 ngt (s5 _ _ hgt3),hso6,fe6,fn6,.inr ⟨hL,te⟩⟩
   rintro σ' H4 ⟨so',wd,fn,rfl,sa4,hpl4,hgt4,hso4,fnt,fnl,dis⟩
   have zl:=rz.len
   have rpl:=Z3 J fnd
   rw[zq] at zl
   refine⟨_,rfl,.inl ⟨rfl,_,SqL.of hpl4⟩,_,rfl,so',rfl,⟨_,SqL.of hso4⟩,jH (K:=K) (a:=so') (xs:=zw (fn.map Ev.f)) (fun l zs' H5=>Reps K G (((fn.take l).map fun e=>ZW J e.f).map plD) zs'/\Same H4 H5) ⟨rfl,Same.refl _⟩ (fun l zs' H5 ⟨_,s5⟩=>SqL.of (s5 _ _ hso4)) ?_ ?_⟩
   ·rintro l x zs' H5 hx ⟨rz',s5⟩
    unfold zw at hx
    rw[qr,qr] at hx
    obtain⟨q,eq,rfl⟩:=jb.mp hx
    obtain⟨ev,eev,rfl⟩:=jb.mp eq
    have ll:=(zW.mp eev).1
    have fl5:=(fnt ev (qU eev)).2
    have ef:J.fs[ev.f]? =some J.fs[ev.f]:=ji fl5
    have sG5:=(StA.same sa4 s5).le
    obtain⟨fv0,efv,rfv⟩:=QQ rf ef
    obtain⟨fa,fc,rfl,qfa,qfc⟩:=xv rfv
    have zl':=rz'.len
    rw[zq,zq,qR] at zl'
    refine⟨rfl,_,rfl,jp,_,_,_,rfl,rfl,sG5.sqT qj,rfl,_,rfl,fs,_,_,_,rfl,rfl,sG5.sqT qf,qk efv,fa,_,_,_,rfl,rfl,sG5.sqT qfa,rfl,by omega,?_,s5⟩
    rw[qg eev,zX,zX]
    refine rz'.app ⟨.ref fc,[],rfl,?_,rfl⟩
    have e2:ZW J ev.f=(J.fs[ev.f].x,J.fs[ev.f].y):=by unfold ZW;rw[ef];rfl
    show Rep K G (plD (ZW J ev.f)) _
    rw[e2]
    exact WH qfc
   rintro zs' H5 ⟨rz',s5⟩
   rw[zM,zq,qX] at rz'
   have zl':=rz'.len
   rw[zq,zq] at zl'
   refine⟨by omega,fun q hq=>⟨pl,q,_,_,rfl,rfl,(zd hq) _ _ (s5 _ _ hpl4),zb,by omega,?_⟩⟩
   have sa6:=((StA.same sa4 s5).new (o:=.lst zs') hq).put (o:=.lst (zs++zs')) npl gpl ⟨_,(zd hq) _ _ (s5 _ _ hpl4)⟩
   have hgt6:upd (upd H5 q (.lst zs')) pl (.lst (zs++zs')) got=some (.lst (zw (pOf (zK ["picked"] fnd)))):=by rw[zi npg.symm];exact(zd hq) _ _ (s5 _ _ hgt4)
   have hpl6:=zb (H:=upd H5 q (.lst zs')) (a:=pl) (o:=.lst (zs++zs'))
   have rz6:Reps K G ((wb J (fnd++fn)).map plD) (zs++zs'):=by
    rw[zcH nl fun e he=>(fnt e he).1,zX]
    exact rz.app rz'
   generalize upd (upd H5 q (.lst zs')) pl (.lst (zs++zs'))=H6 at sa6 hgt6 hpl6 ⊢
   generalize zs++zs'=zs2 at rz6 hpl6
   have nl2:zK ["laid"] (fnd++fn)=[]:=by rw[zG,nl,x8 fun e he=>(vE (fnt e he).1).2];rfl
   have ng2:zK zI ((es++fnd)++fn)=zK zI (es++fnd):=by rw[zG zI (es++fnd),x8 fun e he=>(vE (fnt e he).1).1,qK]
   have nl3:zK ["laid"] ((es++fnd)++fn)=zK ["laid"] (es++fnd):=by rw[zG ["laid"] (es++fnd),x8 fun e he=>(vE (fnt e he).1).2,qK]
   have tf2:∀e∈zK zB (fnd++fn),e.f<J.fs.length:=fun e he=>by
    rw[zG] at he
    rcases qT.mp he with h | h
    ·exact tf e h
    ·exact(fnt e (jn.mp h).1).2
   rw[<- ng2,<- nl3] at sa6
   refine⟨_,rfl,rfl,_,rfl,?_⟩
   have eil:i<4:=by omega
   rcases zb7 dis with ⟨rfl,pkr,pks1⟩ | ⟨nw,e,ed2,ep2,ew2,pkr,npk⟩
   ·have gl:=wO ["picked"] fnd
    refine ifT (qQ rfl) ⟨_,rfl,.inl ⟨rfl,_,SqL.of hgt6⟩,_,rfl,got,_,_,rfl,rfl,hgt6,by rw[zM];unfold pOf;rw[zq];omega,?_⟩
    have sa7:=sa6.put (o:=.lst (zw (pOf (zK ["picked"] fnd))++[.int (p:Int)])) ngt ggt ⟨_,hgt6⟩
    refine⟨_,_,_,_,fnd++fn,zs2,rfl,?_,by rw[zi npg];exact hpl6,rz6,?_,nl2,tf2,by rw[zV];omega,?_⟩
    ·unfold StB
     rw[<- jC]
     exact sa7
    ·rw[zb,zG,Xt,pks1,j6]
    ·rw[qg epk]
     exact .snoc _ fnd p own pa fn pr epa pkr
   ·refine ifF (xE fun z=>nw (V.str.inj z)) ?_
    obtain⟨exs,hex,rex⟩:=sa6.he
    have exl:=rex.len
    rw[zq,zV,zV] at exl
    refine⟨_,rfl,sp,_,rfl,sa6.dE,.inl ⟨rfl,_,SqL.of hex⟩,_,rfl,_,rfl,le2,fun T2 hT2=>⟨eo,exs,_,rfl,rfl,(zd hT2) _ _ hex,by omega,?_⟩⟩
    have rv:Rep K (WX [sp,st,eo,la,gi] (upd H6 T2 (.tup [.str wd,.int (p:Int)]))) (evD e) (.ref T2):=by
     rw[ed2]
     exact⟨T2,_,rfl,SqT.of (WX.at (sa6.out hT2) zb),_,_,rfl,rfl,_,_,rfl,rfl,rfl⟩
    have sa8:=(sa6.new (o:=.tup [.str wd,.int (p:Int)]) hT2).event ((zd hT2) _ _ hex) (rex.same (WX.new hT2)) rv
    have neo:∀{a:Addr},a∉[sp,st,eo,la,gi]->a≠eo:=fun h z=>h (by rw[z];simp)
    have ngi:∀{a:Addr},a∉[sp,st,eo,la,gi]->a≠gi:=fun h z=>h (by rw[z];simp)
    have hpl8:upd (upd H6 T2 (.tup [.str wd,.int (p:Int)])) eo (.lst (exs++[.ref T2])) pl=some (.lst zs2):=by rw[zi (neo npl)];exact(zd hT2) _ _ hpl6
    have hgt8:upd (upd H6 T2 (.tup [.str wd,.int (p:Int)])) eo (.lst (exs++[.ref T2])) got=some (.lst (zw (pOf (zK ["picked"] fnd)))):=by rw[zi (neo ngt)];exact(zd hT2) _ _ hgt6
    generalize upd (upd H6 T2 (.tup [.str wd,.int (p:Int)])) eo (.lst (exs++[.ref T2]))=H8 at sa8 hpl8 hgt8 ⊢
    have gl:=wO zI (es++fnd++fn)
    rw[zV,zV] at gl
    refine⟨_,rfl,sp,_,rfl,sa8.dG,.inl ⟨rfl,_,SqL.of sa8.hi⟩,_,rfl,gi,_,_,rfl,rfl,sa8.hi,by rw[zM];unfold pOf;rw[zq];omega,?_⟩
    have sa9:=sa8.giv (p:=p)
    have ea:es++(fnd++(fn++[e]))=es++fnd++fn++[e]:=by simp
    refine⟨_,_,_,_,fnd++(fn++[e]),zs2,rfl,?_,by rw[zi (ngi npl)];exact hpl8,?_,?_,?_,?_,by rw[zV,zV];show _+(_+1)<=_;omega,?_⟩
    ·rw[ea]
     exact sa9.gave ep2 ew2
    ·rw[<- jC,JF ew2]
     exact rz6
    ·rw[zi (ngi ngt),hgt8,<- jC,zG _ (fnd++fn),zG,npk,xb (wN ew2).2.2,qK,qK]
    ·rw[<- jC,zG,nl2,xb (wN ew2).2.1]
     rfl
    ·intro x hx
     rw[<- jC,zG,xb (wN ew2).1,qK] at hx
     exact tf2 x hx
    ·rw[qg epk]
     exact .snoc _ fnd p own pa _ pr epa pkr
  ·rintro σ H2 ⟨v7,v8,v9,v10,fnd,zs,rfl,sb2,hpl2,rz,hgt2,nl,tf,fl,pr⟩
   rw[pxl,qX] at pr
   rw[pxl] at fl
   refine⟨_,rfl,tp,_,_,_,rfl,rfl,sb2.le.sqT qt,rfl,lt,rfl,⟨_,sb2.le.sqT ql⟩,wq (K:=K) (a:=lt) (xs:=lxs) (fun l zs' H3=>zs'=zw ((lys.take l).filter (Zo fnd))/\Same H2 H3) ⟨rfl,Same.refl _⟩ (fun l zs' H3 ⟨_,s3⟩=>s3.sqT (sb2.le.sqT ql)) ?_ ?_⟩
   ·rintro l x zs' H3 hx ⟨rfl,s3⟩
    obtain⟨d,ed,rd⟩:=rly.get hx
    rw[qr] at ed
    obtain⟨q,eq,rfl⟩:=jb.mp ed
    cases(show x=.int (q:Int) from rd)
    have ll:=(zW.mp eq).1
    have eft:=ZE (Zo fnd) eq
    refine⟨rfl,_,rfl,_,rfl,got,_,rfl,.inl (SqL.of (s3 _ _ hgt2)),rfl,wL _,_,rfl,?_⟩
    rw[zx qC,zaL,zgM]
    cases e:Zo fnd q with
    | true=>
     refine ifT rfl ⟨_,rfl,?_,?_,s3⟩
     ·rw[zM]
      exact J8 (jR _ _) (by rw[qR];omega)
     ·rw[eft,zH e,j6]
    | false=>
     refine ifF rfl ⟨?_,s3⟩
     rw[eft,zx (by rw[e];exact qC),qK]
   rintro zs' H3 ⟨e1,s3⟩
   rw[lxl,qX] at e1
   subst e1
   have fl4:(lys.filter (Zo fnd)).length<=4:=ja (jR _ _) l4
   have fin:∀q∈lys.filter (Zo fnd),q<J.ps.length/\Zo fnd q=true:=fun q hq=>⟨lin q (jn.mp hq).1,(jn.mp hq).2⟩
   generalize efl:lys.filter (Zo fnd)=lf at fl4 fin
   refine⟨by rw[zM];omega,fun D hD=>⟨D,rfl,⟨_,SqL.of zb⟩,?_⟩⟩
   have s4:=s3.trans (zd (o:=.lst (zw lf)) hD)
   have sb4:=StA.same sb2 s4
   have nD:=(StA.same sb2 s3).out hD
   have hD4:=zb (H:=H3) (a:=D) (o:=.lst (zw lf))
   have nDp:D≠pl:=fun z=>by rw[z,s3 _ _ hpl2] at hD;cases hD
   have hpl4:=s4 _ _ hpl2
   generalize upd H3 D (.lst (zw lf))=H4 at sb4 hD4 hpl4 ⊢
   refine xc (K:=K) (a:=D) (xs:=zw lf) (fun j σ H'=>Ex6 fun(v7 v8 v9 v10:Option V) (r:List Ev) (zs:List V)=>An7 (σ=[some (.ref sp),some (.ref jp),some (.ref tp),some (.int (n:Int)),some (.ref ov),some (.ref pl),some (.ref got),v7,v8,v9,v10]) (StB K G H' sp st lk eo la gi J (es++r) w) (H' pl=some (.lst zs)) (Reps K G ((wb J r).map plD) zs) (H' D=some (.lst (zw lf))) (r.length<=44+j) (LysR J es fnd (lf.take j) r)) ⟨_,_,_,_,fnd,zs,rfl,sb4,hpl4,rz,hD4,by omega,.nil _ rfl⟩ (fun j σ H' _ ⟨_,_,_,_,_,_,_,_,_,_,s',_,_⟩=>SqL.of s') ?_ ?_
   ·rintro j x σ H5 hx ⟨v7,v8,v9,v10,r,zs,rfl,sb5,hpl5,rz5,hD5,rl,lr⟩
    unfold zw at hx
    rw[qr] at hx
    obtain⟨p,ep,rfl⟩:=jb.mp hx
    have jl:=(zW.mp ep).1
    obtain⟨hp,hg⟩:=fin p (qU ep)
    obtain⟨ra,ms,era,hra,ml,am⟩:=og.at hp
    have epa:J.ps[p]? =some J.ps[p]:=ji hp
    generalize J.ps[p]=pa at epa
    obtain⟨pv0,epv,rpv⟩:=QQ rpp epa
    obtain⟨pad,pac,rfl,qpa,qpc⟩:=wH rpv
    refine⟨_,rfl,_,rfl,ov,_,_,_,rfl,rfl,sb5.le.seq og.ho,qk era,ra,rfl,⟨_,sb5.le.seq hra⟩,jH (K:=K) (a:=ra) (xs:=ms.map V.int) (fun l zs' H6=>zs'=((ms.take l).map fun m=>decide (m∈nI (pOf (zK zI (es++r))))).map V.bl/\Same H5 H6) ⟨rfl,Same.refl _⟩ (fun l zs' H6 ⟨_,s6⟩=>s6.seq (sb5.le.seq hra)) ?_ ?_⟩
    ·rintro l x zs' H6 hx ⟨rfl,s6⟩
     rw[qr] at hx
     obtain⟨m,em,rfl⟩:=jb.mp hx
     have ll:=(zW.mp em).1
     have sb6:=StA.same sb5 s6
     refine⟨rfl,_,rfl,_,rfl,sp,_,rfl,sb6.dG,gi,_,rfl,.inl (SqL.of sb6.hi),rfl,wL _,?_,?_,s6⟩
     ·rw[zq,zq,qR];omega
     ·rw[zdo,qg em,zX,zX]
      rfl
    rintro zs' H6 ⟨e1,s6⟩
    rw[zq,qX] at e1
    subst e1
    refine⟨by rw[zq,zq];omega,fun L hL=>⟨L,_,rfl,SqL.of zb,_,rfl,?_⟩⟩
    have ea:((ms.map fun m=>decide (m∈nI (pOf (zK zI (es++r))))).any id)=ms.any fun m=>decide (m∈nI (pOf (zK zI (es++r)))):=by rw[QY];rfl
    have s7:=s6.trans (zd (o:=.lst ((ms.map fun m=>decide (m∈nI (pOf (zK zI (es++r))))).map V.bl)) hL)
    generalize upd H6 L (.lst ((ms.map fun m=>decide (m∈nI (pOf (zK zI (es++r))))).map V.bl))=H7 at s7 ⊢
    have sb7:=StA.same sb5 s7
    have hpl7:=s7 _ _ hpl5
    have hD7:=s7 _ _ hD5
    obtain⟨exs,hex,rex⟩:=sb7.he
    have exl:=rex.len
    rw[zq,zV] at exl
    have neo:∀{a:Addr},a∉[sp,st,eo,la,gi]->a≠eo:=fun h z=>h (by rw[z];simp)
    have ngi:∀{a:Addr},a∉[sp,st,eo,la,gi]->a≠gi:=fun h z=>h (by rw[z];simp)
    have nla:∀{a:Addr},a∉[sp,st,eo,la,gi]->a≠la:=fun h z=>h (by rw[z];simp)
    rw[ea]
    by_cases hLo:Zy J p (es++r)
    ·rw[(yK jo am).mpr hLo]
     refine ifT rfl ⟨_,rfl,sp,_,rfl,sb7.dE,.inl ⟨rfl,_,SqL.of hex⟩,_,rfl,le2,fun T2 hT2=>⟨eo,exs,_,rfl,rfl,(zd hT2) _ _ hex,by omega,?_⟩⟩
     have rv:Rep K (WX [sp,st,eo,la,gi] (upd H7 T2 (.tup [.str "dropped",.int (p:Int)]))) (evD (.dropped p)) (.ref T2):=⟨T2,_,rfl,SqT.of (WX.at (StA.out sb7 hT2) zb),_,_,rfl,rfl,_,_,rfl,rfl,rfl⟩
     have sa8:=(StA.new sb7 (o:=.tup [.str "dropped",.int (p:Int)]) hT2).event ((zd hT2) _ _ hex) (rex.same (WX.new hT2)) rv
     have hpl8:upd (upd H7 T2 (.tup [.str "dropped",.int (p:Int)])) eo (.lst (exs++[.ref T2])) pl=some (.lst zs):=by rw[zi (neo npl)];exact(zd hT2) _ _ hpl7
     have hD8:upd (upd H7 T2 (.tup [.str "dropped",.int (p:Int)])) eo (.lst (exs++[.ref T2])) D=some (.lst (zw lf)):=by rw[zi (neo nD)];exact(zd hT2) _ _ hD7
     generalize upd (upd H7 T2 (.tup [.str "dropped",.int (p:Int)])) eo (.lst (exs++[.ref T2]))=H8 at sa8 hpl8 hD8 ⊢
     have gl:=wO zI (es++r)
     rw[zV] at gl
     have sa9:=sa8.giv (p:=p)
     refine⟨_,rfl,sp,_,rfl,sa8.dG,.inl ⟨rfl,_,SqL.of sa8.hi⟩,_,rfl,gi,_,_,rfl,rfl,sa8.hi,by rw[zM];unfold pOf;rw[zq];omega,?_⟩
     have hw:(Ev.dropped p).w∈zI:=show("dropped" : Str)∈zI by decide
     refine⟨_,_,_,_,r++[.dropped p],zs,rfl,?_,by rw[zi (ngi npl)];exact hpl8,by rw[JF hw];exact rz5,by rw[zi (ngi nD)];exact hD8,by rw[zV];show _+1<=_;omega,?_⟩
     ·rw[<- jC]
      exact sa9.gave rfl hw
     ·rw[qg ep]
      exact .lay _ _ _ _ _ lr hg epa (.inl ⟨hLo,rfl⟩)
    ·have ef:(ms.any fun m=>decide (m∈nI (pOf (zK zI (es++r)))))=false:=by
      cases e:ms.any fun m=>decide (m∈nI (pOf (zK zI (es++r)))) with
      | true=>exact absurd ((yK jo am).mp e) hLo
      | false=>rfl
     rw[ef]
     refine ifF rfl ⟨_,rfl,sp,_,rfl,sb7.dE,.inl ⟨rfl,_,SqL.of hex⟩,_,rfl,le2,fun T1 hT1=>?_⟩
     have sG8:=sb7.le.trans (zd (o:=.tup [.str "laid",.int (p:Int)]) hT1)
     refine⟨_,rfl,jp,_,_,_,rfl,rfl,sG8.sqT qj,rfl,_,rfl,ps,_,_,_,rfl,rfl,sG8.sqT qps,qk epv,T1,pad,_,_,rfl,rfl,SqT.of zb,sG8.sqT qpa,(fun z=>nomatch z),(by show 4<=sizeLine;omega),(fun z=>nomatch z),fun _ T2 hT2=>⟨eo,exs,_,rfl,rfl,(zd hT2) _ _ ((zd hT1) _ _ hex),by omega,?_⟩⟩
     have sb8:=StA.new (StA.new sb7 (o:=.tup [.str "laid",.int (p:Int)]) hT1) (o:=.tup ([.str "laid",.int (p:Int)]++[.str pa.k,.ref pac])) hT2
     have nT2:=(StA.new sb7 (o:=.tup [.str "laid",.int (p:Int)]) hT1).out hT2
     have s8:=(zd (o:=.tup [.str "laid",.int (p:Int)]) hT1).trans (zd (o:=.tup ([.str "laid",.int (p:Int)]++[.str pa.k,.ref pac])) hT2)
     have hT8:upd (upd H7 T1 (.tup [.str "laid",.int (p:Int)])) T2 (.tup ([.str "laid",.int (p:Int)]++[.str pa.k,.ref pac])) T2=some (.tup [.str "laid",.int (p:Int),.str pa.k,.ref pac]):=zb
     generalize upd (upd H7 T1 (.tup [.str "laid",.int (p:Int)])) T2 (.tup ([.str "laid",.int (p:Int)]++[.str pa.k,.ref pac]))=H8 at sb8 s8 hT8 ⊢
     have rv:Rep K (WX [sp,st,eo,la,gi] H8) (evD (.laid p pa.k pa.x pa.y)) (.ref T2):=⟨T2,_,rfl,SqT.of (WX.at nT2 hT8),_,_,rfl,rfl,_,_,rfl,rfl,_,_,rfl,rfl,_,_,rfl,(WH qpc).same sb8.fr,rfl⟩
     have sa9:=sb8.event (s8 _ _ hex) (rex.same (WX.same s8)) rv
     have hpl9:upd H8 eo (.lst (exs++[.ref T2])) pl=some (.lst zs):=by rw[zi (neo npl)];exact s8 _ _ hpl7
     have hD9:upd H8 eo (.lst (exs++[.ref T2])) D=some (.lst (zw lf)):=by rw[zi (neo nD)];exact s8 _ _ hD7
     generalize upd H8 eo (.lst (exs++[.ref T2]))=H9 at sa9 hpl9 hD9 ⊢
     have gl:=wO ["laid"] (es++r)
     rw[zV] at gl
     refine⟨_,rfl,sp,_,rfl,sa9.dA,.inl ⟨rfl,_,SqL.of sa9.ha⟩,_,rfl,la,_,_,rfl,rfl,sa9.ha,by rw[zM];unfold pOf;rw[zq];omega,?_⟩
     have sa10:=sa9.lay (p:=p)
     have hpl10:upd H9 la (.lst (zw (pOf (zK ["laid"] (es++r)))++[.int (p:Int)])) pl=some (.lst zs):=by rw[zi (nla npl)];exact hpl9
     have hD10:upd H9 la (.lst (zw (pOf (zK ["laid"] (es++r)))++[.int (p:Int)])) D=some (.lst (zw lf)):=by rw[zi (nla nD)];exact hD9
     generalize upd H9 la (.lst (zw (pOf (zK ["laid"] (es++r)))++[.int (p:Int)]))=H10 at sa10 hpl10 hD10 ⊢
     have sG10:=sa10.le
     have zl:=rz5.len
     have rpl:=Z3 J r
     rw[zq] at zl
     refine⟨_,rfl,.inl ⟨rfl,_,SqL.of hpl10⟩,_,rfl,jp,_,_,_,rfl,rfl,sG10.sqT qj,rfl,_,rfl,ps,_,_,_,rfl,rfl,sG10.sqT qps,qk epv,pad,_,_,_,rfl,rfl,sG10.sqT qpa,rfl,pl,_,_,rfl,rfl,hpl10,by omega,?_⟩
     have sa11:=sa10.put (o:=.lst (zs++[.ref pac])) npl gpl ⟨_,hpl10⟩
     refine⟨_,_,_,_,r++[.laid p pa.k pa.x pa.y],zs++[.ref pac],rfl,?_,zb,?_,by rw[zi nDp];exact hD10,by rw[zV];show _+1<=_;omega,?_⟩
     ·rw[<- jC]
      exact sa11.laid rfl rfl
     ·rw[zcI,zX]
      exact rz5.app ⟨.ref pac,[],rfl,WH qpc,rfl⟩
     ·rw[qg ep]
      exact .lay _ _ _ _ _ lr hg epa (.inr ⟨hLo,rfl⟩)
   ·rintro σ H5 ⟨v7,v8,v9,v10,r,zs,rfl,sb5,hpl5,rz5,hD5,rl,lr⟩
    rw[zM,qX,<- efl] at lr
    rw[zM] at rl
    have tr:TripR J bs n es pks lys r:=⟨fnd,pr,WW lys lr⟩
    have eok:=TripR.ok jo.jin tr
    have zl:=rz5.len
    have rpl:=Z3 J r
    rw[zq] at zl
    refine⟨_,rfl,.inl ⟨rfl,_,SqL.of hpl5⟩,_,rfl,jp,_,_,_,rfl,rfl,sb5.le.sqT qj,rfl,pl,_,_,rfl,rfl,hpl5,by omega,?_⟩
    have sb6:=StA.put sb5 (o:=.lst (zs++[.ref gg])) npl gpl ⟨_,hpl5⟩
    have hpl6:=zb (H:=H5) (a:=pl) (o:=.lst (zs++[.ref gg]))
    have rz6:Reps K G ((vG J r).map plD) (zs++[.ref gg]):=by
     show Reps K G ((wb J r++[(J.gx,J.gy)]).map plD) _
     rw[zX]
     exact rz5.app ⟨.ref gg,[],rfl,rg,rfl⟩
    generalize upd H5 pl (.lst (zs++[.ref gg]))=H6 at sb6 hpl6 ⊢
    generalize zs++[.ref gg]=xs at rz6 hpl6
    have hxl:=rz6.len
    have rin:=Xk jo.jin eok
    have rwl:(vG J r).length<=200:=by
     have:(vG J r).length=(wb J r).length+1:=zV
     omega
    rw[zq] at hxl
    refine⟨_,rfl,sp,_,rfl,sb6.dF,_,rfl,_,rfl,1,rfl,pl,xs,rfl,SqL.of hpl6,fun t ht=>?_⟩
    have s1:Same H6 (upd H6 t (.lst (jB xs (some 1) none))):=zd ht
    have ht1:upd H6 t (.lst (jB xs (some 1) none)) t=some (.lst (xs.drop 1)):=by rw[zb,JW]
    have hx1:=s1 _ _ hpl6
    generalize upd H6 t (.lst (jB xs (some 1) none))=H7 at s1 ht1 hx1
    have sb7:=StA.same sb6 s1
    refine⟨true,true,pl,t,rfl,⟨xs,SqL.of hx1⟩,⟨_,SqL.of ht1⟩,?_⟩
    refine XA (K:=K) (k1:=true) (k2:=true) (xs:=xs) (ys:=xs.drop 1) (fun i zs H3=>zs=((xr (vG J r)).take i).map V.int/\Same H7 H3) ⟨rfl,Same.refl _⟩ (fun i zs H3 ⟨_,sm⟩=>⟨sm.seq (SqL.of hx1),sm.seq (SqL.of ht1)⟩) ?_ ?_
    ·rintro i x y zs H3 T e1 e2 ⟨rfl,sm⟩ hT
     have e2':xs[i+1]? =some y:=by rw[X7] at e2;rw[Nat.add_comm];exact e2
     have s4:=sm.trans (zd (o:=.tup [x,y]) hT)
     have sG4:=(StA.same sb7 s4).le
     obtain⟨d1,q1,r1⟩:=rz6.get e1
     obtain⟨d2,q2,r2⟩:=rz6.get e2'
     rw[qr] at q1 q2
     obtain⟨p,w1,rfl⟩:=jb.mp q1
     obtain⟨q,w2,rfl⟩:=jb.mp q2
     refine⟨T,_,rfl,SqT.of zb,rfl,_,_,rfl,_,_,rfl,rfl,rfl,?_⟩
     refine⟨_,rfl,_,rfl,x,y,p,q,rfl,r1.same sG4,r2.same sG4,?_,?_,s4⟩
     ·have:=xN (vG J r)
      rw[zq,qR];omega
     ·rw[qg (Qe w1 w2),zX];rfl
    ·rintro zs H3 ⟨rfl,sm⟩
     have hm:min xs.length (xs.drop 1).length=(xr (vG J r)).length:=by rw[xN,yW];omega
     refine⟨by rw[zq,qR];omega,fun L hL=>⟨L,xr (vG J r),rfl,?_,fun z hz=>?_,by rw[xN];omega,?_⟩⟩
     ·refine SqL.of ?_
      rw[zb,hm,qX]
     ·have:=ZY rin z hz
      omega
     have sb8:=StA.same sb7 (sm.trans (zd (o:=.lst (((xr (vG J r)).take (min xs.length (xs.drop 1).length)).map V.int)) hL))
     generalize upd H3 L (.lst (((xr (vG J r)).take (min xs.length (xs.drop 1).length)).map V.int))=H8 at sb8 ⊢
     refine⟨_,_,rfl,rfl,_,rfl,sp,_,rfl,sb8.pF,?_⟩
     exact k r _ sb8.nums tr (by omega)
def prT(t:jr):List (Nat×Nat)×List Nat:=(t.pk,t.ly)
theorem zd6(n:Nat)(g:Nat->Int):vy (n+1) g=vy n g++[.int (g n)]:=by
 unfold vy
 rw[Yd,zX]
 rfl
theorem zft:zF ["_law_job_here", "_law_plan_here", "_law_luck_here", "_law_tries", "_law_state", "_law_over_here", "_law_trip_here"] ["_law_job_here", "_law_plan_here", "_law_luck_here", "_law_tries"] (zt (topL 53)):=⟨rfl,rfl,rfl,by decide +kernel,rfl,by decide +kernel,by decide +kernel⟩
def zis{cdv:Value}{f:Addr}{A:Around}{outer:List Env}{s:Shared}{H:Hp}{E:XK}(B:Blt mg)(hr:Room 2 (A.deeper (envOfC "_law_run_due" (zt (topL 53)) s.heap.objs.size f cdv)))(D_over:Dfn P w K mg base "_law_over" 1 ["_law_many", "_law_aheads_here"] (WC K))(D_trip_run:Dfn P w K mg base "_law_trip_run" 2 ["_law_state", "_law_job_here", "_law_trip_here", "_law_tries", "_law_over_here"] (zce K))(nd:(["_law_job_here", "_law_plan_here", "_law_luck_here", "_law_tries", "_law_state", "_law_over_here", "_law_trip_here"]:List Str).Nodup):{ t:TS // PSs (Wg CX0 P w K mg base ["_law_job_here", "_law_plan_here", "_law_luck_here", "_law_tries", "_law_state", "_law_over_here", "_law_trip_here"] "_law_run_due" (zt (topL 53)) f cdv A outer s H E).nox (vq (topL 53)) t }:=
 have hu:=hr.units0
 have hu1:=QE hr
 ⟨_,(zg (zC (i:=4) nd rfl (Or.inl rfl) (Xr (xQ zP (xa [] [] rfl rfl (by kernel_rfl) (vz (zu qc (pv 0) zf (fun _ _=>rfl))) (fun _ _ _ _=>jw) (fun _ _ _ _=>(zu (qq (K:=K) rfl) (pv 0) zf (fun _ _=>rfl)))) (xQ zP (pv 2) (xQ zP zf (xQ zP zf Xo)))) rfl rfl (by intro z;cases z) (by show 4<=15;decide)))
     (zg (z7 (zaw (pv 4) (Xr (xQ zP (zN ze) (xQ zP (zN ze) (xQ zP (zN ze) Xo))) rfl rfl (by intro z;cases z) (by show 3<=15;decide)) ⟨rfl,rfl,rfl,rfl⟩))
     (zg (zC (i:=5) nd rfl (Or.inl rfl) (zk D_over (hr.mono (by decide)) rfl (za (zp zL rfl B.len boot_len (za (zu qc (pv 0) zf (fun _ _=>rfl)) ze)) (za (zu qc (pv 0) zf (fun _ _=>rfl)) ze))))
     (zg (qW ju rfl (qJ (pv 1)) (zy (i:=6) nd rfl (Or.inl rfl))
     (zo (z7 (zk D_trip_run (hr.mono (by decide)) rfl (pa5 (pv 4) (pv 0) (pv 6) (pv 3) (pv 5))))))
     (zo (zE (zY (za (qL hu1 (pv 4) zP (fun _ _=>rfl)) (za (zp xC rfl B.sorted xw (za (qL hu1 (pv 4) zP (fun _ _=>rfl)) ze)) (za (zp xC rfl B.sorted xw (za (qL hu1 (pv 4) zP (fun _ _=>rfl)) ze)) (za (qL hu1 (pv 4) zP (fun _ _=>rfl)) ze)))))))))))⟩
theorem JobOk.jsm{J:Job}{ord:List Nat}(jo:JobOk J ord):JSm J:=by
 refine⟨jo.pl,ja jo.fl (by decide),fun q hq=>?_,jo.al⟩
 unfold asI at hq
 obtain⟨p,hp,rfl⟩:=qB.mp hq
 obtain⟨k,l,_,e1,e2⟩:=jo.bo p hp
 have h1:=vd.mp (jo.op.mem_iff.mp (qU e1))
 have h2:=vd.mp (jo.op.mem_iff.mp (qU e2))
 exact⟨⟨by show(0:Int)<=(p.1:Int);omega,by show(p.1:Int)<_;omega⟩,⟨by show(0:Int)<=(p.2:Int);omega,by show(p.2:Int)<_;omega⟩⟩
inductive zab(K:PySem.W.Frag)(vs:List V)(H:Hp)(Q:VK):Prop
 | mk (jp pl lk:Addr) (J:Job) (ord:List Nat) (tr:List V) (ts:List jr) (bs:List Bool) (n:Nat) (_:vs=[.ref jp,.ref pl,.ref lk,.int (n:Int)]) (_:Rep K H (xo J) (.ref jp)) (_:JobOk J ord) (_:H pl=some (.lst tr)) (_:Reps K H (ts.map xt) tr) (_:ts.length<=60) (_:(XR (ts.map prT)).length<=60) (_:(∀t∈ts,t.ly.Nodup)) (_:(∀t∈ts,t.pk.length<=4/\t.ly.length<=4/\(∀q∈t.pk,Jg J q)/\∀q∈t.ly,q<J.ps.length)) (_:SqL K H lk (bs.map V.bl)) (_:bs.length<=400) (_:n<=10) (_:∀(T eo a b:Addr) (es:List Ev) (w:Int) (ls gs:List Int) H',Same H H'->H' T=some (.tup [.ref eo,.ref a,.ref b,.int w])->Evs K H' eo es->H' a=some (.lst (ls.map V.int))->H' b=some (.lst (gs.map V.int))->ls.Perm ((zK ["laid"] es).map fun e=>(e.p:Int))->ls.Pairwise (·<= ·)->gs.Perm ((zK zI es).map fun e=>(e.p:Int))->gs.Pairwise (·<= ·)->es.length<=5000->RunR J bs n (ts.map prT) es w->H T=none->H eo=none->H a=none->H b=none->Q (.ref T) H'):zab K vs H Q
def zac(K:PySem.W.Frag):Sp:=fun vs H Q _=>zab K vs H Q
theorem zgw{f:Addr}{fd:FuncData}(F:Fun K "_law_run_due" "_law_run_due" (topL 53) f fd)(B:Blt mg)(D_over:Dfn P w K mg base "_law_over" 1 ["_law_many", "_law_aheads_here"] (WC K))(D_trip_run:Dfn P w K mg base "_law_trip_run" 2 ["_law_state", "_law_job_here", "_law_trip_here", "_law_tries", "_law_over_here"] (zce K)):qH P w K mg base CX0 3 f fd ["_law_job_here", "_law_plan_here", "_law_luck_here", "_law_tries"] (zac K):=by
 have nd:=zft.nd
 refine F.ok zft (fun vs H Q E h=>?_) (fun cdv A outer s H vs Q E hr h=>?_)
 ·obtain⟨jp,pl,lk,J,ord,tr,ts,bs,n,rfl,_⟩:=h
  rfl
 ·obtain⟨jp,pl,lk,J,ord,tr,ts,bs,n,rfl,rj,jo,hpl,rt,t60,ap,tnd,tin,hlk,bl,n10,k⟩:=h
  have hbig:1000000<sizeLine:=by rw[sizeLine_eq];decide
  have hu:=hr.units0
  have hu1:=QE hr
  have fl40:=jo.fl
  have pl60:=jo.pl
  have al:=jo.al
  have trl:=rt.len
  rw[zq] at trl
  obtain⟨gg,fs,ps,as,fv,px,qj,rg,qf,rf,qps,rpp,_⟩:=xI rj
  have lfv:=rf.len
  have lpx:=rpp.len
  rw[zq] at lfv lpx
  refine⟨_,(zis B hr D_over D_trip_run nd).2,?_⟩
  intro sp hsp
  have s0:=zd (H:=H) (o:=.dK []) hsp
  have hs0:=zb (H:=H) (a:=sp) (o:=.dK [])
  generalize upd H sp (.dK [])=H0 at s0 hs0 ⊢
  refine⟨_,rfl,jp,_,_,_,rfl,rfl,s0.sqT qj,rfl,fs,rfl,⟨_,s0.sqT qf⟩,wq (K:=K) (a:=fs) (xs:=fv) (fun i zs H1=>zs=vy i (qF J [])/\Same H0 H1) ⟨rfl,Same.refl _⟩ (fun i zs H1 ⟨_,s1⟩=>s1.sqT (s0.sqT qf)) ?_ ?_⟩
  ·rintro i x zs H1 hx ⟨rfl,s1⟩
   obtain⟨d,ed,rd⟩:=((rf.same s0).same s1).get hx
   rw[qr] at ed
   obtain⟨fe,ef,rfl⟩:=jb.mp ed
   obtain⟨fa,fc,rfl,qfa,_⟩:=xv rd
   have il:=(zW.mp ef).1
   refine⟨rfl,_,rfl,fa,_,_,_,rfl,rfl,qfa,rfl,by rw[Qm];omega,?_,s1⟩
   have e0:qF J [] i=fe.m:=by
    unfold qF
    rw[ef]
    show fe.m-((0:Nat):Int)=_
    omega
   rw[zd6,e0]
  rintro zs H1 ⟨rfl,s1⟩
  rw[lfv]
  refine⟨by rw[Qm];omega,fun st hst=>?_⟩
  have s2:=s1.trans (zd (o:=.lst (vy J.fs.length (qF J []))) hst)
  have nst:sp≠st:=fun z=>by rw[<- z,s1 _ _ hs0] at hst;cases hst
  have gst:=s0.none (s1.none hst)
  have hst2:=zb (H:=H1) (a:=st) (o:=.lst (vy J.fs.length (qF J [])))
  generalize upd H1 st (.lst (vy J.fs.length (qF J [])))=H2 at s2 hst2 ⊢
  refine⟨_,rfl,s2 _ _ hs0,[(.inr "stock",.ref st),(.inr "luck",.ref lk),(.inr "tried",.int 0),(.inr "far",.int 0)],rfl,(by show 4<=15;decide),?_⟩
  have e3:jE [] [((.inr "stock" : Key),V.ref st),(.inr "luck",.ref lk),(.inr "tried",.int 0),(.inr "far",.int 0)]=[(.inr "stock",.ref st),(.inr "luck",.ref lk),(.inr "tried",.int 0),(.inr "far",.int 0)]:=rfl
  rw[e3]
  have hs3:=zb (H:=H2) (a:=sp) (o:=.dK [(.inr "stock",.ref st),(.inr "luck",.ref lk),(.inr "tried",.int 0),(.inr "far",.int 0)])
  have hst3:upd H2 sp (.dK [(.inr "stock",.ref st),(.inr "luck",.ref lk),(.inr "tried",.int 0),(.inr "far",.int 0)]) st=some (.lst (vy J.fs.length (qF J []))):=by rw[zi nst.symm];exact hst2
  have sH3:Same H (upd H2 sp (.dK [(.inr "stock",.ref st),(.inr "luck",.ref lk),(.inr "tried",.int 0),(.inr "far",.int 0)])):=fun a u e=>by
   rw[zi fun z=>by rw[z,hsp] at e;cases e]
   exact(s0.trans s2) a u e
  generalize upd H2 sp (.dK [(.inr "stock",.ref st),(.inr "luck",.ref lk),(.inr "tried",.int 0),(.inr "far",.int 0)])=H3 at hs3 hst3 sH3 ⊢
  refine⟨_,rfl,sp,rfl,.inl ⟨_,.inl hs3⟩,fun q hq=>⟨le0,fun eo heo=>⟨le0,fun la hla=>⟨le0,fun gi hgi=>?_⟩⟩⟩⟩
  have nq:sp≠q:=zn hs3 hq
  have s4:=zd (o:=.dK []) hq
  have s5:=zd (o:=.lst []) heo
  have s6:=zd (o:=.lst []) hla
  have s7:=zd (o:=.lst []) hgi
  have hq7:=(s5.trans (s6.trans s7)) _ _ (zb (H:=H3) (a:=q) (o:=.dK []))
  have he7:=(s6.trans s7) _ _ (zb (H:=upd H3 q (.dK [])) (a:=eo) (o:=.lst []))
  have ha7:=s7 _ _ (zb (H:=upd (upd H3 q (.dK [])) eo (.lst [])) (a:=la) (o:=.lst []))
  have hi7:=zb (H:=upd (upd (upd H3 q (.dK [])) eo (.lst [])) la (.lst [])) (a:=gi) (o:=.lst [])
  have s37:=(s4.trans s5).trans (s6.trans s7)
  have n1:sp≠eo:=zn (s4 _ _ hs3) heo
  have n2:sp≠la:=zn ((s4.trans s5) _ _ hs3) hla
  have n3:sp≠gi:=zn ((s4.trans (s5.trans s6)) _ _ hs3) hgi
  have n4:st≠eo:=zn (s4 _ _ hst3) heo
  have n5:st≠la:=zn ((s4.trans s5) _ _ hst3) hla
  have n6:st≠gi:=zn ((s4.trans (s5.trans s6)) _ _ hst3) hgi
  have n7:eo≠la:=zn (zb (H:=upd H3 q (.dK [])) (a:=eo) (o:=.lst [])) hla
  have n8:eo≠gi:=zn (s6 _ _ (zb (H:=upd H3 q (.dK [])) (a:=eo) (o:=.lst []))) hgi
  have n9:la≠gi:=zn (zb (H:=upd (upd H3 q (.dK [])) eo (.lst [])) (a:=la) (o:=.lst [])) hgi
  have nqs:q≠st:=(zn hst3 hq).symm
  have nqe:q≠eo:=zn (zb (H:=H3) (a:=q) (o:=.dK [])) heo
  have nqa:q≠la:=zn (s5 _ _ (zb (H:=H3) (a:=q) (o:=.dK []))) hla
  have nqi:q≠gi:=zn ((s5.trans s6) _ _ (zb (H:=H3) (a:=q) (o:=.dK []))) hgi
  have gq:=sH3.none hq
  have ge:=sH3.none (s4.none heo)
  have ga:=sH3.none ((s4.trans s5).none hla)
  have gg':=sH3.none ((s4.trans (s5.trans s6)).none hgi)
  generalize upd (upd (upd (upd H3 q (.dK [])) eo (.lst [])) la (.lst [])) gi (.lst [])=H7 at hq7 he7 ha7 hi7 s37 ⊢
  refine⟨hq7,[(.inr "events",.ref eo),(.inr "laid",.ref la),(.inr "given",.ref gi)],rfl,(by show 3<=15;decide),q,[(.inr "stock",.ref st),(.inr "luck",.ref lk),(.inr "tried",.int 0),(.inr "far",.int 0)],[(.inr "events",.ref eo),(.inr "laid",.ref la),(.inr "given",.ref gi)],rfl,nq,by rw[zi nq];exact s37 _ _ hs3,by rw[zb];rfl,(by show 7<=sizeLine;omega),?_⟩
  have eK:jE [((.inr "stock" : Key),V.ref st),(.inr "luck",.ref lk),(.inr "tried",.int 0),(.inr "far",.int 0)] [(.inr "events",.ref eo),(.inr "laid",.ref la),(.inr "given",.ref gi)]=stK st lk eo la gi ((spent []:Nat):Int) 0:=rfl
  rw[eK]
  have hex:∀a∈[sp,st,eo,la,gi],H a=none:=fun a h=>by
   simp only[zZ,w8,or_false] at h
   rcases h with rfl | rfl | rfl | rfl | rfl<;>assumption
  have sH8:Same H (upd (upd H7 q (.dK (jE [] [(.inr "events",.ref eo),(.inr "laid",.ref la),(.inr "given",.ref gi)]))) sp (.dK (stK st lk eo la gi ((spent []:Nat):Int) 0))):=fun a u e=>by
   rw[zi (zn e hsp),zi (zn e gq)]
   exact(sH3.trans s37) a u e
  have sa8:StA K H (upd (upd H7 q (.dK (jE [] [(.inr "events",.ref eo),(.inr "laid",.ref la),(.inr "given",.ref gi)]))) sp (.dK (stK st lk eo la gi ((spent []:Nat):Int) 0))) sp st lk eo la gi J.fs.length (qF J []) ((spent []:Nat):Int) [] [] [] 0:=by
   refine⟨zb,?_,⟨[],?_,rfl⟩,?_,?_,?_,fun a u e=>WX.at (fun z=>by rw[hex a z] at e;cases e) (sH8 a u e)⟩
   ·rw[zi nst.symm,zi nqs.symm];exact s37 _ _ hst3
   ·rw[zi n1.symm,zi nqe.symm];exact he7
   ·rw[zi n2.symm,zi nqa.symm];exact ha7
   ·rw[zi n3.symm,zi nqi.symm];exact hi7
   ·simp[nst,n1,n2,n3,n4,n5,n6,n7,n8,n9]
  generalize upd (upd H7 q (.dK (jE [] [(.inr "events",.ref eo),(.inr "laid",.ref la),(.inr "given",.ref gi)]))) sp (.dK (stK st lk eo la gi ((spent []:Nat):Int) 0))=H8 at sa8 sH8 ⊢
  clear s37 sH3 hs3 hst3 hq7 he7 ha7 hi7 s4 s5 s6 s7 hq heo hla hgi
  obtain⟨ta,x0,x1,x2,x3,asx,q0,q4,r4⟩:=QC rj
  refine⟨_,rfl,jp,_,_,_,rfl,rfl,sH8.sqT qj,rfl,ps,_,rfl,.inr (sH8.sqT qps),_,rfl,jp,_,_,_,rfl,rfl,sH8.sqT q0,rfl,ta,asx,asI J,px.length,rkO ord,rfl,.inr (sH8.sqT q4),r4.same sH8,by rw[Qc];omega,by omega,by rw[lpx];exact jo.jsm.as,zcK jo,zfZ jo,fun ov mss H9 s9 ov0 ⟨ozs,hoz,rws⟩ lm am=>?_⟩
  have sa9:=(StA.same sa8 s9).onto
  have nov:ov∉[sp,st,eo,la,gi]:=StA.out sa8 ov0
  have sHG:Same H (WX [sp,st,eo,la,gi] H9):=fun a u e=>WX.at (fun z=>by rw[hex a z] at e;cases e) ((sH8.trans s9) a u e)
  have og:OvG K (WX [sp,st,eo,la,gi] H9) ov J mss ozs:=by
   refine⟨SqL.of (WX.at nov hoz),by rw[lm,lpx],fun p ms e=>?_,fun p ms e=>⟨?_,(am p ms e).2⟩⟩
   ·obtain⟨a,e1,e2,e3⟩:=rws.2 p ms e
    exact⟨a,e1,SqL.of (WX.at (StA.out sa8 e2) e3)⟩
   ·have nd2:ms.Nodup:=(am _ _ e).1.imp fun h=>Int.ne_of_lt h
    have:=nd2.length_le_of_subset (l₂:=nI (List.range J.ps.length)) fun x hx=>by
     obtain⟨k',k1,wk⟩:=((am _ _ e).2 x).mp hx
     have hin:=Wk.in1 jo.jsm.as k1 wk
     have h1:=hin.1
     have h2:=hin.2
     exact qB.mpr ⟨x.toNat,vd.mpr (by omega),by omega⟩
    unfold nI at this
    rw[zq,vQ] at this
    omega
  generalize eG:WX [sp,st,eo,la,gi] H9=G at sa9 sHG og
  refine⟨_,rfl,pl,rfl,⟨_,SqL.of ((sHG.trans sa9.le) _ _ hpl)⟩,xc (K:=K) (a:=pl) (xs:=tr) (fun i σ H'=>Ex3 fun(v6:Option V) (es:List Ev) (w:Int)=>An4 (σ=[some (.ref jp),some (.ref pl),some (.ref lk),some (.int (n:Int)),some (.ref sp),some (.ref ov),v6]) (StB K G H' sp st lk eo la gi J es w) (es.length<=48*i) (RunR J bs n ((ts.take i).map prT) es w)) ⟨_,[],0,rfl,sa9,zJ _,.nil⟩ (fun i σ H' _ ⟨_,_,_,_,s',_,_⟩=>SqL.of ((sHG.trans s'.le) _ _ hpl)) ?_ ?_⟩
  ·rintro i x σ H10 hx ⟨v6,es,w,rfl,sb,el,rr⟩
   have il:=(zW.mp hx).1
   obtain⟨d,ed,rd⟩:=(rt.same sHG).get hx
   rw[qr] at ed
   obtain⟨t,et,rfl⟩:=jb.mp ed
   obtain⟨h1,h2,h3,h4⟩:=tin _ (qU et)
   have rd':=rd
   obtain⟨tp,_,rfl,_⟩:=rd'
   refine⟨_,rfl,_,rfl,_,rfl,_,rfl,_,rfl,sp,st,lk,eo,la,gi,jp,tp,ov,G,J,ord,t.pk,t.ly,n,bs,es,w,mss,ozs,rfl,sb,rj.same sHG,jo,sHG.seq hlk,bl,rd,h3,h4,h1,h2,n10,by omega,og,fun r H11 sb11 trr rl=>⟨_,es++r,w+(xr (vG J r)).sum,rfl,sb11,by rw[zV];omega,?_⟩⟩
   rw[qg et,zX]
   exact .snoc _ es w t.pk t.ly r rr trr
  rintro σ H10 ⟨v6,es,w,rfl,sb,el,rr⟩
  rw[trl,qX] at rr
  rw[trl] at el
  have z1:=(rr.counts fun t ht=>by
   obtain⟨x,hx,rfl⟩:=qB.mp ht
   exact tnd x hx).1
  have sHH:=sHG.trans sb.le
  have mp:∀l:List Ev,zw (pOf l)=(l.map fun e=>(e.p:Int)).map V.int:=fun l=>by
   unfold zw pOf
   rw[vO,vO]
   rfl
  obtain⟨exs,hex2,rex⟩:=sb.he
  refine⟨_,rfl,sp,_,rfl,sb.dE,_,rfl,sp,_,rfl,sb.dA,la,(zK ["laid"] es).map fun e=>(e.p:Int),rfl,SqL.of (by rw[sb.ha,mp]),by rw[zq];omega,fun a ls ha pa pw=>?_⟩
  have sb2:=StA.new sb (o:=.lst (ls.map V.int)) ha
  have s11:=zd (o:=.lst (ls.map V.int)) ha
  have ha11:=zb (H:=H10) (a:=a) (o:=.lst (ls.map V.int))
  generalize upd H10 a (.lst (ls.map V.int))=H11 at sb2 s11 ha11 ⊢
  refine⟨_,rfl,sp,_,rfl,sb2.dG,gi,(zK zI es).map fun e=>(e.p:Int),rfl,SqL.of (by rw[sb2.hi,mp]),by rw[zq];omega,fun b gs hb pb pwb=>?_⟩
  have sb3:=StA.new sb2 (o:=.lst (gs.map V.int)) hb
  have s12:=zd (o:=.lst (gs.map V.int)) hb
  have hb12:=zb (H:=H11) (a:=b) (o:=.lst (gs.map V.int))
  generalize upd H11 b (.lst (gs.map V.int))=H12 at sb3 s12 hb12 ⊢
  refine⟨_,rfl,sp,_,rfl,sb3.dF,le4,fun T hT=>?_⟩
  have s13:=zd (H:=H12) (o:=.tup [.ref eo,.ref a,.ref b,.int w]) hT
  have s1:=(s11.trans s12).trans s13
  exact k T eo a b es w ls gs _ (sHH.trans s1) zb ⟨exs,s1 _ _ hex2,rex.same (WX.le.trans s1)⟩ ((s12.trans s13) _ _ ha11) (s13 _ _ hb12) pa pw pb pwb (by omega) rr ((sHH.trans (s11.trans s12)).none hT) ge (sHH.none ha) ((sHH.trans s11).none hb)
theorem zaJ{a b:List Int}(p:a.Perm b)(ha:a.Pairwise (·<= ·))(hb:b.Pairwise (·<= ·)):a=b:=p.eq_of_pairwise (fun _ _ _ _ h1 h2=>Int.le_antisymm h1 h2) ha hb
theorem Qd(ts:List jr):XR (ts.map prT)=vo ts:=by
 induction ts with
 | nil=>rfl
 | cons t ts ih=>show t.pk++XR (ts.map prT)=t.pk++vo ts;rw[ih]
theorem zcP{J:Job}(ts:List jr):(∀t∈ts,Vh J t)->(xB ts).Perm ((vo ts).map (·.1)):=by
 induction ts with
 | nil=>exact fun _=>.refl _
 | cons t ts ih=>
  intro h
  show(t.ly++xB ts).Perm ((t.pk++vo ts).map (·.1))
  rw[zX]
  exact(h t j8).ly.append (ih fun x hx=>h x (jv _ hx))
theorem Z7{os:List Nat}{n:Nat}{ts:List jr}(pm:os.Perm (List.range n))(s:(xB ts).Sublist os):(xB ts).Nodup:=(pm.nodup_iff.mpr Yh).sublist s
theorem zaB{ts:List jr}(h:(xB ts).Nodup):∀t∈ts,t.ly.Nodup:=(List.pairwise_flatMap.mp h).1
def yC(es:List Ev)(ls gs:List Int)(w:Int):Dat:=.tup [.lst (es.map evD),.lst (ls.map Dat.int),.lst (gs.map Dat.int),.int w]
theorem zhU(e:Ev):Dat.ok 2 (evD e):=by
 refine⟨?_,fun d hd=>?_⟩
 ·cases e<;>exact Nat.le_of_ble_eq_true rfl
 ·rcases zZ.mp hd with rfl | hd
  ·trivial
  ·rcases zZ.mp hd with rfl | hd
   ·trivial
   ·cases e with
    | laid p k x y=>
     rcases zZ.mp hd with rfl | hd
     ·trivial
     ·cases qo.mp hd
      refine⟨Nat.le_of_ble_eq_true rfl,fun d hd=>?_⟩
      rcases zZ.mp hd with rfl | hd
      ·trivial
      ·cases qo.mp hd;trivial
    | picked p f=>cases qo.mp hd;trivial
    | missed p f=>cases qo.mp hd;trivial
    | behind p=>cases hd
    | none p=>cases hd
    | failed p=>cases hd
    | dropped p=>cases hd
theorem zaH{l:List Int}(h:l.length<=1000000):Dat.ok 3 (.lst (l.map Dat.int)):=⟨by rw[zq];exact h,fun d hd=>by
 obtain⟨z,_,rfl⟩:=qB.mp hd
 trivial⟩
theorem zf1{es:List Ev}{ls gs:List Int}{w:Int}(h1:es.length<=1000000)(h2:ls.length<=1000000)(h3:gs.length<=1000000):Dat.ok 4 (yC es ls gs w):=by
 refine⟨by show 4<=1000000;decide,fun d hd=>?_⟩
 rcases zZ.mp hd with rfl | hd
 ·refine⟨by rw[zq];exact h1,fun d hd=>?_⟩
  obtain⟨e,_,rfl⟩:=qB.mp hd
  exact zhU e
 ·rcases zZ.mp hd with rfl | hd
  ·exact zaH h2
  ·rcases zZ.mp hd with rfl | hd
   ·exact zaH h3
   ·cases qo.mp hd;trivial
structure RunAt(J:Job)(bs:List Bool)(m:Nat)(ts:List jr)(es:List Ev)(w:Int)(ls gs:List Int):Prop where
 run:RunR J bs m (ts.map prT) es w
 pl:ls.Perm ((zK ["laid"] es).map fun e=>(e.p:Int))
 wl:ls.Pairwise (·<= ·)
 pg:gs.Perm ((zK zI es).map fun e=>(e.p:Int))
 wg:gs.Pairwise (·<= ·)
 el:es.length<=5000
theorem RunAt.same{J:Job}{bs bs':List Bool}{m:Nat}{ts:List jr}{es es':List Ev}{w w':Int}{ls ls' gs gs':List Int}(a:RunAt J bs m ts es w ls gs)(b:RunAt J bs' m ts es' w' ls' gs')(h:∀s,s<spent es->wo bs s=wo bs' s):yC es' ls' gs' w'=yC es ls gs w:=by
 obtain⟨rfl,rfl⟩:=a.run.same b.run h
 rw[zaJ (b.pl.trans a.pl.symm) b.wl a.wl,zaJ (b.pg.trans a.pg.symm) b.wg a.wg]
structure CaseOk(J:Job)(ts:List jr):Prop where
 jo:∃ord,JobOk J ord
 po:∃os:List Nat,os.Perm (List.range J.ps.length)/\YC J os ts
theorem CaseOk.few{J:Job}{ts:List jr}(c:CaseOk J ts):(xB ts).length<=60/\(vo ts).length<=60:=by
 obtain⟨ord,jo⟩:=c.jo
 obtain⟨os,pm,po⟩:=c.po
 have h1:=po.sub.length_le
 have h2:=pm.length_eq
 have h3:=(zcP ts po.tr).length_eq
 rw[vQ] at h2
 rw[zq] at h3
 have:=jo.pl
 exact⟨by omega,by omega⟩
theorem xP{α:Type}{f:α->Dat}:∀{l:List α},(∀a∈l,(f a).shw=true)->Dat.shws (l.map f)=true
 | [],_=>rfl
 | a::l,h=>by
  show((f a).shw&&Dat.shws (l.map f))=true
  rw[h a (by simp),xP fun b hb=>h b (jv _ hb)]
  rfl
theorem xD{α:Type}{f:α->Dat}{c:Nat}:∀{l:List α},(∀a∈l,(f a).blk<=c)->Dat.blks (l.map f)<=(c+1)*l.length
 | [],_=>qe _
 | a::l,h=>by
  show(f a).blk+1+Dat.blks (l.map f)<=_
  have h1:=h a (by simp)
  have h2:=xD (f:=f) (c:=c) (l:=l) fun b hb=>h b (jv _ hb)
  rw[xU,Nat.mul_succ]
  omega
theorem jZ{α:Type}{f:α->Dat}{c:Nat}(h:∀a,(f a).py.depth<=c):∀l:List α,PyData.depthAll (Dat.pys (l.map f))<=c
 | []=>qe _
 | a::l=>by
  have h1:=h a
  have h2:=jZ h l
  show max (PyData.depth (f a).py) (PyData.depthAll (Dat.pys (l.map f)))<=c
  omega
theorem x5{i:Int}(h:-1000000<=i)(h':i<=1000000):Dat.shw (.int i)=true:=qQ (by omega)
theorem WN{x:Str}(h:Nm x):Dat.shw (.str x)=true:=xF.mpr fun c hc=>qQ (h.2 c hc)
theorem WO{x:Str}(h:Nm x):Dat.blk (.str x)<=8:=h.1
theorem WG{x y:Int}(h:inP x y):Dat.shw (.tup [.int x,.int y])=true:=by
 unfold inP at h
 show(Dat.shw (.int x)&&(Dat.shw (.int y)&&true))=true
 rw[x5 (by omega) (by omega),x5 (by omega) (by omega)]
 rfl
theorem zeK{J:Job}{ord:List Nat}(jo:JobOk J ord):(xo J).shw=true:=by
 have hd0:=jo.hd0
 have hd1:=jo.hd1
 show(Dat.shw (.tup [.int J.gx,.int J.gy])&&(Dat.shw (.int J.hd)&&(Dat.shws (J.fs.map xS)&&(Dat.shws (J.ps.map j7)&&(Dat.shws (J.as.map jP)&&true)))))=true
 rw[WG jo.gate,x5 (by omega) (by omega),xP,xP,xP]
 ·rfl
 ·intro p hp
  have h1:=vd.mp (jo.op.mem_iff.mp (jo.bo.mem1 hp))
  have h2:=vd.mp (jo.op.mem_iff.mp (jo.bo.mem2 hp))
  have pl:=jo.pl
  show(Dat.shw (.int (p.1:Int))&&(Dat.shw (.int (p.2:Int))&&true))=true
  rw[x5 (by omega) (by omega),x5 (by omega) (by omega)]
  rfl
 ·intro p hp
  obtain⟨h1,h2,_⟩:=jo.pa p hp
  show(Dat.shw (.str p.k)&&(Dat.shw (.tup [.int p.x,.int p.y])&&true))=true
  rw[WN h1,WG h2]
  rfl
 ·intro p hp
  obtain⟨h1,h2,h3,h4⟩:=jo.fa p hp
  show(Dat.shw (.str p.k)&&(Dat.shw (.tup [.int p.x,.int p.y])&&(Dat.shw (.int p.m)&&true)))=true
  rw[WN h1,WG h2,x5 (by omega) (by omega)]
  rfl
theorem zeM{J:Job}{ord:List Nat}(jo:JobOk J ord):(xo J).blk<=10000:=by
 have h1:=xD (f:=xS) (c:=20) (l:=J.fs) fun p hp=>by
  have:=WO (jo.fa p hp).1
  show Dat.blk (.str p.k)+1+(0+1+(0+1+0)+1+(0+1+0))<=20
  omega
 have h2:=xD (f:=j7) (c:=20) (l:=J.ps) fun p hp=>by
  have:=WO (jo.pa p hp).1
  show Dat.blk (.str p.k)+1+(0+1+(0+1+0)+1+0)<=20
  omega
 have h3:=xD (f:=jP) (c:=20) (l:=J.as) fun p hp=>by
  show 0+1+(0+1+0)<=20
  omega
 have fl:=jo.fl
 have pl:=jo.pl
 have al:=jo.al
 show 0+1+(0+1+0)+1+(0+1+(Dat.blks (J.fs.map xS)+1+(Dat.blks (J.ps.map j7)+1+(Dat.blks (J.as.map jP)+1+0))))<=10000
 omega
theorem zeL(J:Job):(xo J).py.depth<=20:=by
 have h1:=jZ (f:=xS) (c:=10) (fun p=>by
  show PyData.depth (.tuple [.str p.k,.tuple [.int p.x,.int p.y],.int p.m])<=10
  simp[PyData.depth,PyData.depthAll]) J.fs
 have h2:=jZ (f:=j7) (c:=10) (fun p=>by
  show PyData.depth (.tuple [.str p.k,.tuple [.int p.x,.int p.y]])<=10
  simp[PyData.depth,PyData.depthAll]) J.ps
 have h3:=jZ (f:=jP) (c:=10) (fun p=>by
  show PyData.depth (.tuple [.int p.1,.int p.2])<=10
  simp[PyData.depth,PyData.depthAll]) J.as
 show PyData.depth (.tuple [.tuple [.int J.gx,.int J.gy],.int J.hd,.tuple (Dat.pys (J.fs.map xS)),.tuple (Dat.pys (J.ps.map j7)),.tuple (Dat.pys (J.as.map jP))])<=20
 simp only[PyData.depth,PyData.depthAll]
 omega
def zav(ts:List jr):Dat:=.lst (ts.map xt)
theorem zcO(ts:List jr):(zav ts).py.depth<=30:=by
 have h2:=jZ (f:=xt) (c:=20) (fun t=>by
  have h3:=jZ (f:=jP) (c:=10) (fun p=>by
   show PyData.depth (.tuple [.int p.1,.int p.2])<=10
   simp[PyData.depth,PyData.depthAll]) t.pk
  have h4:=jZ (f:=Jl) (c:=10) (fun p=>by
   show PyData.depth (.int p)<=10
   simp[PyData.depth]) t.ly
  show PyData.depth (.tuple [.tuple (Dat.pys (t.pk.map jP)),.tuple (Dat.pys (t.ly.map Jl))])<=20
  simp only[PyData.depth,PyData.depthAll]
  omega) ts
 show PyData.depth (.list (Dat.pys (ts.map xt)))<=30
 simp only[PyData.depth,PyData.depthAll]
 omega
def lkD(bs:List Bool):Dat:=.lst (bs.map Dat.bl)
def zhJ(J:Job)(ts:List jr)(bs:List Bool):Dat:=.lst [xo J,zav ts,lkD bs]
theorem XL{J:Job}{ts:List jr}(c:CaseOk J ts):∀t∈ts,t.pk.length<=4/\t.ly.length<=4/\(∀p∈t.pk,p.1<100/\p.2<100)/\∀k∈t.ly,k<100:=fun t ht=>by
 obtain⟨ord,jo⟩:=c.jo
 obtain⟨os,pm,po⟩:=c.po
 have tok:=po.tr t ht
 have p2:=tok.p2
 have hd:=jo.hd1
 have l:=tok.ly.length_eq
 rw[zq] at l
 have pl:=jo.pl
 have fl:=jo.fl
 have okp:∀p∈t.pk,p.1<100/\p.2<100:=fun p hp=>by
  obtain⟨pa,fe,e1,e2,_⟩:=tok.ok p hp
  have h1:=(zW.mp e1).1
  have h2:=(zW.mp e2).1
  omega
 refine⟨by omega,by omega,okp,fun k hk=>?_⟩
 obtain⟨p,hp,rfl⟩:=qB.mp (tok.ly.mem_iff.mp hk)
 exact(okp p hp).1
theorem zdj{J:Job}{ts:List jr}(c:CaseOk J ts)(bs:List Bool):(zhJ J ts bs).shw=true:=by
 obtain⟨ord,jo⟩:=c.jo
 show((xo J).shw&&(Dat.shws (ts.map xt)&&(Dat.shws (bs.map Dat.bl)&&true)))=true
 rw[zeK jo,xP fun t ht=>?_,xP fun k _=>rfl]
 ·rfl
 ·obtain⟨_,_,h1,h2⟩:=XL c t ht
  show(Dat.shws (t.pk.map jP)&&(Dat.shws (t.ly.map Jl)&&true))=true
  rw[xP,xP]
  ·rfl
  ·intro k hk
   have:=h2 k hk
   exact x5 (by omega) (by omega)
  ·intro p hp
   have:=h1 p hp
   show(Dat.shw (.int (p.1:Int))&&(Dat.shw (.int (p.2:Int))&&true))=true
   rw[x5 (by omega) (by omega),x5 (by omega) (by omega)]
   rfl
theorem zap{H:Hp}:∀l:List Bool,Reps K H (l.map Dat.bl) (l.map V.bl)
 | []=>rfl
 | z::l=>⟨_,_,rfl,rfl,zap l⟩
theorem CaseAt.same{H H':Hp}{jp pl lk:Addr}{J:Job}{ts:List jr}{bs:List Bool}{m:Nat}(c:CaseAt K H jp pl lk J ts bs m)(s:Same H H'):CaseAt K H' jp pl lk J ts bs m:=by
 obtain⟨tr,h1,h2⟩:=c.rp
 exact⟨c.rj.same s,c.jo,⟨tr,s _ _ h1,h2.same s⟩,c.po,s _ _ c.hl,c.bl,c.m1,c.m5⟩
theorem CaseAt.ok{H:Hp}{jp pl lk:Addr}{J:Job}{ts:List jr}{bs:List Bool}{m:Nat}(c:CaseAt K H jp pl lk J ts bs m):CaseOk J ts:=⟨c.jo,c.po⟩
theorem wc{H:Hp}:∀l:List Int,Reps K H (l.map Dat.int) (l.map V.int)
 | []=>rfl
 | z::l=>⟨_,_,rfl,rfl,wc l⟩
theorem zd7{H:Hp}{T eo a b:Addr}{es:List Ev}{w:Int}{ls gs:List Int}(hT:H T=some (.tup [.ref eo,.ref a,.ref b,.int w]))(he:Evs K H eo es)(ha:H a=some (.lst (ls.map V.int)))(hb:H b=some (.lst (gs.map V.int))):Rep K H (yC es ls gs w) (.ref T):=by
 obtain⟨xs,h1,h2⟩:=he
 exact⟨T,_,rfl,SqT.of hT,_,_,rfl,⟨eo,xs,rfl,SqL.of h1,h2⟩,_,_,rfl,⟨a,_,rfl,SqL.of ha,wc ls⟩,_,_,rfl,⟨b,_,rfl,SqL.of hb,wc gs⟩,_,_,rfl,rfl,rfl⟩
theorem zdF{H:Hp}{jp pl lk lk':Addr}{J:Job}{ts:List jr}{bs bs':List Bool}{m:Nat}{Q:VK}{E:XK}(c:CaseAt K H jp pl lk J ts bs m)(hk:SqL K H lk' (bs'.map V.bl))(k:∀(T eo a b:Addr) (es:List Ev) (w:Int) (ls gs:List Int) H',Same H H'->H' T=some (.tup [.ref eo,.ref a,.ref b,.int w])->Evs K H' eo es->H' a=some (.lst (ls.map V.int))->H' b=some (.lst (gs.map V.int))->RunAt J bs' m ts es w ls gs->H eo=none->H a=none->H b=none->H T=none->eo≠a->eo≠b->a≠b->Q (.ref T) H'):zcf K [.ref jp,.ref pl,.ref lk',.int (m:Int)] H Q E:=by
 obtain⟨ord,jo⟩:=c.jo
 obtain⟨os,pm,po⟩:=c.po
 obtain⟨tr,h1,h2⟩:=c.rp
 have nd:=Z7 pm po.sub
 have hd:=jo.hd1
 refine⟨jp,pl,lk',J,ts.map prT,bs',m,rfl,c.rj,jo.jsm,jo.jin,⟨pl,tr,rfl,SqL.of h1,?_⟩,by rw[zq];exact po.len,by rw[Qd];exact c.ok.few.2,fun t ht=>?_,fun t ht=>?_,hk,ja c.m5 (by decide),fun T eo a b es w ls gs H' s hT he ha hb p1 p2 p3 p4 el r=>k T eo a b es w ls gs H' s hT he ha hb ⟨r,p1,p2,p3,p4,el⟩⟩
 ·rw[vO]
  exact h2
 ·obtain⟨x,hx,rfl⟩:=qB.mp ht
  exact zaB nd x hx
 ·obtain⟨x,hx,rfl⟩:=qB.mp ht
  have tok:=po.tr x hx
  obtain⟨l1,l2,_,_⟩:=XL c.ok x hx
  have pin:∀q∈x.pk,q.1<J.ps.length:=fun q hq=>by
   obtain⟨pa,_,ep,_⟩:=tok.ok q hq
   exact(zW.mp ep).1
  refine⟨l1,l2,pin,fun q hq=>?_⟩
  obtain⟨p,hp,rfl⟩:=qB.mp (tok.ly.mem_iff.mp hq)
  exact pin p hp
theorem zdG{H:Hp}{jp pl lk:Addr}{J:Job}{ts:List jr}{bs:List Bool}{m:Nat}{Q:VK}{E:XK}(c:CaseAt K H jp pl lk J ts bs m)(k:∀(T eo a b:Addr) (es:List Ev) (w:Int) (ls gs:List Int) H',Same H H'->H' T=some (.tup [.ref eo,.ref a,.ref b,.int w])->Evs K H' eo es->H' a=some (.lst (ls.map V.int))->H' b=some (.lst (gs.map V.int))->RunAt J bs m ts es w ls gs->H T=none->H eo=none->H a=none->H b=none->Q (.ref T) H'):zac K [.ref jp,.ref pl,.ref lk,.int (m:Int)] H Q E:=by
 obtain⟨ord,jo⟩:=c.jo
 obtain⟨os,pm,po⟩:=c.po
 obtain⟨tr,h1,h2⟩:=c.rp
 have nd:=Z7 pm po.sub
 refine⟨jp,pl,lk,J,ord,tr,ts,bs,m,rfl,c.rj,jo,h1,h2,po.len,by rw[Qd];exact c.ok.few.2,zaB nd,fun t ht=>?_,SqL.of c.hl,c.bl,ja c.m5 (by decide),fun T eo a b es w ls gs H' s hT he ha hb p1 p2 p3 p4 el r=>k T eo a b es w ls gs H' s hT he ha hb ⟨r,p1,p2,p3,p4,el⟩⟩
 have tok:=po.tr t ht
 obtain⟨l1,l2,_,_⟩:=XL c.ok t ht
 refine⟨l1,l2,tok.ok,fun q hq=>?_⟩
 obtain⟨p,hp,rfl⟩:=qB.mp (tok.ly.mem_iff.mp hq)
 obtain⟨pa,fe,e1,_⟩:=tok.ok p hp
 exact(zW.mp e1).1
end
mutual
def Dat.gd(k:Nat):Dat->Bool
 | .int i=>decide (i.natAbs<=10000000000+k)
 | .str x=>x.cps.toList.all fun c=>decide (c<1000000)
 | .lst ds=>Dat.gds k ds
 | .tup ds=>Dat.gds k ds
 | _=>true
def Dat.gds(k:Nat):List Dat->Bool
 | []=>true
 | d::ds=>d.gd k&&Dat.gds k ds
end
mutual
theorem Dat.gd_up{k m:Nat}(h:k<=m):∀{d:Dat},d.gd k=true->d.gd m=true
 | .int i,e=>qQ (by have:=qZ (p:=i.natAbs<=10000000000+k) e;omega)
 | .str _,e=>e
 | .lst ds,e=>Dat.gds_up h (ds:=ds) e
 | .tup ds,e=>Dat.gds_up h (ds:=ds) e
 | .non,_=>rfl
 | .bl _,_=>rfl
theorem Dat.gds_up{k m:Nat}(h:k<=m):∀{ds:List Dat},Dat.gds k ds=true->Dat.gds m ds=true
 | [],_=>rfl
 | d::ds,e=>by
  have e':(d.gd k&&Dat.gds k ds)=true:=e
  rw[jG] at e'
  show(d.gd m&&Dat.gds m ds)=true
  rw[Dat.gd_up h e'.1,Dat.gds_up h e'.2];rfl
end
mutual
theorem Dat.gd_shw{k:Nat}(h:k<=1000):∀{d:Dat},d.gd k=true->d.shw=true
 | .int i,e=>qQ (by have:=qZ (p:=i.natAbs<=10000000000+k) e;omega)
 | .str _,e=>e
 | .lst ds,e=>Dat.gds_shw h (ds:=ds) e
 | .tup ds,e=>Dat.gds_shw h (ds:=ds) e
 | .non,_=>rfl
 | .bl _,_=>rfl
theorem Dat.gds_shw{k:Nat}(h:k<=1000):∀{ds:List Dat},Dat.gds k ds=true->Dat.shws ds=true
 | [],_=>rfl
 | d::ds,e=>by
  have e':(d.gd k&&Dat.gds k ds)=true:=e
  rw[jG] at e'
  show(d.shw&&Dat.shws ds)=true
  rw[Dat.gd_shw h e'.1,Dat.gds_shw h e'.2];rfl
end
structure GdD(k z D:Nat)(d:Dat):Prop where
 g:d.gd k=true
 b:d.blk<=z
 p:d.py.depth<=D
theorem GdD.up{k z D k' z' D':Nat}{d:Dat}(h:GdD k z D d)(h1:k<=k')(h2:z<=z')(h3:D<=D'):GdD k' z' D' d:=⟨Dat.gd_up h1 h.g,ja h.b h2,ja h.p h3⟩
section
variable{P:Program}{w:World}{K:PySem.W.Frag}{mg:Str->Option Value}{base:Heap}
def DS(K:PySem.W.Frag)(F:Hp)(k z D:Nat)(v:V):Prop:=∃d,Rep K F d v/\GdD k z D d
theorem DS.up{F F':Hp}{k z D k' z' D':Nat}{v:V}(h:DS K F k z D v)(s:Same F F')(h1:k<=k')(h2:z<=z')(h3:D<=D'):DS K F' k' z' D' v:=let ⟨d,r,g⟩:=h;⟨d,r.same s,g.up h1 h2 h3⟩
theorem yB{F:Hp}{k z D:Nat}:∀{xs:List V},(∀x∈xs,DS K F k z D x)->∃ds,Reps K F ds xs/\Dat.gds k ds=true/\Dat.blks ds<=(z+1)*xs.length/\PyData.depthAll (Dat.pys ds)<=D
 | [],_=>⟨[],rfl,rfl,qe _,qe _⟩
 | x::xs,h=>by
  obtain⟨d,r,g⟩:=h x (by simp)
  obtain⟨ds,r',g',b',p'⟩:=yB (xs:=xs) fun y hy=>h y (jv _ hy)
  refine⟨d::ds,⟨x,xs,rfl,r,r'⟩,?_,?_,?_⟩
  ·show(d.gd k&&Dat.gds k ds)=true
   rw[g.g,g'];rfl
  ·show d.blk+1+Dat.blks ds<=_
   have:=g.b
   rw[xU,Nat.mul_succ]
   omega
  ·show max d.py.depth (PyData.depthAll (Dat.pys ds))<=D
   have:=g.p
   omega
theorem DS.lst{F:Hp}{k z D z':Nat}{a:Addr}{xs:List V}(h:SqL K F a xs)(all:∀x∈xs,DS K F k z D x)(hz:(z+1)*xs.length<=z'):DS K F k z' (D+1) (.ref a):=by
 obtain⟨ds,r,g,b,p⟩:=yB all
 refine⟨.lst ds,⟨a,xs,rfl,h,r⟩,g,ja b hz,?_⟩
 show PyData.depth (.list (Dat.pys ds))<=_
 simp only[PyData.depth]
 omega
theorem DS.tup{F:Hp}{k z D z':Nat}{a:Addr}{xs:List V}(h:SqT K F a xs)(all:∀x∈xs,DS K F k z D x)(hz:(z+1)*xs.length<=z'):DS K F k z' (D+1) (.ref a):=by
 obtain⟨ds,r,g,b,p⟩:=yB all
 refine⟨.tup ds,⟨a,xs,rfl,h,r⟩,g,ja b hz,?_⟩
 show PyData.depth (.tuple (Dat.pys ds))<=_
 simp only[PyData.depth]
 omega
theorem zbX{F:Hp}{k z D:Nat}:∀{ds:List Dat} {xs:List V},Reps K F ds xs->Dat.gds k ds=true->Dat.blks ds<=z->PyData.depthAll (Dat.pys ds)<=D->xs.length<=z/\∀x∈xs,DS K F k (z-1) D x
 | [],_,h,_,_,_=>by rw[show _=_ from h];exact⟨qe _,fun x hx=>nomatch hx⟩
 | d::ds,_,h,g,b,p=>by
  obtain⟨v,r,e,h1,h2⟩:=h
  subst e
  have g':(d.gd k&&Dat.gds k ds)=true:=g
  rw[jG] at g'
  have b':d.blk+1+Dat.blks ds<=z:=b
  have p':max d.py.depth (PyData.depthAll (Dat.pys ds))<=D:=p
  obtain⟨l,al⟩:=zbX (z:=z-1) (k:=k) (D:=D) h2 g'.2 (by omega) (by omega)
  refine⟨by rw[xU];omega,fun x hx=>?_⟩
  rcases zZ.mp hx with q | q
  ·rw[q];exact⟨d,h1,g'.1,by omega,by omega⟩
  ·exact(al x q).up (Same.refl _) (zJ _) (by omega) (zJ _)
theorem SqQ.same{H H':Hp}{t:Bool}{a:Addr}{xs:List V}(h:SqQ K H t a xs)(s:Same H H'):SqQ K H' t a xs:=by
 cases t with
 | true=>exact s.sqT h
 | false=>exact s.seq h
theorem SqQ.or{H:Hp}{t:Bool}{a:Addr}{xs:List V}(h:SqQ K H t a xs):SqL K H a xs\/SqT K H a xs:=by
 cases t with
 | true=>exact .inr h
 | false=>exact .inl h
def tyQ(t:Bool):String:=if t=true then "tuple" else "list"
theorem SqQ.ty{H:Hp}{t:Bool}{a:Addr}{xs:List V}(h:SqQ K H t a xs):TyN K H (.ref a) (tyQ t):=by
 cases t with
 | true=>exact .inr ⟨rfl,xs,h⟩
 | false=>exact .inl ⟨rfl,xs,h⟩
theorem DS.split{F:Hp}{k z D:Nat}{v:V}(h:DS K F k z D v):v=.non\/(∃c,v=.bl c)\/(∃i:Int,v=.int i/\i.natAbs<=10000000000+k)\/(∃x:Str,v=.str x)\/∃(a:Addr) (t:Bool) (xs:List V),v=.ref a/\SqQ K F t a xs/\xs.length<=z/\1<=D/\∀x∈xs,DS K F k (z-1) (D-1) x:=by
 obtain⟨d,r,g,b,p⟩:=h
 cases d with
 | non=>exact .inl r
 | bl c=>exact .inr (.inl ⟨c,r⟩)
 | int i=>exact .inr (.inr (.inl ⟨i,r,qZ g⟩))
 | str x=>exact .inr (.inr (.inr (.inl ⟨x,r⟩)))
 | lst ds=>
  obtain⟨a,xs,e,q,rs⟩:=r
  have p':PyData.depth (.list (Dat.pys ds))<=D:=p
  simp only[PyData.depth] at p'
  obtain⟨l,al⟩:=zbX (z:=z) (D:=D-1) rs g b (by omega)
  exact .inr (.inr (.inr (.inr ⟨a,false,xs,e,q,l,by omega,al⟩)))
 | tup ds=>
  obtain⟨a,xs,e,q,rs⟩:=r
  have p':PyData.depth (.tuple (Dat.pys ds))<=D:=p
  simp only[PyData.depth] at p'
  obtain⟨l,al⟩:=zbX (z:=z) (D:=D-1) rs g b (by omega)
  exact .inr (.inr (.inr (.inr ⟨a,true,xs,e,q,l,by omega,al⟩)))
theorem zgJ{k:Nat}{i:Int}(h:i.natAbs<=10000000000+k)(z D:Nat):GdD k z D (.int i):=⟨qQ h,qe _,by show PyData.depth (.int i)<=_;simp[PyData.depth]⟩
theorem DS.non{F:Hp}{k z D:Nat}:DS K F k z D .non:=⟨.non,rfl,rfl,qe _,by show PyData.depth .none<=_;simp[PyData.depth]⟩
theorem DS.bl{F:Hp}{k z D:Nat}(b:Bool):DS K F k z D (.bl b):=⟨.bl b,rfl,rfl,qe _,by show PyData.depth (.bool b)<=_;simp[PyData.depth]⟩
theorem DS.int{F:Hp}{k z D:Nat}{i:Int}(h:i.natAbs<=10000000000+k):DS K F k z D (.int i):=⟨.int i,rfl,zgJ h z D⟩
theorem DS.str{F:Hp}{k z D:Nat}{x:Str}(h:x.length<=z)(hc:∀c∈x.cps.toList,c<1000000):DS K F k z D (.str x):=⟨.str x,rfl,xF.mpr fun c hc'=>qQ (hc c hc'),h,by show PyData.depth (.str x)<=_;simp[PyData.depth]⟩
theorem DS.istr{F:Hp}{k z D:Nat}{i:Int}(h:i.natAbs<1000000000000)(hz:13<=z):DS K F k z D (.str (toString i)):=by
 refine DS.str (ja (W1 h) hz) fun c hc=>?_
 have e:(Str.ofString (toString i)).cps.toList=(toString i).toList.map Char.toNat:=by rw[Str.ofString_eq_toList]
 have hc':c∈(Str.ofString (toString i)).cps.toList:=hc
 rw[e] at hc'
 obtain⟨ch,h1,rfl⟩:=qB.mp hc'
 have:=int_ascii i ch h1
 omega
theorem zdD(xs:List V)(b:Nat):(jB xs none (some (b:Int))).length<=b:=by
 unfold jB
 rw[HT.sIx_nat,HT.sIx_none]
 rw[qR]
 omega
theorem zdC(xs:List V)(a:Nat):(jB xs (some (a:Int)) none).length<=xs.length-a:=by
 unfold jB
 rw[HT.sIx_nat,HT.sIx_none]
 rw[qR,yW]
 omega
theorem zfG(xs:List V)(a b:Nat):(jB xs (some (a:Int)) (some (b:Int))).length<=b-a/\(jB xs (some (a:Int)) (some (b:Int))).length<=xs.length-a:=by
 unfold jB
 rw[HT.sIx_nat,HT.sIx_nat]
 rw[qR,yW]
 omega
structure Ex(H:Hp)(b:Addr)(ex:List Addr):Prop where
 mem:b∈ex
 al:∀e∈ex,∃o,H e=some o
theorem Ex.next{H H':Hp}{b:Addr}{ex:List Addr}{m:Int}(h:Ex H b ex)(s:SameB b H H')(B:BoxAt H' b m):Ex H' b ex:=⟨h.mem,fun e he=>by
 by_cases z:e=b
 ·rw[z];exact B.some
 ·obtain⟨o,q⟩:=h.al e he
  exact⟨o,s e o q z⟩⟩
theorem Ex.same{H H':Hp}{b:Addr}{ex:List Addr}(h:Ex H b ex)(s:Same H H'):Ex H' b ex:=⟨h.mem,fun e he=>let ⟨o,q⟩:=h.al e he;⟨o,s e o q⟩⟩
theorem Ex.out{H:Hp}{b p:Addr}{ex:List Addr}(h:Ex H b ex)(hp:H p=none):p∉ex:=fun z=>by
 obtain⟨o,q⟩:=h.al p z
 rw[hp] at q;cases q
theorem Ex.cons{H:Hp}{b m:Addr}{o:HO}{ex:List Addr}(h:Ex H b ex)(hm:H m=some o):Ex H b (m::ex):=⟨jv _ h.mem,fun e he=>(zZ.mp he).elim (fun z=>⟨o,by rw[z];exact hm⟩) (h.al e)⟩
theorem Ex.put{H:Hp}{b m:Addr}{o:HO}{ex:List Addr}(h:Ex H b ex):Ex (upd H m o) b ex:=⟨h.mem,fun e he=>by
 by_cases z:e=m
 ·rw[z];exact⟨o,zb⟩
 ·rw[zi z];exact h.al e he⟩
theorem WX.draw{ex:List Addr}{H H':Hp}{b:Addr}(h:b∈ex)(s:SameB b H H'):Same (WX ex H) (WX ex H'):=fun c u e=>by
 unfold WX at e ⊢
 split at e
 ·cases e
 ·rename_i hc
  rw[zx hc]
  exact s c u e (fun z=>hc (by rw[z];exact h))
theorem zgH{n:Nat}{i:Int}(h:0<=i)(h':i<n):ixN n i=some i.toNat:=by
 unfold ixN
 rw[zH h,zH h']
theorem DS.split2{F:Hp}{k z D:Nat}{v:V}(h:DS K F k z D v):v=.non\/(∃c,v=.bl c)\/(∃i:Int,v=.int i/\i.natAbs<=10000000000+k)\/(∃x:Str,v=.str x)\/∃(a:Addr) (t:Bool) (xs:List V) (ds:List Dat),v=.ref a/\SqQ K F t a xs/\Reps K F ds xs/\Dat.gds k ds=true/\Dat.blks ds<=z/\PyData.depthAll (Dat.pys ds)+1<=D:=by
 obtain⟨d,r,g,b,p⟩:=h
 cases d with
 | non=>exact .inl r
 | bl c=>exact .inr (.inl ⟨c,r⟩)
 | int i=>exact .inr (.inr (.inl ⟨i,r,qZ g⟩))
 | str x=>exact .inr (.inr (.inr (.inl ⟨x,r⟩)))
 | lst ds=>
  obtain⟨a,xs,e,q,rs⟩:=r
  exact .inr (.inr (.inr (.inr ⟨a,false,xs,ds,e,q,rs,g,b,p⟩)))
 | tup ds=>
  obtain⟨a,xs,e,q,rs⟩:=r
  exact .inr (.inr (.inr (.inr ⟨a,true,xs,ds,e,q,rs,g,b,p⟩)))
theorem zaO{k:Nat}:∀{ds:List Dat} {i:Nat} {d:Dat},Dat.gds k ds=true->d.gd k=true->Dat.gds k (ds.set i d)=true
 | [],_,_,h,_=>h
 | a::ds,0,d,h,h'=>by
  have e:(a.gd k&&Dat.gds k ds)=true:=h
  rw[jG] at e
  show(d.gd k&&Dat.gds k ds)=true
  rw[h',e.2];rfl
 | a::ds,i+1,d,h,h'=>by
  have e:(a.gd k&&Dat.gds k ds)=true:=h
  rw[jG] at e
  show(a.gd k&&Dat.gds k (ds.set i d))=true
  rw[e.1,zaO e.2 h'];rfl
theorem Wo:∀{ds:List Dat} {i:Nat} {d:Dat},Dat.blks (ds.set i d)<=Dat.blks ds+d.blk
 | [],_,_=>qe _
 | a::ds,0,d=>by
  show d.blk+1+Dat.blks ds<=a.blk+1+Dat.blks ds+d.blk
  omega
 | a::ds,i+1,d=>by
  show a.blk+1+Dat.blks (ds.set i d)<=a.blk+1+Dat.blks ds+d.blk
  have:=Wo (ds:=ds) (i:=i) (d:=d)
  omega
theorem Wf:∀{ds:List Dat} {i:Nat} {d:Dat},PyData.depthAll (Dat.pys (ds.set i d))<=max (PyData.depthAll (Dat.pys ds)) d.py.depth
 | [],_,_=>qe _
 | a::ds,0,d=>Nat.max_le.mpr ⟨X2 _ _,ja (X2 _ _) (XY _ _)⟩
 | a::ds,i+1,d=>Nat.max_le.mpr ⟨ja (XY _ _) (XY _ _),ja (Wf (ds:=ds) (i:=i) (d:=d)) (Nat.max_le.mpr ⟨ja (X2 _ _) (XY _ _),X2 _ _⟩)⟩
theorem Reps.set{H:Hp}:∀{ds:List Dat} {xs:List V} {i:Nat} {d:Dat} {v:V},Reps K H ds xs->Rep K H d v->Reps K H (ds.set i d) (xs.set i v)
 | [],_,_,_,_,h,_=>by rw[show _=_ from h];exact rfl
 | a::ds,_,0,d,v,h,h'=>by
  obtain⟨x,r,e,_,h2⟩:=h
  subst e
  exact⟨v,r,rfl,h',h2⟩
 | a::ds,_,i+1,d,v,h,h'=>by
  obtain⟨x,r,e,h1,h2⟩:=h
  subst e
  exact⟨x,r.set i v,rfl,h1,Reps.set h2 h'⟩
theorem QO:∀a b:List Dat,Dat.blks (a++b)=Dat.blks a+Dat.blks b
 | [],b=>by show Dat.blks b=0+Dat.blks b;omega
 | d::a,b=>by
  have:=QO a b
  show d.blk+1+Dat.blks (a++b)=d.blk+1+Dat.blks a+Dat.blks b
  omega
theorem zaP{k:Nat}:∀{a b:List Dat},Dat.gds k a=true->Dat.gds k b=true->Dat.gds k (a++b)=true
 | [],_,_,h=>h
 | d::a,b,h,h'=>by
  have e:(d.gd k&&Dat.gds k a)=true:=h
  rw[jG] at e
  show(d.gd k&&Dat.gds k (a++b))=true
  rw[e.1,zaP e.2 h'];rfl
theorem JQ{k:Nat}:∀{a b:List Dat},Dat.gds k (a++b)=true->Dat.gds k a=true/\Dat.gds k b=true
 | [],_,h=>⟨rfl,h⟩
 | d::a,b,h=>by
  have e:(d.gd k&&Dat.gds k (a++b))=true:=h
  rw[jG] at e
  obtain⟨h1,h2⟩:=JQ e.2
  refine⟨?_,h2⟩
  show(d.gd k&&Dat.gds k a)=true
  rw[e.1,h1];rfl
theorem QJ:∀a b:List Dat,PyData.depthAll (Dat.pys (a++b))=max (PyData.depthAll (Dat.pys a)) (PyData.depthAll (Dat.pys b))
 | [],b=>by show PyData.depthAll (Dat.pys b)=max 0 (PyData.depthAll (Dat.pys b));omega
 | d::a,b=>by
  have:=QJ a b
  show max d.py.depth (PyData.depthAll (Dat.pys (a++b)))=max (max d.py.depth (PyData.depthAll (Dat.pys a))) (PyData.depthAll (Dat.pys b))
  omega
def GL(K:PySem.W.Frag)(F:Hp)(k z D:Nat)(xs:List V):Prop:=∃ds,Reps K F ds xs/\Dat.gds k ds=true/\Dat.blks ds<=z/\PyData.depthAll (Dat.pys ds)<=D
theorem GL.up{F F':Hp}{k z D k' z' D':Nat}{xs:List V}(h:GL K F k z D xs)(s:Same F F')(h1:k<=k')(h2:z<=z')(h3:D<=D'):GL K F' k' z' D' xs:=let ⟨ds,r,g,b,p⟩:=h;⟨ds,r.same s,Dat.gds_up h1 g,ja b h2,ja p h3⟩
theorem Reps.parts{H:Hp}:∀{ds:List Dat} {xs ys:List V},Reps K H ds (xs++ys)->∃d1 d2,ds=d1++d2/\Reps K H d1 xs/\Reps K H d2 ys
 | ds,[],ys,h=>⟨[],ds,rfl,rfl,h⟩
 | [],x::xs,ys,h=>by cases(show x::(xs++ys)=[] from h)
 | d::ds,x::xs,ys,h=>by
  obtain⟨v,r,e,h1,h2⟩:=h
  cases e
  obtain⟨d1,d2,rfl,r1,r2⟩:=Reps.parts (xs:=xs) (ys:=ys) h2
  exact⟨d::d1,d2,rfl,⟨_,_,rfl,h1,r1⟩,r2⟩
theorem GL.parts{F:Hp}{k z D:Nat}{xs ys:List V}(h:GL K F k z D (xs++ys)):∃z1 z2,z1+z2=z/\GL K F k z1 D xs/\GL K F k z2 D ys:=by
 obtain⟨ds,r,g,b,p⟩:=h
 obtain⟨d1,d2,rfl,r1,r2⟩:=Reps.parts r
 obtain⟨g1,g2⟩:=JQ g
 rw[QO] at b
 rw[QJ] at p
 exact⟨Dat.blks d1,z-Dat.blks d1,by omega,⟨d1,r1,g1,zJ _,by omega⟩,⟨d2,r2,g2,by omega,by omega⟩⟩
theorem GL.app{F:Hp}{k z1 z2 D:Nat}{xs ys:List V}(h:GL K F k z1 D xs)(h':GL K F k z2 D ys):GL K F k (z1+z2) D (xs++ys):=by
 obtain⟨d1,r1,g1,b1,p1⟩:=h
 obtain⟨d2,r2,g2,b2,p2⟩:=h'
 exact⟨d1++d2,Reps.app r1 r2,zaP g1 g2,by rw[QO];omega,by rw[QJ];omega⟩
theorem GL.one{F:Hp}{k z D:Nat}{v:V}(h:DS K F k z D v):GL K F k (z+1) D [v]:=by
 obtain⟨d,r,g,b,p⟩:=h
 refine⟨[d],⟨v,[],rfl,r,rfl⟩,?_,?_,?_⟩
 ·show(d.gd k&&true)=true
  rw[g];rfl
 ·show d.blk+1+0<=_
  omega
 ·show max d.py.depth 0<=D
  omega
theorem GL.nil{F:Hp}{k z D:Nat}:GL K F k z D []:=⟨[],rfl,rfl,qe _,qe _⟩
theorem GL.take{F:Hp}{k z D:Nat}{xs:List V}(n:Nat)(h:GL K F k z D xs):GL K F k z D (xs.take n):=by
 rw[<- Yq n xs] at h
 obtain⟨z1,z2,e,h1,_⟩:=h.parts
 exact h1.up (Same.refl _) (zJ _) (by omega) (zJ _)
theorem GL.drop{F:Hp}{k z D:Nat}{xs:List V}(n:Nat)(h:GL K F k z D xs):GL K F k z D (xs.drop n):=by
 rw[<- Yq n xs] at h
 obtain⟨z1,z2,e,_,h2⟩:=h.parts
 exact h2.up (Same.refl _) (zJ _) (by omega) (zJ _)
theorem GL.cut{F:Hp}{k z D:Nat}{xs:List V}(lo hi:Option Int)(h:GL K F k z D xs):GL K F k z D (jB xs lo hi):=by
 unfold jB
 first| exact(h.drop _).take _ | exact(h.take _).drop _
theorem GL.lst{F:Hp}{k z D:Nat}{a:Addr}{xs:List V}(q:SqL K F a xs)(h:GL K F k z D xs):DS K F k z (D+1) (.ref a):=by
 obtain⟨ds,r,g,b,p⟩:=h
 refine⟨.lst ds,⟨a,xs,rfl,q,r⟩,g,b,?_⟩
 show PyData.depth (.list (Dat.pys ds))<=_
 simp only[PyData.depth]
 omega
theorem GL.tup{F:Hp}{k z D:Nat}{a:Addr}{xs:List V}(q:SqT K F a xs)(h:GL K F k z D xs):DS K F k z (D+1) (.ref a):=by
 obtain⟨ds,r,g,b,p⟩:=h
 refine⟨.tup ds,⟨a,xs,rfl,q,r⟩,g,b,?_⟩
 show PyData.depth (.tuple (Dat.pys ds))<=_
 simp only[PyData.depth]
 omega
theorem GL.all{F:Hp}{k z D:Nat}{xs:List V}(h:GL K F k z D xs):xs.length<=z/\∀x∈xs,DS K F k z D x:=by
 obtain⟨ds,r,g,b,p⟩:=h
 obtain⟨l,al⟩:=zbX r g b p
 exact⟨l,fun x hx=>(al x hx).up (Same.refl _) (zJ _) (by omega) (zJ _)⟩
theorem GL.some{F:Hp}{k z D:Nat}{xs zs:List V}(h:GL K F k z D xs)(m:∀y∈zs,y∈xs):GL K F k ((z+1)*zs.length) D zs:=yB fun y hy=>h.all.2 y (m y hy)
theorem GL.rev{F:Hp}{k z D:Nat}:∀{xs:List V},GL K F k z D xs->GL K F k z D xs.reverse:=by
 intro xs
 induction xs generalizing z with
 | nil=>exact id
 | cons x xs ih=>
  intro h
  obtain⟨z1,z2,e,h1,h2⟩:=GL.parts (xs:=[x]) (ys:=xs) h
  rw[List.reverse_cons]
  exact((ih h2).app h1).up (Same.refl _) (zJ _) (by omega) (zJ _)
def Zn:Dat->Bool
 | .int _=>true
 | _=>false
def wu:Dat->Bool
 | .bl _=>true
 | _=>false
theorem zdY(d:Dat):jM d.tyN "int" = (Zn d||wu d):=by
 cases d with
 | non=>exact(by decide:jM "NoneType" "int" = false)
 | bl _=>exact(by decide:jM "bool" "int" = true)
 | int _=>exact(by decide:jM "int" "int" = true)
 | str _=>exact(by decide:jM "str" "int" = false)
 | lst _=>exact(by decide:jM "list" "int" = false)
 | tup _=>exact(by decide:jM "tuple" "int" = false)
theorem Qh(d:Dat):jM d.tyN "bool" = wu d:=by
 cases d with
 | non=>exact(by decide:jM "NoneType" "bool" = false)
 | bl _=>exact(by decide:jM "bool" "bool" = true)
 | int _=>exact(by decide:jM "int" "bool" = false)
 | str _=>exact(by decide:jM "str" "bool" = false)
 | lst _=>exact(by decide:jM "list" "bool" = false)
 | tup _=>exact(by decide:jM "tuple" "bool" = false)
theorem zgz(d:Dat):(if(Zn d||wu d)=true then !wu d else(Zn d||wu d))=Zn d:=by cases d<;>rfl
theorem xV:[V.ty "list",V.ty "tuple"].length<=sizeLine:=by rw[sizeLine_eq];exact(by decide:2<=16777216)
inductive Y2(K:PySem.W.Frag)(vs:List V)(H:Hp)(Q:VK):Prop
 | mk (v:V) (d:Dat) (_:vs=[v]) (_:Rep K H d v) (_:Q (.bl (Zn d)) H):Y2 K vs H Q
def ze8(K:PySem.W.Frag):Sp:=fun vs H Q _=>Y2 K vs H Q
theorem zhl:zF ["_law_thing"] ["_law_thing"] (zt (topL 46)):=⟨rfl,rfl,rfl,by decide +kernel,rfl,by decide +kernel,by decide +kernel⟩
theorem zhB{f:Addr}{fd:FuncData}(F:Fun K "_law_is_number" "_law_is_number" (topL 46) f fd)(B:Blt mg):qH P w K mg base CX0 1 f fd ["_law_thing"] (ze8 K):=by
 have nd:=zhl.nd
 refine F.ok zhl (fun vs H Q E h=>?_) (fun cdv A outer s H vs Q E hr h=>?_)
 ·obtain⟨v,d,rfl,_⟩:=h
  rfl
 ·obtain⟨v,d,rfl,rd,k⟩:=h
  refine⟨_,(zo (zE (vB (zp qO rfl B.isinstance boot_isinstance (za (pv 0) (za (qu (v:=.ty "int") rfl B.int vL rfl) ze))) (x9 (zgd (zp qO rfl B.isinstance boot_isinstance (za (pv 0) (za (qu (v:=.ty "bool") rfl B.bool vM rfl) ze)))))))),?_⟩
  refine⟨_,rfl,v,d.tyN, "int",rfl,rd.ty,(by decide),?_⟩
  rw[zdY]
  rw[<- zgz d] at k
  refine⟨_,rfl,jA (fun c=>?_) (fun c=>?_)⟩
  ·rw[zH c] at k
   refine⟨_,rfl,v,d.tyN, "bool",rfl,rd.ty,(by decide),?_⟩
   rw[Qh]
   exact⟨_,rfl,k⟩
  ·rw[zx c,(Zw _).mp c] at k
   exact k
theorem zfS{x:Str}{k z D:Nat}{F:Hp}(h:decide (x.length<=6)=true)(hc:(x.cps.toList.all fun c=>decide (c<1000000))=true)(hz:6<=z):DS K F k z D (.str x):=DS.str (ja (qZ h) hz) fun c h'=>qZ (xF.mp hc c h')
inductive YZ(K:PySem.W.Frag)(vs:List V)(H:Hp)(Q:VK):Prop
 | mk (b:Addr) (n:Int) (ex:List Addr) (_:vs=[.ref b]) (_:BoxAt H b n) (_:n<1099511627000) (_:Ex H b ex) (_:∀v H',SameB b H H'->BoxAt H' b (n+1)->DS K (WX ex H') 0 10 3 v->Q v H'):YZ K vs H Q
def Y0(K:PySem.W.Frag):Sp:=fun vs H Q _=>YZ K vs H Q
theorem zfl:zF ["_law_box_here", "_law_some"] ["_law_box_here"] (zt (topL 47)):=⟨rfl,rfl,rfl,by decide +kernel,rfl,by decide +kernel,by decide +kernel⟩
theorem zgo{f:Addr}{fd:FuncData}(F:Fun K "_law_odd" "_law_odd" (topL 47) f fd)(B:Blt mg)(D_take:Dfn P w K mg base "_law_take" 1 ["_law_box_here", "_law_size"] jW):qH P w K mg base CX0 2 f fd ["_law_box_here"] (Y0 K):=by
 have nd:=zfl.nd
 refine F.ok zfl (fun vs H Q E h=>?_) (fun cdv A outer s H vs Q E hr h=>?_)
 ·obtain⟨b,n,ex,rfl,_⟩:=h
  rfl
 ·obtain⟨b,n,ex,rfl,B0,hn,E0,k⟩:=h
  refine⟨_,(zg (zC (i:=1) nd rfl (Or.inl rfl) (zN (zim Xq yI yI zf (zcT Wt zf) zf (zA zcX zf zf) zP zP zP (zY ze) (zN ze) (zY (za zf ze)) (zN (za zf ze)) (zY (za zf (za zf ze))) (zN (za (zN ze) ze)) (zY (za zP (za zf ze))))))
   (zo (zE (zu zS (pv 1) (zk D_take (hr.mono (by decide)) rfl (za (pv 0) (za zf ze))) (fun _ _=>rfl))))),?_⟩
  refine⟨_,rfl,_,_,rfl,rfl,⟨by decide,by decide,by decide⟩,le0,fun p1 h1=>⟨le0,fun p2 h2=>⟨le1,fun p3 h3=>⟨le1,fun p4 h4=>⟨le2,fun p5 h5=>⟨le0,fun p6 h6=>⟨le1,fun p7 h7=>⟨le2,fun p8 h8=>⟨leN (by show 17<=1000;decide),fun l hl=>?_⟩⟩⟩⟩⟩⟩⟩⟩⟩
  have s1:=zd (o:=.tup []) h1
  have s2:=zd (o:=.lst []) h2
  have s3:=zd (o:=.tup [.int 0]) h3
  have s4:=zd (o:=.lst [.int 0]) h4
  have s5:=zd (o:=.tup [.int 0,.int 1]) h5
  have s6:=zd (o:=.lst []) h6
  have s7:=zd (o:=.lst [.ref p6]) h7
  have s8:=zd (o:=.tup [.str "laid",.int 0]) h8
  have E1:=E0.same s1
  have E2:=E1.same s2
  have E3:=E2.same s3
  have E4:=E3.same s4
  have E5:=E4.same s5
  have E6:=E5.same s6
  have E7:=E6.same s7
  have E8:=E7.same s8
  have sl:=zd (o:=.lst [.non,.bl true,.bl false,.int 0,.int (-1),.int 1,.int (10^(9:Int).toNat),.str "",.str "a",.str "0",.ref p1,.ref p2,.ref p3,.ref p4,.ref p5,.ref p7,.ref p8]) hl
  have f1:=(s2.trans (s3.trans (s4.trans (s5.trans (s6.trans (s7.trans (s8.trans sl))))))) p1 _ zb
  have f2:=(s3.trans (s4.trans (s5.trans (s6.trans (s7.trans (s8.trans sl)))))) p2 _ zb
  have f3:=(s4.trans (s5.trans (s6.trans (s7.trans (s8.trans sl))))) p3 _ zb
  have f4:=(s5.trans (s6.trans (s7.trans (s8.trans sl)))) p4 _ zb
  have f5:=(s6.trans (s7.trans (s8.trans sl))) p5 _ zb
  have f6:=(s7.trans (s8.trans sl)) p6 _ zb
  have f7:=(s8.trans sl) p7 _ zb
  have f8:=sl p8 _ zb
  have st:=s1.trans (s2.trans (s3.trans (s4.trans (s5.trans (s6.trans (s7.trans (s8.trans sl)))))))
  have n1:=E0.out h1
  have n2:=E1.out h2
  have n3:=E2.out h3
  have n4:=E3.out h4
  have n5:=E4.out h5
  have n6:=E5.out h6
  have n7:=E6.out h7
  have n8:=E7.out h8
  have nl:=E8.out hl
  have B8:=B0.same st
  have fl:=zb (H:=upd (upd (upd (upd (upd (upd (upd (upd H p1 (.tup [])) p2 (.lst [])) p3 (.tup [.int 0])) p4 (.lst [.int 0])) p5 (.tup [.int 0,.int 1])) p6 (.lst [])) p7 (.lst [.ref p6])) p8 (.tup [.str "laid",.int 0])) (a:=l) (o:=.lst [.non,.bl true,.bl false,.int 0,.int (-1),.int 1,.int (10^(9:Int).toNat),.str "",.str "a",.str "0",.ref p1,.ref p2,.ref p3,.ref p4,.ref p5,.ref p7,.ref p8])
  clear s1 s2 s3 s4 s5 s6 s7 s8 E1 E2 E3 E4 E5 E6 E7 E8 sl h1 h2 h3 h4 h5 h6 h7 h8 hl B0
  refine⟨_,rfl,_,rfl,b,17,n,rfl,B8,by omega,by decide,by decide,fun r H1 r0 r1 B1 S1=>?_⟩
  have up:∀p o,p∉ex->_=some o->WX ex H1 p=some o:=fun p o hp e=>WX.at hp (S1 p o e (fun z=>hp (by rw[z];exact E0.mem)))
  have g1:=up p1 _ n1 f1
  have g2:=up p2 _ n2 f2
  have g3:=up p3 _ n3 f3
  have g4:=up p4 _ n4 f4
  have g5:=up p5 _ n5 f5
  have g6:=up p6 _ n6 f6
  have g7:=up p7 _ n7 f7
  have g8:=up p8 _ n8 f8
  have gl:=S1 l _ fl (fun z=>nl (by rw[z];exact E0.mem))
  have all:∀x∈[V.non,.bl true,.bl false,.int 0,.int (-1),.int 1,.int (10^(9:Int).toNat),.str "",.str "a",.str "0",.ref p1,.ref p2,.ref p3,.ref p4,.ref p5,.ref p7,.ref p8],DS K (WX ex H1) 0 10 3 x:=by
   have i0:∀i:Int,i.natAbs<=10000000000->∀D,DS K (WX ex H1) 0 2 D (.int i):=fun i h D=>DS.int (by omega)
   have t6:DS K (WX ex H1) 0 2 1 (.ref p6):=DS.lst (z:=0) (D:=0) (SqL.of g6) fm0 (qe _)
   refine fm DS.non (fm (DS.bl _) (fm (DS.bl _) (fm (DS.int (by decide)) (fm (DS.int (by decide)) (fm (DS.int (by decide)) (fm (DS.int (by decide)) (fm (zfS (by decide) (by decide) (by decide)) (fm (zfS (by decide) (by decide) (by decide)) (fm (zfS (by decide) (by decide) (by decide)) ?_)))))))))
   refine fm ((DS.tup (k:=0) (z:=0) (D:=0) (z':=0) (SqT.of g1) fm0 (qe _)).up (Same.refl _) (by decide) (by decide) (by decide)) (fm ((DS.lst (k:=0) (z:=0) (D:=0) (z':=0) (SqL.of g2) fm0 (qe _)).up (Same.refl _) (by decide) (by decide) (by decide)) (fm (DS.tup (z:=2) (D:=2) (SqT.of g3) (fm (i0 0 (by decide) 2) fm0) (by decide)) (fm (DS.lst (z:=2) (D:=2) (SqL.of g4) (fm (i0 0 (by decide) 2) fm0) (by decide)) (fm (DS.tup (z:=2) (D:=2) (SqT.of g5) (fm (i0 0 (by decide) 2) (fm (i0 1 (by decide) 2) fm0)) (by decide)) (fm (DS.lst (z:=2) (D:=2) (SqL.of g7) (fm (t6.up (Same.refl _) (by decide) (by decide) (by decide)) fm0) (by show 3*1<=10;decide)) (fm ?_ fm0))))))
   refine DS.tup (z:=4) (D:=2) (SqT.of g8) (fm (DS.str (by decide) (fun c hc=>qZ (xF.mp (by decide:(("laid" : Str).cps.toList.all fun c=>decide (c<1000000))=true) c hc))) (fm (DS.int (by decide)) fm0)) (by decide)
  obtain⟨v,ev,dv⟩:=zfA (α:=fun x=>DS K (WX ex H1) 0 10 3 x) gl r0 r1 all
  exact⟨l,_,_,v,rfl,rfl,SqL.of gl,ev,k v H1 ((SameB.of st).trans S1) B1 dv⟩
theorem VJ{K:PySem.W.Frag}{H:Hp}{d:Dat}{a:Addr}(r:Rep K H d (.ref a)):Zn d=false:=by
 cases d with
 | int i=>cases(show V.ref a=V.int i from r)
 | _=>rfl
inductive JB(K:PySem.W.Frag)(vs:List V)(H:Hp)(Q:VK):Prop
 | mk (b a:Addr) (t:Bool) (xs:List V) (n:Int) (k z D:Nat) (ex:List Addr) (_:vs=[.ref b,.ref a]) (_:BoxAt H b n) (_:n<1099511000000) (_:Ex H b ex) (_:SqQ K (WX ex H) t a xs) (_:GL K (WX ex H) k z D xs) (_:z<=100000) (_:3<=D) (_:∀v H',SameB b H H'->BoxAt H' b (n+3)->DS K (WX ex H') k (4*z+20) (D+1) v->Q v H'):JB K vs H Q
def Y1(K:PySem.W.Frag):Sp:=fun vs H Q _=>JB K vs H Q
theorem zal:zF ["_law_box_here", "_law_thing", "_law_draw", "_law_at", "_law_some"] ["_law_box_here", "_law_thing"] (zt (topL 48)):=⟨rfl,rfl,rfl,by decide +kernel,rfl,by decide +kernel,by decide +kernel⟩
def zbm(b:_)(a:_)(way:_)(q:_)(H:_)(n:_)(ex:_)(K:_)(k':_)(z:_)(D:_):=fun(σ':St) (H':Hp)=>(Ex2 fun(p:Addr) (ys:List V)=>An6 (σ'=[some (.ref b),some (.ref a),some (.int way),some (.int q),some (.ref p)]) (SameB b H H') (BoxAt H' b (n+3)) (p∉ex) (H' p=some (.lst ys)) (GL K (WX ex H') k' (4*z+20) D ys):Prop)
theorem zc5{f:Addr}{fd:FuncData}(F:Fun K "_law_other_row" "_law_other_row" (topL 48) f fd)(B:Blt mg)(D_take:Dfn P w K mg base "_law_take" 1 ["_law_box_here", "_law_size"] jW)(D_odd:Dfn P w K mg base "_law_odd" 2 ["_law_box_here"] (Y0 K)):qH P w K mg base CX0 3 f fd ["_law_box_here", "_law_thing"] (Y1 K):=by
 have nd:=zal.nd
 refine F.ok zal (fun vs H Q E h=>?_) (fun cdv A outer s H vs Q E hr h=>?_)
 ·obtain⟨b,a,t,xs,n,k,z,D,ex,rfl,_⟩:=h
  rfl
 ·obtain⟨b,a,t,xs,n,k',z,D,ex,rfl,B0,hn,E0,hq,gl0,hz1,hD,k⟩:=h
  have hxl:=gl0.all.1
  have hbig:1000000<sizeLine:=by rw[sizeLine_eq];decide
  have e62:(2:Int)^62=4611686018427387904:=by decide
  have sq:∀H',SameB b H H'->SqQ K H' t a xs:=fun H' s=>hq.same ((WX.draw E0.mem s).trans WX.le)
  have old:∀H',SameB b H H'->GL K (WX ex H') k' z D xs:=fun H' s=>gl0.up (WX.draw E0.mem s) (zJ _) (zJ _) (zJ _)
  have grow:∀{F:Hp} {m:Nat} {ys:List V},GL K F k' m D ys->m<=4*z+20->GL K F k' (4*z+20) D ys:=fun h l=>h.up (Same.refl _) (zJ _) l (zJ _)
  refine⟨_,(zg (Qo (i:=2) (j:=3) rfl nd rfl rfl (by decide) rfl rfl (za (zk D_take (hr.mono (by decide)) rfl (za (pv 0) (za zf ze))) (za (zk D_take (hr.mono (by decide)) rfl (za (pv 0) (za (zA qw (zp zL rfl B.len boot_len (za (pv 1) ze)) zf) ze))) ze)) (by rfl))
   (zg (zC (i:=4) nd rfl (Or.inl rfl) (qA vV rfl B.list qG (za (pv 1) ze)))
   (zg (xJ (je (zO jt (pv 2) zf (zQ _))
   (zo (zC (i:=4) nd rfl (Or.inl rfl) (zA jO (jK j5 (pv 4) xK (jz (pv 3))) (jK j5 (pv 4) (jz (zA qw (pv 3) zf)) xK))))
   (zo (je (zO jt (pv 2) zf (zQ _))
    (zo (zC (i:=4) nd rfl (Or.inl rfl) (zA jO (zA jO (jK j5 (pv 4) xK (jz (pv 3))) (jK j5 (pv 4) (jz (pv 3)) (jz (zA qw (pv 3) zf)))) (jK j5 (pv 4) (jz (pv 3)) xK))))
    (zo (je (zO jt (pv 2) zf (zQ _))
     (zo (z7 (jm jh PySem.F.slot_list_insert PySem.F.type_list_insert JL (pv 4) (za (pv 3) (za (zk D_odd (hr.mono (by decide)) rfl (za (pv 0) ze)) ze)))))
     (zo (je (zO jt (pv 2) zf (zQ _))
      (zo (zC (i:=4) nd rfl (Or.inl rfl) (zA jO (zA jO (jK j5 (pv 4) xK (jz (pv 3))) (zby (jK j5 (pv 4) (jz (pv 3)) (jz (zA qw (pv 3) zf))) (jz (zcT Wt zf)))) (jK j5 (pv 4) (jz (zA qw (pv 3) zf)) xK))))
      (zo (je (zO jt (pv 2) zf (zQ _))
       (zo (z7 (zgg jh PySem.F.slot_list_reverse PySem.F.type_list_reverse WR (pv 4))))
       (zo (zE (jX (jD (zp qO rfl B.isinstance boot_isinstance (za (pv 1) (za (qu (v:=.ty "list") rfl B.list qG rfl) ze)))) (qA jg rfl B.tuple qP (za (pv 1) ze)) (pv 4))))))))))))))
   (zo (zE (jX (jD (zp qO rfl B.isinstance boot_isinstance (za (pv 1) (za (qu (v:=.ty "list") rfl B.list qG rfl) ze)))) (pv 4) (qA jg rfl B.tuple qP (za (pv 4) ze)))))))),?_⟩
  refine⟨_,rfl,b,6,n,rfl,B0,by omega,by decide,by decide,fun way H1 w0 w1 B1 S1=>⟨_,rfl,_,rfl,a,xs,rfl,(sq _ S1).or,_,_,rfl,rfl,b,_,n+1,rfl,B1,by omega,by omega,by omega,fun q H2 q0 q1 B2 S2=>⟨_,_,rfl,?_⟩⟩⟩
  have S2':=S1.trans S2
  obtain⟨q,rfl⟩:∃q':Nat,q=(q':Int):=⟨q.toNat,by omega⟩
  refine⟨_,rfl,a,xs,rfl,(sq _ S2').or,fun m hm=>?_⟩
  have E2:=E0.next S2' B2
  have mH:H m=none:=S2'.none hm (B2.nne hm)
  have mb:=B2.nne hm
  have mx:=E2.out hm
  have S3:=S2'.new (o:=.lst xs) hm
  have B3:=B2.new (o:=.lst xs) hm
  have E3:=E2.same (zd (o:=.lst xs) hm)
  have f3:upd H2 m (.lst xs) m=some (.lst xs):=zb
  generalize upd H2 m (.lst xs)=H3 at S3 B3 E3 f3
  clear S1 S2 B1 B2 E2 hm
  refine⟨zbm b a way q H n ex K k' z D,?_,?_⟩
  ·have mem:∀{lo hi:Option Int} {y:V},y∈jB xs lo hi->y∈xs:=fun h=>Wh h
   refine⟨_,rfl,rfl,_,rfl,jA (fun c0=>?_) (fun c0=>⟨_,rfl,rfl,_,rfl,jA (fun c1=>?_) (fun c1=>⟨_,rfl,rfl,_,rfl,jA (fun c2=>?_) (fun c2=>⟨_,rfl,rfl,_,rfl,jA (fun c3=>?_) (fun c3=>⟨_,rfl,rfl,_,rfl,jA (fun c4=>?_) (fun c4=>?_)⟩)⟩)⟩)⟩)⟩
   ·refine⟨_,rfl,_,rfl,_,rfl,m,xs,rfl,SqL.of f3,fun p1 h1=>?_⟩
    refine⟨_,rfl,_,rfl,_,_,rfl,rfl,_,rfl,m,xs,rfl,SqL.of ((zd h1) _ _ f3),fun p2 h2=>?_⟩
    have l1:=zdD xs q
    have l2:(jB xs (some ((q:Int)+1)) none).length<=xs.length-(q+1):=zdC xs (q+1)
    refine⟨p1,p2,_,_,rfl,rfl,(zd h2) _ _ zb,zb,by omega,fun p3 h3=>?_⟩
    refine⟨p3,_,rfl,((S3.new h1).new h2).new h3,(((B3.new h1).new h2).new h3).mono (by omega),((E3.same (zd h1)).same (zd h2)).out h3,zb,grow (((old _ (((S3.new h1).new h2).new h3)).cut _ _).app ((old _ (((S3.new h1).new h2).new h3)).cut _ _)) (by omega)⟩
   ·refine⟨_,rfl,_,rfl,_,rfl,m,xs,rfl,SqL.of f3,fun p1 h1=>?_⟩
    refine⟨_,rfl,_,rfl,_,rfl,_,rfl,_,_,rfl,rfl,_,rfl,m,xs,rfl,SqL.of ((zd h1) _ _ f3),fun p2 h2=>?_⟩
    have l1:=zdD xs q
    have l2:(jB xs (some (q:Int)) (some ((q:Int)+1))).length<=(q+1)-q:=(zfG xs q (q+1)).1
    have l3:=zdC xs q
    refine⟨p1,p2,_,_,rfl,rfl,(zd h2) _ _ zb,zb,by omega,fun p3 h3=>?_⟩
    refine⟨_,rfl,_,rfl,_,rfl,m,xs,rfl,SqL.of ((((zd h1).trans (zd h2)).trans (zd h3)) _ _ f3),fun p4 h4=>?_⟩
    refine⟨p3,p4,_,_,rfl,rfl,(zd h4) _ _ zb,zb,by rw[zV];omega,fun p5 h5=>?_⟩
    refine⟨p5,_,rfl,((((S3.new h1).new h2).new h3).new h4).new h5,(((((B3.new h1).new h2).new h3).new h4).new h5).mono (by omega),((((E3.same (zd h1)).same (zd h2)).same (zd h3)).same (zd h4)).out h5,zb,grow ((((old _ (((((S3.new h1).new h2).new h3).new h4).new h5)).cut _ _).app ((old _ (((((S3.new h1).new h2).new h3).new h4).new h5)).cut _ _)).app ((old _ (((((S3.new h1).new h2).new h3).new h4).new h5)).cut _ _)) (by omega)⟩
   ·refine⟨_,rfl,.inl ⟨rfl,_,SqL.of f3⟩,_,rfl,_,rfl,b,n+1+1,m::ex,rfl,B3,by omega,E3.cons f3,fun v H4 S4 B4 dv=>?_⟩
    have f4:=S4 m _ f3 mb
    refine⟨m,xs,q,v,rfl,rfl,f4,q0,by rw[e62];omega,by omega,?_⟩
    have S5:=(S3.trans S4).put (o:=.lst (xs.take (q:Int).toNat++v::xs.drop (q:Int).toNat)) mH
    refine⟨m,_,rfl,S5,(B4.other mb).mono (by omega),mx,zb,grow (((old _ S5).take _).app ((GL.one (dv.up ((WX.put j8).trans WX.cons) (qe _) (zJ 10) hD)).app ((old _ S5).drop _))) (by omega)⟩
   ·refine⟨_,rfl,_,rfl,_,rfl,m,xs,rfl,SqL.of f3,fun p1 h1=>?_⟩
    refine⟨_,rfl,_,rfl,_,rfl,_,rfl,_,_,rfl,rfl,_,rfl,m,xs,rfl,SqL.of ((zd h1) _ _ f3),fun p2 h2=>?_⟩
    have l1:=zdD xs q
    have l2:(jB xs (some (q:Int)) (some ((q:Int)+2))).length<=(q+2)-q/\(jB xs (some (q:Int)) (some ((q:Int)+2))).length<=xs.length-q:=zfG xs q (q+2)
    have l3:(jB xs (some ((q:Int)+2)) none).length<=xs.length-(q+2):=zdC xs (q+2)
    refine⟨_,rfl,_,rfl,p2,_,rfl,(by decide),SqL.of zb,fun zs p3 zm zl h3=>?_⟩
    refine⟨p1,p3,_,_,rfl,rfl,((zd h2).trans (zd h3)) _ _ zb,zb,by omega,fun p4 h4=>?_⟩
    refine⟨_,rfl,_,rfl,_,_,rfl,rfl,_,rfl,m,xs,rfl,SqL.of (((((zd h1).trans (zd h2)).trans (zd h3)).trans (zd h4)) _ _ f3),fun p5 h5=>?_⟩
    refine⟨p4,p5,_,_,rfl,rfl,(zd h5) _ _ zb,zb,by rw[zV];omega,fun p6 h6=>?_⟩
    refine⟨p6,_,rfl,(((((S3.new h1).new h2).new h3).new h4).new h5).new h6,((((((B3.new h1).new h2).new h3).new h4).new h5).new h6).mono (by omega),(((((E3.same (zd h1)).same (zd h2)).same (zd h3)).same (zd h4)).same (zd h5)).out h6,zb,grow ((((old _ ((((((S3.new h1).new h2).new h3).new h4).new h5).new h6)).cut _ _).app ((((old _ ((((((S3.new h1).new h2).new h3).new h4).new h5).new h6)).cut _ _).some zm).up (Same.refl _) (zJ _) (show(z+1)*zs.length<=2*z+2 from ja (Nat.mul_le_mul (zJ _) (show zs.length<=2 by omega)) (by omega)) (zJ _))).app ((old _ ((((((S3.new h1).new h2).new h3).new h4).new h5).new h6)).cut _ _)) (by omega)⟩
   ·refine⟨_,rfl,.inl ⟨rfl,_,SqL.of f3⟩,m,xs,rfl,rfl,f3,?_⟩
    have S4:=S3.put (o:=.lst xs.reverse) mH
    exact⟨m,_,rfl,S4,(B3.other mb).mono (by omega),mx,zb,grow (old _ S4).rev (by omega)⟩
   ·refine⟨_,rfl,_,tyQ t, "list",rfl,(sq _ S3).ty,(by decide),_,rfl,jA (fun d=>⟨_,rfl,a,xs,rfl,?_⟩) (fun d=>⟨_,rfl,?_⟩)⟩
    ·cases t with
     | false=>exact .inl ⟨sq _ S3,fun p hp=>k _ _ (S3.new hp) ((B3.new hp).mono (by omega)) (GL.tup (SqT.of (WX.at (E3.out hp) zb)) (grow (old _ (S3.new hp)) (by omega)))⟩
     | true=>exact .inr ⟨sq _ S3,k _ H3 S3 (B3.mono (by omega)) (GL.tup (hq.same (WX.draw E0.mem S3)) (grow (old _ S3) (by omega)))⟩
    ·exact k _ H3 S3 (B3.mono (by omega)) (GL.lst (SqL.of (WX.at mx f3)) (grow (old _ S3) (by omega)))
  ·rintro σ' H4 ⟨p,ys,rfl,S4,B4,px,f4,yd⟩
   refine⟨_,rfl,_,tyQ t, "list",rfl,(sq _ S4).ty,(by decide),_,rfl,jA (fun d=>⟨_,rfl,?_⟩) (fun d=>⟨_,rfl,p,ys,rfl,.inl ⟨SqL.of f4,fun p' hp=>?_⟩⟩)⟩
   ·exact k _ H4 S4 B4 (GL.lst (SqL.of (WX.at px f4)) yd)
   ·have E4:=E0.next S4 B4
    exact k _ _ (S4.new hp) (B4.new hp) (GL.tup (SqT.of (WX.at (E4.out hp) zb)) (yd.up (WX.new hp) (zJ _) (zJ _) (zJ _)))
inductive JD(K:PySem.W.Frag)(vs:List V)(H:Hp)(Q:VK):Prop
 | mk (b:Addr) (v:V) (n:Int) (k z D:Nat) (ex:List Addr) (_:vs=[.ref b,v]) (_:BoxAt H b n) (_:n<1099510900000) (_:Ex H b ex) (_:DS K (WX ex H) k z D v) (_:z<=100000) (_:k<=100) (_:∀v' H',SameB b H H'->BoxAt H' b (n+4)->DS K (WX ex H') (k+1) (4*z+20) (D+4) v'->Q v' H'):JD K vs H Q
def Xi(K:PySem.W.Frag):Sp:=fun vs H Q _=>JD K vs H Q
theorem zan:zF ["_law_box_here", "_law_thing"] ["_law_box_here", "_law_thing"] (zt (topL 55)):=⟨rfl,rfl,rfl,by decide +kernel,rfl,by decide +kernel,by decide +kernel⟩
theorem zc8{f:Addr}{fd:FuncData}(F:Fun K "_law_instead" "_law_instead" (topL 55) f fd)(B:Blt mg)(D_take:Dfn P w K mg base "_law_take" 1 ["_law_box_here", "_law_size"] jW)(D_odd:Dfn P w K mg base "_law_odd" 2 ["_law_box_here"] (Y0 K))(D_other_row:Dfn P w K mg base "_law_other_row" 3 ["_law_box_here", "_law_thing"] (Y1 K))(D_is_number:Dfn P w K mg base "_law_is_number" 1 ["_law_thing"] (ze8 K)):qH P w K mg base CX0 4 f fd ["_law_box_here", "_law_thing"] (Xi K):=by
 have nd:=zan.nd
 refine F.ok zan (fun vs H Q E h=>?_) (fun cdv A outer s H vs Q E hr h=>?_)
 ·obtain⟨b,v,n,k,z,D,ex,rfl,_⟩:=h
  rfl
 ·obtain⟨b,v,n,k',z,D,ex,rfl,B0,hn,E0,dv,hz1,hk,k⟩:=h
  have hbig:1000000<sizeLine:=by rw[sizeLine_eq];decide
  refine⟨_,(zg (je (PW.pt (Xl (jD (zp wQ rfl B.isinstance boot_isinstance (za (pv 1) (za (zY (za (qu (v:=.ty "list") rfl B.list qG rfl) (za (qu (v:=.ty "tuple") rfl B.tuple qP rfl) ze))) ze)))) (Z5 (zO Qt (zk D_take (hr.mono (by decide)) rfl (za (pv 0) (za zf ze))) zf (zQ _)))))
   (zo (zE (zk D_other_row (hr.mono (by decide)) rfl (za (pv 0) (za (pv 1) ze)))))
   qI)
   (zg (je (jD (zk D_is_number (hr.mono (by decide)) rfl (za (pv 1) ze)))
   (zo (zE (zu zS (zN (pa6 (zA qw (pv 1) zf) (zA xz (pv 1) zf) (zA xz zf (pv 1)) (qM jt (pv 1) zf (zQ _)) (qA XM rfl B.str yR (za (pv 1) ze)) (zk D_odd (hr.mono (by decide)) rfl (za (pv 0) ze)))) (zk D_take (hr.mono (by decide)) rfl (za (pv 0) (za zf ze))) (fun _ _=>rfl))))
   qI)
   (zo (zE (zk D_odd (hr.mono (by decide)) rfl (za (pv 0) ze)))))),?_⟩
  have odd:∀H1 (m:Int),SameB b H H1->BoxAt H1 b m->m<=n+1->Y0 K [.ref b] H1 Q E:=fun H1 m S1 B1 hm1=>
   ⟨b,m,ex,rfl,B1,by omega,E0.next S1 B1,fun v' H' S' B' dv'=>k v' H' (S1.trans S') (B'.mono (by omega)) (dv'.up (Same.refl _) (qe _) (by omega) (by omega))⟩
  have S0:=SameB.refl b H
  rcases dv.split2 with rfl | ⟨c,rfl⟩ | ⟨i,rfl,h⟩ | ⟨x,rfl⟩ | ⟨a,t,xs,ds,rfl,hq,rs,gs,bs,psd⟩
  ·refine⟨_,rfl,xV,fun p hp=>⟨_, "NoneType",p,["list", "tuple"],rfl,rfl,zb,(by decide),_,rfl,ifF (by decide) (ifF rfl ?_)⟩⟩
   exact⟨_,rfl,_,.non,rfl,rfl,_,rfl,ifF rfl ⟨_,rfl,odd _ n (S0.new hp) (B0.new hp) (by omega)⟩⟩
  ·refine⟨_,rfl,xV,fun p hp=>⟨_, "bool",p,["list", "tuple"],rfl,rfl,zb,(by decide),_,rfl,ifF (by decide) (ifF rfl ?_)⟩⟩
   exact⟨_,rfl,_,.bl c,rfl,rfl,_,rfl,ifF rfl ⟨_,rfl,odd _ n (S0.new hp) (B0.new hp) (by omega)⟩⟩
  ·refine⟨_,rfl,xV,fun p hp=>⟨_, "int",p,["list", "tuple"],rfl,rfl,zb,(by decide),_,rfl,ifF (by decide) (ifF rfl ?_)⟩⟩
   refine⟨_,rfl,_,.int i,rfl,rfl,_,rfl,ifT rfl ?_⟩
   have hs:i.natAbs<1000000000000:=by omega
   refine⟨_,rfl,_,_,rfl,rfl,_,rfl,_,_,rfl,rfl,_,rfl,_,_,rfl,rfl,_,rfl,rfl,_,rfl,i,rfl,Xx hs,?_⟩
   refine⟨_,rfl,b,n,ex,rfl,B0.new hp,by omega,E0.same (zd hp),fun v' H1 S1 B1 dv1=>⟨leN (by show 6<=1000;decide),fun l hl=>?_⟩⟩
   refine⟨_,rfl,b,6,_,rfl,B1.new hl,by omega,by decide,by decide,fun r H2 r0 r1 B2 S2=>?_⟩
   have nl:=B1.nne hl
   have gl:=S2 l _ zb nl
   have S3:=(((S0.new (o:=.tup [V.ty "list",V.ty "tuple"]) hp).trans S1).new (o:=.lst [.int (i+1),.int (i-1),.int (0-i),.bl (decide (V.int i=V.int 1)),.str (toString i),v']) hl).trans S2
   have w2:=(WX.new (ex:=ex) (H:=H1) (o:=.lst [.int (i+1),.int (i-1),.int (0-i),.bl (decide (V.int i=V.int 1)),.str (toString i),v']) hl).trans (WX.draw E0.mem S2)
   obtain⟨u,eu,du⟩:=zfA (α:=fun x=>DS K (WX ex H2) (k'+1) (4*z+20) (D+4) x) gl r0 r1 (fm (DS.int (by omega)) (fm (DS.int (by omega)) (fm (DS.int (by omega)) (fm (DS.bl _) (fm (DS.istr hs (by omega)) (fm (dv1.up w2 (qe _) (by omega) (by omega)) fm0))))))
   exact⟨l,_,_,u,rfl,rfl,SqL.of gl,eu,k u H2 S3 (B2.mono (by omega)) du⟩
  ·refine⟨_,rfl,xV,fun p hp=>⟨_, "str",p,["list", "tuple"],rfl,rfl,zb,(by decide),_,rfl,ifF (by decide) (ifF rfl ?_)⟩⟩
   exact⟨_,rfl,_,.str x,rfl,rfl,_,rfl,ifF rfl ⟨_,rfl,odd _ n (S0.new hp) (B0.new hp) (by omega)⟩⟩
  ·have sq:∀H',SameB b H H'->SqQ K H' t a xs:=fun H' s=>hq.same ((WX.draw E0.mem s).trans WX.le)
   obtain⟨lx,al⟩:=zbX (z:=z) (D:=D) rs gs bs (by omega)
   have ny:(["list", "tuple"].any fun C=>jM (tyQ t) C)=true:=by cases t<;>decide
   refine⟨_,rfl,xV,fun p hp=>⟨_,tyQ t,p,["list", "tuple"],rfl,(sq _ (S0.new hp)).ty,zb,(by decide),_,rfl,ifT ny ?_⟩⟩
   have S1:=S0.new (o:=.tup [V.ty "list",V.ty "tuple"]) hp
   have B1:=B0.new (o:=.tup [V.ty "list",V.ty "tuple"]) hp
   generalize upd H p (.tup [V.ty "list",V.ty "tuple"])=H1 at S1 B1
   refine⟨_,rfl,b,8,n,rfl,B1,by omega,by decide,by decide,fun r H2 r0 r1 B2 S2=>⟨_,_,rfl,rfl,_,rfl,jA (fun c=>?_) (fun c=>?_)⟩⟩
   ·have S2':=S1.trans S2
    refine⟨_,rfl,_,rfl,b,a,t,xs,n+1,k',z,D+3,ex,rfl,B2,by omega,E0.next S2' B2,hq.same (WX.draw E0.mem S2'),⟨ds,rs.same (WX.draw E0.mem S2'),gs,bs,by omega⟩,hz1,by omega,fun v' H' S' B' dv'=>k v' H' (S2'.trans S') (B'.mono (by omega)) (dv'.up (Same.refl _) (by omega) (zJ _) (by omega))⟩
   ·have S2':=S1.trans S2
    obtain⟨d0,rd0,_⟩:=dv.up ((WX.draw E0.mem S2').trans WX.le) (zJ _) (zJ _) (zJ _)
    refine⟨_,rfl,_,d0,rfl,rd0,_,rfl,ifF (VJ rd0) ⟨_,rfl,odd _ _ S2' B2 (by omega)⟩⟩
def yA(K:PySem.W.Frag):Nat->Sp
 | 0=>fun _ _ _ _=>False
 | j+1=>fun vs H Q _=>∃(b:Addr) (v:V) (n:Int) (k z D:Nat) (ex:List Addr),vs=[.ref b,v]/\BoxAt H b n/\n+10*(j+1)<1099510000000/\Ex H b ex/\DS K (WX ex H) k z D v/\z<=100000/\k<=100/\D<=j/\j<=20 /\
  ∀v' H',SameB b H H'->BoxAt H' b (n+8*(j+1))->DS K (WX ex H') (k+1) ((4*z+20)+(j+1)*(z+2)) (D+4) v'->Q v' H'
theorem VF:zF ["_law_box_here", "_law_thing", "_law_at", "_law_some"] ["_law_box_here", "_law_thing"] (zt (topL 49)):=⟨rfl,rfl,rfl,by decide +kernel,rfl,by decide +kernel,by decide +kernel⟩
def zbl(b:_)(a:_)(H:_)(n:_)(xs:List V):=fun(σ':St) (H':Hp)=>(Ex1 fun(q:Int)=>An5 (σ'=[some (.ref b),some (.ref a),some (.int q),none]) (SameB b H H') (BoxAt H' b (n+3)) (0<=q) (q<xs.length):Prop)
theorem JI{f:Addr}{fd:FuncData}(F:Fun K "_law_spoilt" "_law_spoilt" (topL 49) f fd)(B:Blt mg)(hm:mg "_law_spoilt" = some (.ref f))(hb:Binds K fd ["_law_box_here", "_law_thing"] [])
  (D_take:Dfn P w K mg base "_law_take" 1 ["_law_box_here", "_law_size"] jW) (D_instead:Dfn P w K mg base "_law_instead" 4 ["_law_box_here", "_law_thing"] (Xi K)) :
  ∀j:Nat,qH P w K mg base CX0 (j+5) f fd ["_law_box_here", "_law_thing"] (yA K j)
 | 0=>⟨fun _ _ _ _ h=>h.elim,fun _ _ _ _ _ _ _ _ _ _ _ _ _ h=>h.elim⟩
 | j+1=>by
  have D_spoilt:Dfn P w K mg base "_law_spoilt" (j+5) ["_law_box_here", "_law_thing"] (yA K j):=⟨f,fd,JI F B hm hb D_take D_instead j,hm,F.kp,hb⟩
  have nd:=VF.nd
  refine F.ok VF (fun vs H Q E h=>?_) (fun cdv A outer s H vs Q E hr h=>?_)
  ·obtain⟨b,v,n,k,z,D,ex,rfl,_⟩:=h
   rfl
  ·obtain⟨b,v,n,k',z,D,ex,rfl,B0,hn,E0,dv,hz1,hk,hD,hj,k⟩:=h
   have hbig:1000000<sizeLine:=by rw[sizeLine_eq];decide
   refine⟨_,(zg (je (PW.pt (Qn (Xm (jD (zp wQ rfl B.isinstance boot_isinstance (za (pv 1) (za (zY (za (qu (v:=.ty "list") rfl B.list qG rfl) (za (qu (v:=.ty "tuple") rfl B.tuple qP rfl) ze))) ze))))) (Qn (zO jt (zp zL rfl B.len boot_len (za (pv 1) ze)) zf (zQ _)) (Zf (zO jt (zk D_take (hr.mono (by omega)) rfl (za (pv 0) (za zf ze))) zf (zQ _))))))
   (zo (zE (zk D_instead (hr.mono (by omega)) rfl (za (pv 0) (za (pv 1) ze)))))
   qI)
   (zg (xJ (zC (i:=2) nd rfl (Or.inl rfl) (jX (zO jt (zk D_take (hr.mono (by omega)) rfl (za (pv 0) (za zf ze))) zf (zQ _)) (zA xz (zp zL rfl B.len boot_len (za (pv 1) ze)) zf) (zk D_take (hr.mono (by omega)) rfl (za (pv 0) (za (zp zL rfl B.len boot_len (za (pv 1) ze)) ze))))))
   (zg (zC (i:=3) nd rfl (Or.inl rfl) (qA vV rfl B.list qG (za (pv 1) ze)))
   (zg (xj (zk D_spoilt (hr.mono (by omega)) rfl (za (pv 0) (za (zu zgG (pv 1) (pv 2) (fun _ _=>rfl)) ze))) (Zh (pv 3) (pv 2) vF))
   (zo (zE (jX (jD (zp qO rfl B.isinstance boot_isinstance (za (pv 1) (za (qu (v:=.ty "list") rfl B.list qG rfl) ze)))) (pv 3) (qA jg rfl B.tuple qP (za (pv 3) ze))))))))),?_⟩
   have S0:=SameB.refl b H
   have inst:∀H1 (m:Int),SameB b H H1->BoxAt H1 b m->m<=n+1->Xi K [.ref b,v] H1 Q E:=fun H1 m S1 B1 hm1=>
    ⟨b,v,m,k',z,D,ex,rfl,B1,by omega,E0.next S1 B1,dv.up (WX.draw E0.mem S1) (zJ _) (zJ _) (zJ _),hz1,hk,fun v' H' S' B' dv'=>k v' H' (S1.trans S') (B'.mono (by omega)) (dv'.up (Same.refl _) (zJ _) (Nat.le_add_right _ _) (zJ _))⟩
   rcases dv.split2 with rfl | ⟨c,rfl⟩ | ⟨i,rfl,h⟩ | ⟨x,rfl⟩ | ⟨a,t,xs,ds,rfl,hq,rs,gs,bs,psd⟩
   ·exact⟨_,rfl,xV,fun p hp=>⟨_, "NoneType",p,["list", "tuple"],rfl,rfl,zb,(by decide),_,rfl,ifT (by decide) (ifT rfl ⟨_,rfl,_,rfl,inst _ n (S0.new hp) (B0.new hp) (by omega)⟩)⟩⟩
   ·exact⟨_,rfl,xV,fun p hp=>⟨_, "bool",p,["list", "tuple"],rfl,rfl,zb,(by decide),_,rfl,ifT (by decide) (ifT rfl ⟨_,rfl,_,rfl,inst _ n (S0.new hp) (B0.new hp) (by omega)⟩)⟩⟩
   ·exact⟨_,rfl,xV,fun p hp=>⟨_, "int",p,["list", "tuple"],rfl,rfl,zb,(by decide),_,rfl,ifT (by decide) (ifT rfl ⟨_,rfl,_,rfl,inst _ n (S0.new hp) (B0.new hp) (by omega)⟩)⟩⟩
   ·exact⟨_,rfl,xV,fun p hp=>⟨_, "str",p,["list", "tuple"],rfl,rfl,zb,(by decide),_,rfl,ifT (by decide) (ifT rfl ⟨_,rfl,_,rfl,inst _ n (S0.new hp) (B0.new hp) (by omega)⟩)⟩⟩
   have sq:∀H',SameB b H H'->SqQ K H' t a xs:=fun H' s=>hq.same ((WX.draw E0.mem s).trans WX.le)
   obtain⟨lx,al⟩:=zbX (z:=z) (D:=D-1) rs gs bs (by omega)
   have ny:(!(["list", "tuple"].any fun C=>jM (tyQ t) C))=false:=by cases t<;>decide
   refine⟨_,rfl,xV,fun p hp=>⟨_,tyQ t,p,["list", "tuple"],rfl,(sq _ (S0.new hp)).ty,zb,(by decide),_,rfl,ifF ny ?_⟩⟩
   have S1:=S0.new (o:=.tup [V.ty "list",V.ty "tuple"]) hp
   have B1:=B0.new (o:=.tup [V.ty "list",V.ty "tuple"]) hp
   generalize upd H p (.tup [V.ty "list",V.ty "tuple"])=H1 at S1 B1
   refine⟨_,rfl,a,xs,rfl,(sq _ S1).or,rfl,_,rfl,jA (fun c2=>ifT rfl ⟨_,rfl,_,rfl,inst H1 n S1 B1 (by omega)⟩) (fun c2=>⟨_,rfl,b,4,n,rfl,B1,by omega,by decide,by decide,fun r H2 r0 r1 B2 S2=>⟨rfl,_,rfl,jA (fun c3=>⟨_,rfl,_,rfl,inst H2 _ (S1.trans S2) B2 (by omega)⟩) (fun c3=>?_)⟩⟩)⟩
   have S2':=S1.trans S2
   have x0:xs.length≠0:=fun z=>c2 (by rw[z];exact qQ rfl)
   clear S1 S2 B1
   refine⟨zbl b a H n xs,?_,?_⟩
   ·refine⟨_,rfl,b,3,n+1,rfl,B2,by omega,by decide,by decide,fun r2 H3 r20 r21 B3 S3=>⟨rfl,_,rfl,jA (fun e=>?_) (fun e=>?_)⟩⟩
    ·exact⟨_,rfl,a,xs,rfl,(sq _ (S2'.trans S3)).or,_,_,rfl,rfl,_,rfl,S2'.trans S3,B3.mono (by omega),by omega,by omega⟩
    ·exact⟨_,rfl,_,rfl,a,xs,rfl,(sq _ (S2'.trans S3)).or,b,_,n+1+1,rfl,B3,by omega,by omega,by omega,fun q H4 q0 q1 B4 S4=>⟨q,rfl,(S2'.trans S3).trans S4,B4.mono (by omega),q0,q1⟩⟩
   rintro σ' H3 ⟨q,rfl,S3,B3,q0,q1⟩
   clear S2' B2
   refine⟨_,rfl,a,xs,rfl,(sq _ S3).or,fun m hm=>?_⟩
   have E3:=E0.next S3 B3
   have mH:H m=none:=S3.none hm (B3.nne hm)
   have mb:=B3.nne hm
   have mx:=E3.out hm
   have S4:=S3.new (o:=.lst xs) hm
   have B4:=B3.new (o:=.lst xs) hm
   have E4:=E3.same (zd (o:=.lst xs) hm)
   have w4:=(WX.draw E0.mem S3).trans (WX.fresh hm (.lst xs))
   have f4:upd H3 m (.lst xs) m=some (.lst xs):=zb
   generalize upd H3 m (.lst xs)=H4 at S4 B4 E4 f4 w4
   obtain⟨x,ex1,ex2⟩:=Zs (xs:=xs) q0 q1
   have dx:=(al x (qU ex2)).up w4 (zJ _) (by omega:z-1<=z) (zJ _)
   obtain⟨j',rfl⟩:∃j',j=j'+1:=⟨j-1,by omega⟩
   have ty:=fun H' s=>(sq H' s).ty
   have D1:1<=D:=by omega
   cases t
   all_goals
    refine⟨_,rfl,_,rfl,_,rfl,?_⟩
    first
     | refine .inl ⟨a,xs,_,x,rfl,rfl,sq _ S4,ex1,?_⟩
     | refine .inr (.inl ⟨a,xs,_,x,rfl,rfl,sq _ S4,ex1,?_⟩)
    refine⟨b,x,n+3,k',z,D-1,m::ex,rfl,B4,by omega,E4.cons f4,dx,hz1,hk,by omega,by omega,fun v' H5 S5 B5 dv5=>?_⟩
    have f5:=S5 m _ f4 mb
    refine⟨_,rfl,_,rfl,m,xs,q,q.toNat,rfl,rfl,f5,zgH q0 q1,?_⟩
    have S6:=(S4.trans S5).put (o:=.lst (xs.set q.toNat v')) mH
    have B6:=B5.other (o:=.lst (xs.set q.toNat v')) mb
    have f6:upd H5 m (.lst (xs.set q.toNat v')) m=some (.lst (xs.set q.toNat v')):=zb
    have dv6:=dv5.up ((WX.put (H:=H5) (o:=.lst (xs.set q.toNat v')) j8).trans WX.cons) (zJ _) (zJ _) (zJ _)
    generalize upd H5 m (.lst (xs.set q.toNat v'))=H6 at S6 B6 f6 dv6
    have E6:=E0.next S6 B6
    obtain⟨d',rd,gd⟩:=dv6
    have rs6:=Reps.set (i:=q.toNat) (rs.same (WX.draw E0.mem S6)) rd
    have g6:=zaO (i:=q.toNat) (d:=d') (Dat.gds_up (by omega:k'<=k'+1) gs) gd.g
    have b6:=Wo (ds:=ds) (i:=q.toNat) (d:=d')
    have p6:=Wf (ds:=ds) (i:=q.toNat) (d:=d')
    have gb:=gd.b
    have gp:=gd.p
    have em:(j'+1+1)*(z+2)=(j'+1)*(z+2)+(z+2):=Nat.succ_mul _ _
    have hb6:Dat.blks (ds.set q.toNat d')<=(4*z+20)+(j'+1+1)*(z+2):=by
     rw[em]
     omega
    have hp6:PyData.depthAll (Dat.pys (ds.set q.toNat d'))+1<=D+4:=by omega
    refine⟨_,rfl,_,_, "list",rfl,ty _ S6,(by decide),_,rfl,jA (fun e=>⟨_,rfl,?_⟩) (fun e=>⟨_,rfl,m,_,rfl,.inl ⟨SqL.of f6,fun p' hp'=>?_⟩⟩)⟩
    ·exact k _ H6 S6 (B6.mono (by omega)) ⟨.lst (ds.set q.toNat d'),⟨m,_,rfl,SqL.of (WX.at mx f6),rs6⟩,g6,hb6,hp6⟩
    ·exact k _ _ (S6.new hp') ((B6.new hp').mono (by omega)) ⟨.tup (ds.set q.toNat d'),⟨p',_,rfl,SqT.of (WX.at (E6.out hp') zb),rs6.same (WX.new hp')⟩,g6,hb6,hp6⟩
end
mutual
def eqD:Dat->Dat->Bool
 | .non,.non=>true
 | .bl a,.bl b=>a==b
 | .int a,.int b=>a==b
 | .str a,.str b=>a==b
 | .lst a,.lst b=>eqDs a b
 | .tup a,.tup b=>eqDs a b
 | _,_=>false
def eqDs:List Dat->List Dat->Bool
 | [],[]=>true
 | a::as,b::bs=>eqD a b&&eqDs as bs
 | _,_=>false
end
theorem QG:∀{as bs:List Dat},as.length=bs.length->((as.zip bs).map fun p=>eqD p.1 p.2).all id=eqDs as bs
 | [],[],_=>by unfold eqDs;rfl
 | a::as,b::bs,h=>by
  unfold eqDs
  rw[<- QG (as:=as) (bs:=bs) (Nat.succ.inj h)]
  rfl
theorem QH:∀{as bs:List Dat},as.length≠bs.length->eqDs as bs=false
 | [],[],h=>absurd rfl h
 | [],b::bs,_=>by unfold eqDs;rfl
 | a::as,[],_=>by unfold eqDs;rfl
 | a::as,b::bs,h=>by
  unfold eqDs
  rw[QH (as:=as) (bs:=bs) fun z=>h (congrArg Nat.succ z),Yc]
def mkQ(t:Bool)(ds:List Dat):Dat:=if t=true then .tup ds else .lst ds
theorem zdy(t u:Bool)(as bs:List Dat):eqD (mkQ t as) (mkQ u bs)=((t==u)&&eqDs as bs):=by
 cases t<;>cases u<;>simp[mkQ,eqD]
theorem YF{α β:Type}{as:List α}{bs:List β}{i:Nat}{a:α}{b:β}(h1:as[i]? =some a)(h2:bs[i]? =some b):(as.zip bs)[i]? =some (a,b):=by
 rw[YA]
 exact⟨h1,h2⟩
section
variable{P:Program}{w:World}{K:PySem.W.Frag}{mg:Str->Option Value}{base:Heap}
inductive Spl(K:PySem.W.Frag)(H:Hp):Dat->V->Prop
 | sc (d:Dat) (v:V) (h:Rep K H d v) (f:xg v=true) (n:jM d.tyN "list" = false) (m:jM d.tyN "tuple" = false):Spl K H d v
 | row (t:Bool) (a:Addr) (xs:List V) (ds:List Dat) (h:SqQ K H t a xs) (r:Reps K H ds xs):Spl K H (mkQ t ds) (.ref a)
theorem yE{H:Hp}{d:Dat}{v:V}(h:Rep K H d v):Spl K H d v:=by
 cases d with
 | non=>cases(show v=_ from h);exact .sc _ _ h rfl (by decide) (by decide)
 | bl b=>cases(show v=_ from h);exact .sc _ _ h rfl (show jM "bool" "list" = false by decide) (show jM "bool" "tuple" = false by decide)
 | int i=>cases(show v=_ from h);exact .sc _ _ h rfl (show jM "int" "list" = false by decide) (show jM "int" "tuple" = false by decide)
 | str x=>cases(show v=_ from h);exact .sc _ _ h rfl (show jM "str" "list" = false by decide) (show jM "str" "tuple" = false by decide)
 | lst ds=>
  obtain⟨a,xs,rfl,hq,r⟩:=h
  exact .row false a xs ds hq r
 | tup ds=>
  obtain⟨a,xs,rfl,hq,r⟩:=h
  exact .row true a xs ds hq r
theorem SqQ.k{H:Hp}{t:Bool}{a:Addr}{xs:List V}(h:SqQ K H t a xs):SqK K (!t) H a xs:=by
 cases t
 ·exact h
 ·exact h
theorem zhX{H:Hp}{d e:Dat}{v:V}(h:Rep K H e v)(f:xg v=true)(c:wu d=wu e):eqS d v=eqD d e:=by
 cases e with
 | lst es=>obtain⟨a,xs,rfl,_⟩:=h;cases f
 | tup es=>obtain⟨a,xs,rfl,_⟩:=h;cases f
 | non=>cases(show v=_ from h);cases d<;>first| rfl | cases c
 | bl b=>cases(show v=_ from h);cases d<;>first| rfl | cases c
 | int b=>cases(show v=_ from h);cases d<;>first| rfl | cases c
 | str b=>cases(show v=_ from h);cases d<;>first| rfl | cases c
theorem zgR{d e:Dat}(c:wu d≠wu e):eqD d e=false:=by
 cases d<;>cases e<;>first| rfl | exact absurd rfl c
theorem W2{d:Dat}{u:Bool}{es:List Dat}(n:jM d.tyN "list" = false)(m:jM d.tyN "tuple" = false):eqD d (mkQ u es)=false:=by
 cases d with
 | lst ds=>exact absurd n (show ¬jM "list" "list" = false by decide)
 | tup ds=>exact absurd m (show ¬jM "tuple" "tuple" = false by decide)
 | _=>cases u<;>rfl
theorem zhy{n:Nat}{u:Bool}{es:List Dat}(h:Dat.ok n (mkQ u es)):∃m,n=m+1/\es.length<=1000000/\∀e∈es,Dat.ok m e:=by
 cases n with
 | zero=>cases u<;>exact(show False from h).elim
 | succ m=>cases u<;>exact⟨m,rfl,h⟩
def zfU(K:PySem.W.Frag):Nat->Sp
 | 0=>fun _ _ _ _=>False
 | n+1=>fun vs H Q _=>∃(t u:Bool) (a b:Addr) (xs ys:List V) (ds es:List Dat),vs=[.ref a,.ref b]/\SqQ K H t a xs/\SqQ K H u b ys/\Reps K H ds xs/\Reps K H es ys/\es.length<=1000000/\(∀e∈es,Dat.ok n e)/\∀H',Same H H'->Q (.bl (eqDs ds es)) H'
inductive zcm(K:PySem.W.Frag)(n:Nat)(vs:List V)(H:Hp)(Q:VK):Prop
 | mk (d e:Dat) (f v:V) (_:vs=[f,v]) (_:Rep K H d f) (_:Rep K H e v) (_:Dat.ok n e) (_:∀H',Same H H'->Q (.bl (eqD d e)) H'):zcm K n vs H Q
def zfT(K:PySem.W.Frag)(n:Nat):Sp:=fun vs H Q _=>zcm K n vs H Q
theorem zhm:zF ["things", "told"] ["things", "told"] (zt (topL 11)):=⟨rfl,rfl,rfl,by decide +kernel,rfl,by decide +kernel,by decide +kernel⟩
theorem zeE{f:Addr}{fd:FuncData}(_:Fun K "are_same" "are_same" (topL 11) f fd)(_:Blt mg):qH P w K mg base CX0 0 f fd ["things", "told"] (zfU K 0):=⟨fun _ _ _ _ h=>h.elim,fun _ _ _ _ _ _ _ _ _ _ _ _ _ h=>h.elim⟩
theorem Xw{f:Addr}{fd:FuncData}(F:Fun K "are_same" "are_same" (topL 11) f fd)(B:Blt mg)(n:Nat)(Dis_same:Dfn P w K mg base "is_same" (2*n+1) ["thing", "told"] (zfT K n)):qH P w K mg base CX0 (2*n+2) f fd ["things", "told"] (zfU K (n+1)):=by
 have nd:=zhm.nd
 refine F.ok zhm (fun vs H Q E h=>?_) (fun cdv A outer s H vs Q E hr h=>?_)
 ·obtain⟨t,u,a,b,xs,ys,ds,es,rfl,_⟩:=h
  rfl
 ·obtain⟨t,u,a,b,xs,ys,ds,es,rfl,hx,hy,rx,ry,el,ok,k⟩:=h
  have hbig:1000000<sizeLine:=by rw[sizeLine_eq];decide
  have lx:=rx.len
  have ly:=ry.len
  refine⟨_,(zo (zE (vB (qM jt (zp zL rfl B.len boot_len (za (pv 0) ze)) (zp zL rfl B.len boot_len (za (pv 1) ze)) (zQ _)) (x9 (zp (Zr rfl) rfl B.all boot_all (za (vA [] [] rfl rfl (by kernel_rfl) (Xp rfl B.zip (za (pv 0) (za (pv 1) ze))) (fun _ _ _ _=>jw) (fun _ _ _ _=>(zk Dis_same (hr.mono (by omega)) rfl (za (pv 0) (za (pv 1) ze))))) ze)))))),?_⟩
  refine⟨_,rfl,a,xs,rfl,hx.or,_,rfl,b,ys,rfl,hy.or,rfl,_,rfl,?_⟩
  by_cases c:xs.length=ys.length
  ·refine ifT (by rw[c];exact qQ rfl) ?_
   refine⟨_,rfl,_,rfl,!t,!u,a,b,rfl,⟨xs,hx.k⟩,⟨ys,hy.k⟩,?_⟩
   refine XA (K:=K) (k1:=!t) (k2:=!u) (xs:=xs) (ys:=ys) (fun i zs H3=>zs=(((ds.zip es).take i).map fun p=>eqD p.1 p.2).map V.bl/\Same H H3) ⟨rfl,Same.refl _⟩ (fun i zs H3 ⟨_,sm⟩=>⟨(hx.same sm).k,(hy.same sm).k⟩) ?_ ?_
   ·rintro i x y zs H3 T e1 e2 ⟨rfl,sm⟩ hT
    obtain⟨d1,q1,r1⟩:=rx.get e1
    obtain⟨d2,q2,r2⟩:=ry.get e2
    have hi:=(zW.mp q2).1
    have s4:=sm.trans (zd (o:=.tup [x,y]) hT)
    refine⟨T,_,rfl,SqT.of zb,rfl,_,_,rfl,_,_,rfl,rfl,rfl,?_⟩
    refine⟨_,rfl,_,rfl,d1,d2,x,y,rfl,r1.same s4,r2.same s4,ok d2 (qU q2),fun H5 s5=>⟨?_,?_,s4.trans s5⟩⟩
    ·rw[zq,zq,qR,XX];omega
    ·rw[qg (YF q1 q2),zX,zX];rfl
   ·rintro zs H3 ⟨rfl,sm⟩
    have lz:(ds.zip es).length=min xs.length ys.length:=by rw[XX,<- lx,<- ly]
    rw[<- lz,qX]
    refine⟨by rw[zq,zq,lz];omega,fun D hD=>⟨D,_,rfl,SqL.of zb,?_⟩⟩
    rw[QG (by rw[<- lx,<- ly];exact c)]
    exact k _ (sm.trans (zd hD))
  ·refine ifF (xE fun z=>c (by have:=V.int.inj z;omega)) ?_
   have:=k H (Same.refl _)
   rwa[QH (by rw[<- lx,<- ly];exact c)] at this
theorem zhk:zF ["thing", "told"] ["thing", "told"] (zt (topL 12)):=⟨rfl,rfl,rfl,by decide +kernel,rfl,by decide +kernel,by decide +kernel⟩
theorem Qu{f:Addr}{fd:FuncData}(F:Fun K "is_same" "is_same" (topL 12) f fd)(B:Blt mg)(n:Nat)(Dare_same:Dfn P w K mg base "are_same" (2*n) ["things", "told"] (zfU K n)):qH P w K mg base CX0 (2*n+1) f fd ["thing", "told"] (zfT K n):=by
 have nd:=zhk.nd
 refine F.ok zhk (fun vs H Q E h=>?_) (fun cdv A outer s H vs Q E hr h=>?_)
 ·obtain⟨d,e,f,v,rfl,_⟩:=h
  rfl
 ·obtain⟨d,e,f,v,rfl,rd,re,ok,k⟩:=h
  have hu:=hr.units0
  have kk:=k H (Same.refl _)
  refine⟨_,(zg (je (jD (zp qO rfl B.isinstance boot_isinstance (za (pv 1) (za (qu (v:=.ty "list") rfl B.list qG rfl) ze))))
   (zo (zE (vB (zp qO rfl B.isinstance boot_isinstance (za (pv 0) (za (qu (v:=.ty "list") rfl B.list qG rfl) ze))) (x9 (zk Dare_same (hr.mono (by omega)) rfl (za (pv 0) (za (pv 1) ze)))))))
   qI)
   (zg (je (jD (zp qO rfl B.isinstance boot_isinstance (za (pv 1) (za (qu (v:=.ty "tuple") rfl B.tuple qP rfl) ze))))
   (zo (zE (vB (zp qO rfl B.isinstance boot_isinstance (za (pv 0) (za (qu (v:=.ty "tuple") rfl B.tuple qP rfl) ze))) (x9 (zk Dare_same (hr.mono (by omega)) rfl (za (pv 0) (za (pv 1) ze)))))))
   qI)
   (zo (zE (vB (qM jt (zp qO rfl B.isinstance boot_isinstance (za (pv 0) (za (qu (v:=.ty "bool") rfl B.bool vM rfl) ze))) (zp qO rfl B.isinstance boot_isinstance (za (pv 1) (za (qu (v:=.ty "bool") rfl B.bool vM rfl) ze))) (zQ _)) (x9 (qM (Xv hu) (pv 0) (pv 1) (zQ _)))))))),?_⟩
  refine⟨_,rfl,v,e.tyN, "list",rfl,re.ty,(by decide),_,rfl,?_⟩
  cases yE re with
  | sc _ _ _ fl ne me=>
   refine ifF ne ⟨_,rfl,v,e.tyN, "tuple",rfl,re.ty,(by decide),_,rfl,ifF me ?_⟩
   refine⟨_,rfl,f,d.tyN, "bool",rfl,rd.ty,(by decide),_,rfl,v,e.tyN, "bool",rfl,re.ty,(by decide),rfl,_,rfl,?_⟩
   rw[Qh,Qh]
   by_cases c:wu d=wu e
   ·refine ifT (qQ (congrArg V.bl c)) ⟨_,rfl,_,rfl,d,rd,fl,?_⟩
    rw[zhX re fl c]
    exact kk
   ·refine ifF (xE fun z=>c (V.bl.inj z)) ?_
    rw[zgR c] at kk
    exact kk
  | row u b ys es hy ry=>
   obtain⟨m,rfl,el,eok⟩:=zhy ok
   cases u with
   | false=>
    refine ifT rfl ⟨_,rfl,f,d.tyN, "list",rfl,rd.ty,(by decide),_,rfl,?_⟩
    cases yE rd with
    | sc _ _ _ _ nd2 md2=>
     refine ifF nd2 ?_
     rw[W2 nd2 md2] at kk
     exact kk
    | row t a xs ds hx rx=>
     cases t with
     | false=>exact ifT rfl ⟨_,rfl,_,rfl,false,false,a,b,xs,ys,ds,es,rfl,hx,hy,rx,ry,el,eok,fun H' s'=>k H' s'⟩
     | true=>exact ifF rfl kk
   | true=>
    refine ifF rfl ⟨_,rfl,.ref b, "tuple", "tuple",rfl,re.ty,(by decide),_,rfl,ifT rfl ⟨_,rfl,f,d.tyN, "tuple",rfl,rd.ty,(by decide),_,rfl,?_⟩⟩
    cases yE rd with
    | sc _ _ _ _ nd2 md2=>
     refine ifF md2 ?_
     rw[W2 nd2 md2] at kk
     exact kk
    | row t a xs ds hx rx=>
     cases t with
     | false=>exact ifF rfl kk
     | true=>exact ifT rfl ⟨_,rfl,_,rfl,true,true,a,b,xs,ys,ds,es,rfl,hx,hy,rx,ry,el,eok,fun H' s'=>k H' s'⟩
def spE(K:PySem.W.Frag):Nat->Sp
 | 0=>fun _ _ _ _=>False
 | n+1=>fun vs H Q _=>∃(d e:Dat) (f v:V),vs=[f,v]/\Rep K H d f/\Rep K H e v/\Dat.ok n e/\∀H',Same H H'->Q (.bl (eqD d e)) H'
theorem zcw:zF ["_law_found", "_law_due"] ["_law_found", "_law_due"] (zt (topL 31)):=⟨rfl,rfl,rfl,by decide +kernel,rfl,by decide +kernel,by decide +kernel⟩
theorem zay{f:Addr}{fd:FuncData}(F:Fun K "_law_same" "_law_same" (topL 31) f fd)(B:Blt mg)(hm:mg "_law_same" = some (.ref f))(hb:Binds K fd ["_law_found", "_law_due"] []) :
  ∀n:Nat,qH P w K mg base CX0 n f fd ["_law_found", "_law_due"] (spE K n)
 | 0=>⟨fun _ _ _ _ h=>h.elim,fun _ _ _ _ _ _ _ _ _ _ _ _ _ h=>h.elim⟩
 | n+1=>by
  have D_same:Dfn P w K mg base "_law_same" n ["_law_found", "_law_due"] (spE K n):=⟨f,fd,zay F B hm hb n,hm,F.kp,hb⟩
  have nd:=zcw.nd
  refine F.ok zcw (fun vs H Q E h=>?_) (fun cdv A outer s H vs Q E hr h=>?_)
  ·obtain⟨d,e,g,v,rfl,_⟩:=h
   rfl
  ·obtain⟨d,e,g,v,rfl,rd,re,ok,k⟩:=h
   have hu:=hr.units0
   have hbig:1000000<sizeLine:=by rw[sizeLine_eq];decide
   refine⟨_,(zg (je (jD (zp wQ rfl B.isinstance boot_isinstance (za (pv 1) (za (zY (za (qu (v:=.ty "list") rfl B.list qG rfl) (za (qu (v:=.ty "tuple") rfl B.tuple qP rfl) ze))) ze))))
   (zg (je (PW.pt (Qn (Xm (jD (zp wQ rfl B.isinstance boot_isinstance (za (pv 0) (za (zY (za (qu (v:=.ty "list") rfl B.list qG rfl) (za (qu (v:=.ty "tuple") rfl B.tuple qP rfl) ze))) ze))))) (Zf (zO zcY (zp qO rfl B.isinstance boot_isinstance (za (pv 0) (za (qu (v:=.ty "list") rfl B.list qG rfl) ze))) (zp qO rfl B.isinstance boot_isinstance (za (pv 1) (za (qu (v:=.ty "list") rfl B.list qG rfl) ze))) (zQ _)))))
    (zo (zE yI))
    qI)
    (zo (zE (vB (qM jt (zp zL rfl B.len boot_len (za (pv 0) ze)) (zp zL rfl B.len boot_len (za (pv 1) ze)) (zQ _)) (x9 (zp (Zr rfl) rfl B.all boot_all (za (vA [] [] rfl rfl (by kernel_rfl) (Xp rfl B.zip (za (pv 0) (za (pv 1) ze))) (fun _ _ _ _=>jw) (fun _ _ _ _=>(zk D_same (hr.mono (by omega)) rfl (za (pv 0) (za (pv 1) ze))))) ze)))))))
   qI)
   (zg (je (PW.pt (Qn (zO zc0 (pv 1) Xq (zQ _)) (Zf (jD (zp qO rfl B.isinstance boot_isinstance (za (pv 1) (za (qu (v:=.ty "str") rfl B.str yR rfl) ze)))))))
   (zo (zE (vB (qM (Xv hu) (pv 0) (pv 1) (zQ _)) (x9 (qM jt (zp qO rfl B.isinstance boot_isinstance (za (pv 0) (za (qu (v:=.ty "str") rfl B.str yR rfl) ze))) (zp qO rfl B.isinstance boot_isinstance (za (pv 1) (za (qu (v:=.ty "str") rfl B.str yR rfl) ze))) (zQ _))))))
   qI)
   (zo (zE (vB (zp qO rfl B.isinstance boot_isinstance (za (pv 0) (za (qu (v:=.ty "int") rfl B.int vL rfl) ze))) (vB (qM jt (zp qO rfl B.isinstance boot_isinstance (za (pv 0) (za (qu (v:=.ty "bool") rfl B.bool vM rfl) ze))) (zp qO rfl B.isinstance boot_isinstance (za (pv 1) (za (qu (v:=.ty "bool") rfl B.bool vM rfl) ze))) (zQ _)) (x9 (qM (Xv hu) (pv 0) (pv 1) (zQ _))))))))),?_⟩
   refine⟨_,rfl,xV,fun p hp=>⟨v,e.tyN,p,["list", "tuple"],rfl,(re.same (zd hp)).ty,zb,(by decide),_,rfl,?_⟩⟩
   have s1:Same H (upd H p (.tup [V.ty "list",V.ty "tuple"])):=zd hp
   have rd1:=rd.same s1
   have re1:=re.same s1
   generalize upd H p (.tup [V.ty "list",V.ty "tuple"])=H1 at s1 rd1 re1 ⊢
   have kk:=k H1 s1
   cases yE re1 with
   | sc _ _ _ fl ne me=>
    refine ifF (by show(jM e.tyN "list" || (jM e.tyN "tuple" || false))=false;rw[ne,me];rfl) ?_
    cases e with
    | lst es=>exact absurd ne (show ¬jM "list" "list" = false by decide)
    | tup es=>exact absurd me (show ¬jM "tuple" "tuple" = false by decide)
    | non=>
     cases(show v=_ from re1)
     refine⟨_,rfl,rfl,_,rfl,ifT (by simp) (ifT rfl ⟨_,rfl,_,rfl,d,rd1,rfl,_,rfl,?_⟩)⟩
     cases d with
     | non=>exact ifT rfl ⟨_,rfl,_, "NoneType", "str",rfl,rd1.ty,(by decide),_,rfl,_, "NoneType", "str",rfl,re1.ty,(by decide),rfl,kk⟩
     | _=>exact ifF rfl kk
    | str b=>
     cases(show v=_ from re1)
     refine⟨_,rfl,rfl,_,rfl,ifF (by simp) ⟨_,rfl,_, "str", "str",rfl,re1.ty,(by decide),_,rfl,ifT (by decide) ⟨_,rfl,_,rfl,d,rd1,rfl,_,rfl,?_⟩⟩⟩
     cases d with
     | str a=>
      have kk':Q (.bl (a==b)) H1:=kk
      cases h:(a==b) with
      | true=>
       rw[h] at kk'
       exact ifT h ⟨_,rfl,_, "str", "str",rfl,rd1.ty,(by decide),_,rfl,_, "str", "str",rfl,re1.ty,(by decide),rfl,kk'⟩
      | false=>
       rw[h] at kk'
       exact ifF h kk'
     | _=>exact ifF rfl kk
    | bl b=>
     cases(show v=_ from re1)
     refine⟨_,rfl,rfl,_,rfl,ifF (by simp) ⟨_,rfl,_, "bool", "str",rfl,re1.ty,(by decide),_,rfl,ifF (by decide) ⟨_,rfl,g,d.tyN, "int",rfl,rd1.ty,(by decide),_,rfl,?_⟩⟩⟩
     cases d with
     | bl a=>exact ifT rfl ⟨_,rfl,g, "bool", "bool",rfl,rd1.ty,(by decide),_,rfl,_, "bool", "bool",rfl,re1.ty,(by decide),rfl,_,rfl,ifT rfl ⟨_,rfl,_,rfl,_,rd1,rfl,kk⟩⟩
     | int a=>exact ifT rfl ⟨_,rfl,g, "int", "bool",rfl,rd1.ty,(by decide),_,rfl,_, "bool", "bool",rfl,re1.ty,(by decide),rfl,_,rfl,ifF rfl kk⟩
     | _=>exact ifF rfl kk
    | int b=>
     cases(show v=_ from re1)
     refine⟨_,rfl,rfl,_,rfl,ifF (by simp) ⟨_,rfl,_, "int", "str",rfl,re1.ty,(by decide),_,rfl,ifF (by decide) ⟨_,rfl,g,d.tyN, "int",rfl,rd1.ty,(by decide),_,rfl,?_⟩⟩⟩
     cases d with
     | bl a=>exact ifT rfl ⟨_,rfl,g, "bool", "bool",rfl,rd1.ty,(by decide),_,rfl,_, "int", "bool",rfl,re1.ty,(by decide),rfl,_,rfl,ifF rfl kk⟩
     | int a=>exact ifT rfl ⟨_,rfl,g, "int", "bool",rfl,rd1.ty,(by decide),_,rfl,_, "int", "bool",rfl,re1.ty,(by decide),rfl,_,rfl,ifT rfl ⟨_,rfl,_,rfl,_,rd1,rfl,kk⟩⟩
     | _=>exact ifF rfl kk
   | row u b ys es hy ry=>
    obtain⟨m,rfl,el,eok⟩:=zhy ok
    refine ifT (by cases u<;>rfl) ?_
    refine⟨_,rfl,xV,fun p2 hp2=>⟨g,d.tyN,p2,["list", "tuple"],rfl,(rd1.same (zd hp2)).ty,zb,(by decide),_,rfl,?_⟩⟩
    have s2:Same H1 (upd H1 p2 (.tup [V.ty "list",V.ty "tuple"])):=zd hp2
    have hy2:=hy.same s2
    have ry2:=ry.same s2
    have rd2:=rd1.same s2
    have re2:=re1.same s2
    have s3:=s1.trans s2
    generalize upd H1 p2 (.tup [V.ty "list",V.ty "tuple"])=H2 at s2 s3 hy2 ry2 rd2 re2 ⊢
    have kk2:=k H2 s3
    cases yE rd2 with
    | sc _ _ _ _ nd2 md2=>
     refine ifT (by show(!(jM d.tyN "list" || (jM d.tyN "tuple" || false)))=true;rw[nd2,md2];rfl) (ifT rfl ?_)
     rw[W2 nd2 md2] at kk2
     exact kk2
    | row t a xs ds hx rx=>
     refine ifF (by cases t<;>rfl) ?_
     refine⟨_,rfl,.ref a,(mkQ t ds).tyN, "list",rfl,rd2.ty,(by decide),_,rfl,.ref b,(mkQ u es).tyN, "list",rfl,re2.ty,(by decide),rfl,_,rfl,?_⟩
     by_cases c:t=u
     ·subst c
      refine ifF (by rw[qQ (by cases t<;>rfl)];rfl) ?_
      have lx:=rx.len
      have ly:=ry2.len
      rw[zdy,beq_self_eq_true,Bool.true_and] at kk2
      refine⟨_,rfl,a,xs,rfl,hx.or,_,rfl,b,ys,rfl,hy2.or,rfl,_,rfl,?_⟩
      by_cases c:xs.length=ys.length
      ·refine ifT (by rw[c];exact qQ rfl) ?_
       refine⟨_,rfl,_,rfl,!t,!t,a,b,rfl,⟨xs,hx.k⟩,⟨ys,hy2.k⟩,?_⟩
       refine XA (K:=K) (k1:=!t) (k2:=!t) (xs:=xs) (ys:=ys) (fun i zs H3=>zs=(((ds.zip es).take i).map fun p=>eqD p.1 p.2).map V.bl/\Same H2 H3) ⟨rfl,Same.refl _⟩ (fun i zs H3 ⟨_,sm⟩=>⟨(hx.same sm).k,(hy2.same sm).k⟩) ?_ ?_
       ·rintro i x y zs H3 T e1 e2 ⟨rfl,sm⟩ hT
        obtain⟨d1,q1,r1⟩:=rx.get e1
        obtain⟨d2,q2,r2⟩:=ry2.get e2
        have hi:=(zW.mp q2).1
        have s4:=sm.trans (zd (o:=.tup [x,y]) hT)
        refine⟨T,_,rfl,SqT.of zb,rfl,_,_,rfl,_,_,rfl,rfl,rfl,?_⟩
        refine⟨_,rfl,_,rfl,d1,d2,x,y,rfl,r1.same s4,r2.same s4,eok d2 (qU q2),fun H5 s5=>⟨?_,?_,s4.trans s5⟩⟩
        ·rw[zq,zq,qR,XX];omega
        ·rw[qg (YF q1 q2),zX,zX];rfl
       ·rintro zs H3 ⟨rfl,sm⟩
        have lz:(ds.zip es).length=min xs.length ys.length:=by rw[XX,<- lx,<- ly]
        rw[<- lz,qX]
        refine⟨by rw[zq,zq,lz];omega,fun D hD=>⟨D,_,rfl,SqL.of zb,?_⟩⟩
        rw[QG (by rw[<- lx,<- ly];exact c)]
        have:=k _ (s3.trans (sm.trans (zd (o:=.lst (((ds.zip es).map fun p=>eqD p.1 p.2).map V.bl)) hD)))
        rwa[zdy,beq_self_eq_true,Bool.true_and] at this
      ·refine ifF (xE fun z=>c (by have:=V.int.inj z;omega)) ?_
       rw[QH (by rw[<- lx,<- ly];exact c)] at kk2
       exact kk2
     ·refine ifT (by rw[xE (by cases t<;>cases u<;>first| exact absurd rfl c | (intro z;cases z))];rfl) ?_
      rw[zdy,beq_eq_false_iff_ne.mpr c] at kk2
      exact kk2
def EvG(J:Job)(e:Ev):Prop:=e.p<J.ps.length/\(∀p k x y,e=.laid p k x y->∃pa∈J.ps,k=pa.k)
theorem TryR.gd{J:Job}{pa:xi}{p own:Nat}{bs:List Bool}{es:List Ev}{n:Nat}{fnd r:List Ev}(h:TryR J pa p own bs es n fnd r)(hp:p<J.ps.length):(∀e∈fnd,EvG J e)->∀e∈r,EvG J e:=by
 have app:∀{l:List Ev} {x:Ev},(∀e∈l,EvG J e)->EvG J x->∀e∈l++[x],EvG J e:=fun h1 h2 e he=>by
  rcases qT.mp he with z | z
  ·exact h1 e z
  ·rw[qo.mp z];exact h2
 induction h with
 | fin fnd=>exact fun hf=>app hf ⟨hp,fun _ _ _ _ z=>nomatch z⟩
 | none n fnd h=>exact fun hf=>app hf ⟨hp,fun _ _ _ _ z=>nomatch z⟩
 | luck n fnd f h g=>exact fun hf=>app hf ⟨hp,fun _ _ _ _ z=>nomatch z⟩
 | miss n fnd f r h g t ih=>exact fun hf=>ih (app hf ⟨hp,fun _ _ _ _ z=>nomatch z⟩)
theorem PksR.gd{J:Job}{bs:List Bool}{n:Nat}{es:List Ev}{pks:List (Nat×Nat)}{r:List Ev}(h:PksR J bs n es pks r):∀e∈r,EvG J e:=by
 induction h with
 | nil=>exact fun e he=>nomatch he
 | snoc pks fnd p own pa r h e g ih=>
  have hp:=(zW.mp e).1
  intro x hx
  rcases qT.mp hx with z | z
  ·exact ih x z
  ·rcases g with ⟨_,rfl⟩ | ⟨_,t⟩
   ·rw[qo.mp z];exact⟨hp,fun _ _ _ _ z=>nomatch z⟩
   ·exact t.gd hp (fun e he=>nomatch he) x z
theorem LysR.gd{J:Job}{es pk:List Ev}{lys:List Nat}{r:List Ev}(h:LysR J es pk lys r)(hp:∀e∈pk,EvG J e):∀e∈r,EvG J e:=by
 induction h with
 | nil fnd h=>rw[h];exact hp
 | skip lys fnd p h g ih=>exact ih
 | lay lys fnd p pa e h g ep l ih=>
  have hp:=(zW.mp ep).1
  intro x hx
  rcases qT.mp hx with z | z
  ·exact ih x z
  ·rw[qo.mp z]
   rcases l with ⟨_,rfl⟩ | ⟨_,rfl⟩
   ·exact⟨hp,fun _ _ _ _ z=>nomatch z⟩
   ·exact⟨hp,fun q k x y z=>by cases z;exact⟨pa,qU ep,rfl⟩⟩
theorem RunR.gd{J:Job}(jin:JIn J){bs:List Bool}{n:Nat}{ts:List (List (Nat×Nat)×List Nat)}{es:List Ev}{w:Int}(h:RunR J bs n ts es w):(∀e∈es,EvG J e/\vX J e)/\0<=w/\w<=1000*(2*(ts.length:Int)+2*(es.length:Int)):=by
 induction h with
 | nil=>exact⟨(fun e he=>nomatch he),XS _,(by show(0:Int)<=1000*(2*((0:Nat):Int)+2*((0:Nat):Int));decide)⟩
 | snoc ts es w pks lys r h t ih=>
  obtain⟨i1,i2,i3⟩:=ih
  have ok:=t.ok jin
  have sb:=zca (m:=1000) (ZY (Xk jin ok))
  have rl:(xr (vG J r)).length<=1+2*r.length:=by
   have h1:=Z3 J r
   have h2:(vG J r).length=(wb J r).length+1:=zV
   rw[xN]
   omega
  refine⟨fun e he=>?_,by omega,by rw[zV,zV];show _<=1000*(2*((ts.length+1:Nat):Int)+2*((es.length+r.length:Nat):Int));omega⟩
  rcases qT.mp he with z | z
  ·exact i1 e z
  ·obtain⟨fnd,a,b⟩:=t
   exact⟨b.gd a.gd e z,ok e z⟩
theorem zfF{J:Job}{ord:List Nat}(jo:JobOk J ord):∀{es:List Ev},(∀e∈es,EvG J e)->Dat.blks (es.map evD)<=10*(zK zB es).length+19*((zK zI es).length+(zK ["laid"] es).length)
 | [],_=>qe _
 | e::es,h=>by
  have ih:=zfF jo (es:=es) fun x hx=>h x (jv _ hx)
  obtain⟨_,hk⟩:=h e j8
  show(evD e).blk+1+Dat.blks (es.map evD)<=_
  rw[show e::es=[e]++es from rfl,zG,zG,zG,zV,zV,zV]
  cases e with
  | picked p f=>
   rw[xA (ws:=zB) (e:=.picked p f) (show("picked" : Str)∈zB by decide)]
   have:(evD (.picked p f)).blk=9:=rfl
   rw[this]
   show 9+1+_<=10*(1+_)+_
   omega
  | missed p f=>
   rw[xA (ws:=zB) (e:=.missed p f) (show("missed" : Str)∈zB by decide)]
   have:(evD (.missed p f)).blk=9:=rfl
   rw[this]
   show 9+1+_<=10*(1+_)+_
   omega
  | behind p=>
   rw[xA (ws:=zI) (e:=.behind p) (show("behind" : Str)∈zI by decide)]
   have:(evD (.behind p)).blk=8:=rfl
   rw[this]
   show 8+1+_<=_+19*(1+_+_)
   omega
  | none p=>
   rw[xA (ws:=zI) (e:=.none p) (show("none" : Str)∈zI by decide)]
   have:(evD (.none p)).blk=6:=rfl
   rw[this]
   show 6+1+_<=_+19*(1+_+_)
   omega
  | failed p=>
   rw[xA (ws:=zI) (e:=.failed p) (show("failed" : Str)∈zI by decide)]
   have:(evD (.failed p)).blk=8:=rfl
   rw[this]
   show 8+1+_<=_+19*(1+_+_)
   omega
  | dropped p=>
   rw[xA (ws:=zI) (e:=.dropped p) (show("dropped" : Str)∈zI by decide)]
   have:(evD (.dropped p)).blk=9:=rfl
   rw[this]
   show 9+1+_<=_+19*(1+_+_)
   omega
  | laid p k x y=>
   obtain⟨pa,hpa,rfl⟩:=hk p k x y rfl
   rw[xA (ws:=["laid"]) (e:=.laid p pa.k x y) (show("laid" : Str)∈(["laid"]:List Str) by decide)]
   have nb:=WO (jo.pa pa hpa).1
   show(4+1+(0+1+(Dat.blk (.str pa.k)+1+(0+1+(0+1+0)+1+0))))+1+_<=_+19*(_+(1+_))
   omega
theorem Z8{α:Type}{f:α->Dat}{k:Nat}:∀{l:List α},(∀a∈l,(f a).gd k=true)->Dat.gds k (l.map f)=true
 | [],_=>rfl
 | a::l,h=>by
  show((f a).gd k&&Dat.gds k (l.map f))=true
  rw[h a (by simp),Z8 fun b hb=>h b (jv _ hb)]
  rfl
theorem ig{i:Int}{k:Nat}(h:i.natAbs<=10000000000):Dat.gd k (.int i)=true:=qQ (by omega)
theorem zhV{J:Job}{ord:List Nat}(jo:JobOk J ord){e:Ev}(h:EvG J e)(o:vX J e):(evD e).gd 0=true:=by
 have pl:=jo.pl
 have fl:=jo.fl
 obtain⟨h1,h2⟩:=h
 have one:∀{w:Str} {p:Nat},p<J.ps.length->Dat.gd 0 (.str w)=true->Dat.gd 0 (.tup [.str w,.int (p:Int)])=true:=fun hp hw=>by
  show(Dat.gd 0 (.str _)&&(Dat.gd 0 (.int _)&&true))=true
  rw[hw,ig (by omega)]
  rfl
 have two:∀{w:Str} {p f:Nat},p<J.ps.length->f<J.fs.length->Dat.gd 0 (.str w)=true->Dat.gd 0 (.tup [.str w,.int (p:Int),.int (f:Int)])=true:=fun hp hf hw=>by
  show(Dat.gd 0 (.str _)&&(Dat.gd 0 (.int _)&&(Dat.gd 0 (.int _)&&true)))=true
  rw[hw,ig (by omega),ig (by omega)]
  rfl
 cases e with
 | picked p f=>exact two h1 (o.tr (show("picked" : Str)∈zB by decide)) (show Dat.gd 0 (.str "picked")=true by decide)
 | missed p f=>exact two h1 (o.tr (show("missed" : Str)∈zB by decide)) (show Dat.gd 0 (.str "missed")=true by decide)
 | behind p=>exact one h1 (show Dat.gd 0 (.str "behind")=true by decide)
 | none p=>exact one h1 (show Dat.gd 0 (.str "none")=true by decide)
 | failed p=>exact one h1 (show Dat.gd 0 (.str "failed")=true by decide)
 | dropped p=>exact one h1 (show Dat.gd 0 (.str "dropped")=true by decide)
 | laid p k x y=>
  obtain⟨pa,hpa,rfl⟩:=h2 p k x y rfl
  have hl:=o.ly
  have nm:=(jo.pa pa hpa).1
  have hs:Dat.gd 0 (.str pa.k)=true:=WN nm
  obtain⟨a1,a2,a3,a4⟩:0<=x/\x<=1000/\0<=y/\y<=1000:=hl
  have hp:p<J.ps.length:=h1
  show(Dat.gd 0 (.str "laid")&&(Dat.gd 0 (.int (p:Int))&&(Dat.gd 0 (.str pa.k)&&((Dat.gd 0 (.int x)&&(Dat.gd 0 (.int y)&&true))&&true))))=true
  rw[hs,ig (i:=(p:Int)) (by omega),ig (i:=x) (by omega),ig (i:=y) (by omega)]
  decide
theorem zgO(e:Ev):(evD e).py.depth<=3:=by
 cases e<;>simp[evD,Ev.w,Ev.p,Ev.r,Dat.py,Dat.pys,PyData.depth,PyData.depthAll]
theorem zf2{J:Job}{bs:List Bool}{m:Nat}{ts:List jr}{es:List Ev}{w:Int}{ls gs:List Int}(c:CaseOk J ts)(m5:m<=5)(r:RunAt J bs m ts es w ls gs):GdD 0 5000 5 (yC es ls gs w):=by
 obtain⟨ord,jo⟩:=c.jo
 obtain⟨os,pm,po⟩:=c.po
 obtain⟨g1,g2,g3⟩:=r.run.gd jo.jin
 obtain⟨c1,c2⟩:=r.run.counts fun t ht=>by
  obtain⟨x,hx,rfl⟩:=qB.mp ht
  exact zaB (Z7 pm po.sub) x hx
 rw[Qd] at c1 c2
 have few:=c.few.2
 have tl:=po.len
 have c3:spent es<=360:=by
  have:(m+1)*(vo ts).length<=6*60:=Nat.mul_le_mul (by omega) few
  omega
 unfold spent at c3
 have el:=r.el
 have ll:=r.pl.length_eq
 have gl:=r.pg.length_eq
 rw[zq] at ll gl g3
 have pl60:=jo.pl
 have inP:∀{ws:List Str} {l:List Int},l.Perm ((zK ws es).map fun e=>(e.p:Int))->∀z∈l,Dat.gd 0 (.int z)=true:=fun h z hz=>by
  obtain⟨e,he,rfl⟩:=qB.mp (h.mem_iff.mp hz)
  have:=(g1 e (jn.mp he).1).1.1
  exact ig (by omega)
 have bi:∀l:List Int,Dat.blks (l.map Dat.int)<=(0+1)*l.length:=fun l=>xD (f:=Dat.int) (c:=0) fun _ _=>zJ _
 refine⟨?_,?_,?_⟩
 ·show(Dat.gds 0 (es.map evD)&&(Dat.gds 0 (ls.map Dat.int)&&(Dat.gds 0 (gs.map Dat.int)&&(Dat.gd 0 (.int w)&&true))))=true
  rw[Z8 fun e he=>zhV jo (g1 e he).1 (g1 e he).2,Z8 (inP r.pl),Z8 (inP r.pg),ig (by omega)]
  rfl
 ·have h1:=zfF jo fun e he=>(g1 e he).1
  have h2:=bi ls
  have h3:=bi gs
  show Dat.blks (es.map evD)+1+(Dat.blks (ls.map Dat.int)+1+(Dat.blks (gs.map Dat.int)+1+(0+1+0)))<=5000
  omega
 ·have h1:=jZ (f:=evD) (c:=3) zgO es
  have h2:=jZ (f:=Dat.int) (c:=1) (fun p=>by show PyData.depth (.int p)<=1;simp[PyData.depth]) ls
  have h3:=jZ (f:=Dat.int) (c:=1) (fun p=>by show PyData.depth (.int p)<=1;simp[PyData.depth]) gs
  show PyData.depth (.tuple [.list (Dat.pys (es.map evD)),.list (Dat.pys (ls.map Dat.int)),.list (Dat.pys (gs.map Dat.int)),.int w])<=5
  simp only[PyData.depth,PyData.depthAll]
  omega
theorem zcG{J:Job}{bs:List Bool}{m:Nat}{ts:List jr}{es:List Ev}{w:Int}{ls gs:List Int}(c:CaseOk J ts)(r:RunAt J bs m ts es w ls gs):Dat.ok 4 (yC es ls gs w):=by
 obtain⟨os,pm,po⟩:=c.po
 have z1:=(r.run.counts fun t ht=>by
  obtain⟨x,hx,rfl⟩:=qB.mp ht
  exact zaB (Z7 pm po.sub) x hx).1
 rw[Qd] at z1
 have few:=c.few.2
 have ll:=r.pl.length_eq
 have gl:=r.pg.length_eq
 have el:=r.el
 rw[zq] at ll gl
 exact zf1 (by omega) (by omega) (by omega)
def yj(J:Job)(ts:List jr)(bs:List Bool)(d:Dat):Dat:=.lst [xo J,zav ts,lkD bs,d]
theorem zdk{J:Job}{ts:List jr}{bs:List Bool}{d:Dat}{k z D:Nat}(c:CaseOk J ts)(hb:bs.length<=400)(g:GdD k z D d)(hk:k<=1000)(hz:z<=990000)(hD:D<=40):(yj J ts bs d).shw=true/\(yj J ts bs d).blk<=1048576/\(yj J ts bs d).py.depth<=60:=by
 have h1:=zdj c bs
 have h2:=Dat.gd_shw hk g.g
 have h3:(xo J).blk+1+(Dat.blks (ts.map xt)+1+(Dat.blks (bs.map Dat.bl)+1+0))<=40000:=by
  obtain⟨ord,jo⟩:=c.jo
  obtain⟨os,pm,po⟩:=c.po
  have h1:=zeM jo
  have h2:=xD (f:=xt) (c:=100) (l:=ts) fun t ht=>by
   obtain⟨l1,l2,_,_⟩:=XL c t ht
   have h3:=xD (f:=jP) (c:=5) (l:=t.pk) fun p hp=>by
    show 0+1+(0+1+0)<=5
    decide
   have h4:=xD (f:=Jl) (c:=5) (l:=t.ly) fun p hp=>by
    show 0<=5
    decide
   show Dat.blks (t.pk.map jP)+1+(Dat.blks (t.ly.map Jl)+1+0)<=100
   omega
  have h5:=xD (f:=Dat.bl) (c:=5) (l:=bs) fun b _=>by
   show 0<=5
   decide
  have tl:=po.len
  omega
 have gb:=g.b
 have gp:=g.p
 refine⟨?_,?_,?_⟩
 ·have h4:((xo J).shw&&(Dat.shws (ts.map xt)&&(Dat.shws (bs.map Dat.bl)&&true)))=true:=h1
  rw[jG,jG,jG] at h4
  show((xo J).shw&&(Dat.shws (ts.map xt)&&(Dat.shws (bs.map Dat.bl)&&(d.shw&&true))))=true
  rw[h4.1,h4.2.1,h4.2.2.1,h2]
  rfl
 ·show(xo J).blk+1+(Dat.blks (ts.map xt)+1+(Dat.blks (bs.map Dat.bl)+1+(d.blk+1+0)))<=1048576
  omega
 ·have h1:=zeL J
  have h2:=zcO ts
  have h3:=jZ (f:=Dat.bl) (c:=10) (fun p=>by
   show PyData.depth (.bool p)<=10
   simp[PyData.depth]) bs
  show PyData.depth (.list [(xo J).py,(zav ts).py,.list (Dat.pys (bs.map Dat.bl)),d.py])<=60
  simp only[PyData.depth,PyData.depthAll]
  omega
theorem zcQ{r:Int}(h0:0<=r)(h1:r<4):∃z:Nat,atI [V.int 0,V.int 1,V.int 1,V.int 2] r=some (.int (z:Int))/\z<=2:=by
 have hc:r=0\/r=1\/r=2\/r=3:=by omega
 rcases hc with rfl | rfl | rfl | rfl
 ·exact⟨0,rfl,by decide⟩
 ·exact⟨1,rfl,by decide⟩
 ·exact⟨1,rfl,by decide⟩
 ·exact⟨2,rfl,by decide⟩
theorem zaX{H:Hp}{b l:Addr}{n:Int}{xs:List V}(h:BoxAt H b n)(e:H l=some (.lst xs))(hx:∀x∈xs,∀i,x≠.int i):l≠b:=fun z=>by
 obtain⟨b0,b1,b2,e2,_⟩:=h
 rw[z,e2] at e
 cases e
 exact hx _ j8 _ rfl
theorem CaseAt.nb{H:Hp}{b jp pl lk:Addr}{n:Int}{J:Job}{ts:List jr}{bs:List Bool}{m:Nat}(c:CaseAt K H jp pl lk J ts bs m)(B:BoxAt H b n):pl≠b/\lk≠b:=by
 obtain⟨tr,h1,h2⟩:=c.rp
 refine⟨zaX B h1 fun x hx i z=>?_,zaX B c.hl fun x hx i z=>?_⟩
 ·obtain⟨k,hk⟩:=List.mem_iff_getElem?.mp hx
  obtain⟨d,ed,rd⟩:=h2.get hk
  rw[qr] at ed
  obtain⟨t,_,rfl⟩:=jb.mp ed
  obtain⟨a,_,e,_⟩:=rd
  rw[z] at e
  cases e
 ·obtain⟨y,_,rfl⟩:=qB.mp hx
  cases z
theorem CaseAt.draw{H H':Hp}{b jp pl lk:Addr}{n:Int}{J:Job}{ts:List jr}{bs:List Bool}{m:Nat}(c:CaseAt K H jp pl lk J ts bs m)(B:BoxAt H b n)(S:SameB b H H'):CaseAt K H' jp pl lk J ts bs m:=by
 obtain⟨n1,n2⟩:=c.nb B
 obtain⟨tr,h1,h2⟩:=c.rp
 exact⟨c.rj.keep (SameT.draw B S) (vI J),c.jo,⟨tr,S _ _ h1 n1,h2.keep (SameT.draw B S) (j4 ts)⟩,c.po,S _ _ c.hl n2,c.bl,c.m1,c.m5⟩
theorem JN{H:Hp}{jp pl lk u:Addr}{v:V}{J:Job}{ts:List jr}{bs:List Bool}{m:Nat}{d:Dat}(c:CaseAt K H jp pl lk J ts bs m)(rd:Rep K H d v)(hu:H u=some (.lst [.ref jp,.ref pl,.ref lk,v])):Rep K H (yj J ts bs d) (.ref u):=by
 obtain⟨tr,h1,h2⟩:=c.rp
 exact⟨u,_,rfl,SqL.of hu,_,_,rfl,c.rj,_,_,rfl,⟨pl,tr,rfl,SqL.of h1,h2⟩,_,_,rfl,⟨lk,_,rfl,SqL.of c.hl,zap bs⟩,_,_,rfl,rd,rfl⟩
theorem zd8{H H1:Hp}{b T eo a c:Addr}{n:Int}{es:List Ev}{w:Int}{ls gs:List Int}(B:BoxAt H b n)(s:Same H H1)(hT:H1 T=some (.tup [.ref eo,.ref a,.ref c,.int w]))(he:Evs K H1 eo es)(ha:H1 a=some (.lst (ls.map V.int)))(hc:H1 c=some (.lst (gs.map V.int)))(fT:H T=none)(fe:H eo=none)(fa:H a=none)(fc:H c=none):Rep K (WX [b] H1) (yC es ls gs w) (.ref T):=by
 have at1:∀{x:Addr} {o:HO},H x=none->H1 x=some o->WX [b] H1 x=some o:=fun hn e=>WX.at (fun z=>B.nne hn (qo.mp z)) e
 obtain⟨xs,h1,h2⟩:=he
 have rx:Reps K (WX [b] H1) (es.map evD) xs:=h2.keep (fun x u e l1 _=>WX.at (fun z=>by
  rw[qo.mp z] at e
  obtain⟨b0,b1,b2,e2,_⟩:=B.same s
  rw[e2] at e
  cases e
  exact l1 _ rfl) e) (vp _)
 exact⟨T,_,rfl,SqT.of (at1 fT hT),_,_,rfl,⟨eo,xs,rfl,SqL.of (at1 fe h1),rx⟩,_,_,rfl,⟨a,_,rfl,SqL.of (at1 fa ha),wc ls⟩,_,_,rfl,⟨c,_,rfl,SqL.of (at1 fc hc),wc gs⟩,_,_,rfl,rfl,rfl⟩
inductive Vs(K:PySem.W.Frag)(vs:List V)(H:Hp)(Q:VK):Prop
 | mk (jp pl lk:Addr) (J:Job) (ts:List jr) (bs:List Bool) (m:Nat) (d:Dat) (f:V) (_:vs=[.ref jp,.ref pl,.ref lk,.int (m:Int),f]) (_:CaseAt K H jp pl lk J ts bs m) (_:Rep K H d f) (_:∀(es:List Ev) (w:Int) (ls gs:List Int) H',Same H H'->RunAt J bs m ts es w ls gs->Q (.bl (eqD d (yC es ls gs w))) H'):Vs K vs H Q
def WB(K:PySem.W.Frag):Sp:=fun vs H Q _=>Vs K vs H Q
theorem zcv:zF ["job", "plan", "luck", "tries", "thing"] ["job", "plan", "luck", "tries", "thing"] (zt (topL 26)):=⟨rfl,rfl,rfl,by decide +kernel,rfl,by decide +kernel,by decide +kernel⟩
theorem zes{f:Addr}{fd:FuncData}(F:Fun K "shows_run" "shows_run" (topL 26) f fd)(B:Blt mg)(Dis_same:Dfn P w K mg base "is_same" 9 ["thing", "told"] (zfT K 4))(Drun_plan:Dfn P w K mg base "run_plan" 7 ["job", "plan", "luck", "tries"] (zcf K)):qH P w K mg base CX0 10 f fd ["job", "plan", "luck", "tries", "thing"] (WB K):=by
 have nd:=zcv.nd
 refine F.ok zcv (fun vs H Q E h=>?_) (fun cdv A outer s H vs Q E hr h=>?_)
 ·obtain⟨jp,pl,lk,J,ts,bs,m,d,f,rfl,_⟩:=h
  rfl
 ·obtain⟨jp,pl,lk,J,ts,bs,m,d,f,rfl,c,rd,k⟩:=h
  refine⟨_,(zo (zE (zk Dis_same (hr.mono (by decide)) rfl (za (pv 4) (za (zk Drun_plan (hr.mono (by decide)) rfl (za (pv 0) (za (pv 1) (za (pv 2) (za (pv 3) ze))))) ze))))),?_⟩
  exact⟨_,rfl,_,rfl,_,rfl,_,rfl,_,rfl,zdF (E:=E0) c (SqL.of c.hl) fun T eo a b es w ls gs H1 s1 hT he ha hb ra _ _ _ _ _ _ _=>⟨d,yC es ls gs w,f,.ref T,rfl,rd.same s1,zd7 hT he ha hb,zcG c.ok ra,fun H2 s2=>k es w ls gs H2 (s1.trans s2) ra⟩⟩
theorem zhh:zF ["_law_box_here", "_law_job_here", "_law_plan_here", "_law_luck_here", "_law_tries", "_law_due", "_law_echo", "_law_thing", "_law_step", "_law_kept", "_law_found"] ["_law_box_here"] (zt (topL 56)):=⟨rfl,rfl,rfl,by decide +kernel,rfl,by decide +kernel,by decide +kernel⟩
def zf0{cdv:Value}{f:Addr}{A:Around}{outer:List Env}{s:Shared}{H:Hp}{E:XK}(B:Blt mg)(hr:Room 15 (A.deeper (envOfC "_law_right" (zt (topL 56)) s.heap.objs.size f cdv)))(D_take:Dfn P w K mg base "_law_take" 1 ["_law_box_here", "_law_size"] jW)(D_case:Dfn P w K mg base "_law_case" 5 ["_law_box_here"] (WE K))(D_run_due:Dfn P w K mg base "_law_run_due" 3 ["_law_job_here", "_law_plan_here", "_law_luck_here", "_law_tries"] (zac K))(D_spoilt:Dfn P w K mg base "_law_spoilt" 15 ["_law_box_here", "_law_thing"] (yA K 10))(Dshows_run:Dfn P w K mg base "shows_run" 10 ["job", "plan", "luck", "tries", "thing"] (WB K))(D_same:Dfn P w K mg base "_law_same" 5 ["_law_found", "_law_due"] (spE K 5))(nd:(["_law_box_here", "_law_job_here", "_law_plan_here", "_law_luck_here", "_law_tries", "_law_due", "_law_echo", "_law_thing", "_law_step", "_law_kept", "_law_found"]:List Str).Nodup):{ t:TS // PSs (Wg CX0 P w K mg base ["_law_box_here", "_law_job_here", "_law_plan_here", "_law_luck_here", "_law_tries", "_law_due", "_law_echo", "_law_thing", "_law_step", "_law_kept", "_law_found"] "_law_right" (zt (topL 56)) f cdv A outer s H E).nox (vq (topL 56)) t }:=
 have hu:=hr.units0
 have hu64:=hr.units
 have hg:=hr.gd
 ⟨_,(zg (xj (zk D_case (hr.mono (by decide)) rfl (za (pv 0) ze)) (xm rfl (zT (zy (i:=1) nd rfl (Or.inl rfl)) (zT (zy (i:=2) nd rfl (Or.inl rfl)) (zT (zy (i:=3) nd rfl (Or.inl rfl)) (zT (zy (i:=4) nd rfl (Or.inl rfl)) jN))))))
     (zg (zC (i:=5) nd rfl (Or.inl rfl) (zk D_run_due (hr.mono (by decide)) rfl (za (pv 1) (za (pv 2) (za (pv 3) (za (pv 4) ze))))))
     (zg (qW ju rfl (qz rfl B.range (za zf ze)) (zy (i:=6) nd rfl (Or.inl rfl))
     (zg (zC (i:=7) nd rfl (Or.inl rfl) (pv 5))
      (zg (qW ju rfl (qz rfl B.range (za (zu zS (zN (za zf (za zf (za zf (za zf ze))))) (zk D_take (hr.mono (by decide)) rfl (za (pv 0) (za zf ze))) (fun _ _=>rfl)) ze)) (zy (i:=8) nd rfl (Or.inl rfl))
      (zo (zC (i:=7) nd rfl (Or.inl rfl) (zk D_spoilt (hr.mono (by decide)) rfl (za (pv 0) (za (pv 7) ze))))))
      (zg (zC (i:=9) nd rfl (Or.inl rfl) (zp (QM hg hu64) rfl B.repr JZ (za (zN (za (pv 1) (za (pv 2) (za (pv 3) (za (pv 7) ze))))) ze)))
      (zg (zC (i:=10) nd rfl (Or.inl rfl) (zk Dshows_run (hr.mono (by decide)) rfl (pa5 (pv 1) (pv 2) (pv 3) (pv 4) (pv 7))))
      (zo (je (PW.pt (Qn (Xm (jD (zk D_same (hr.mono (by decide)) rfl (za (pv 10) (za (zk D_same (hr.mono (by decide)) rfl (za (pv 7) (za (pv 5) ze))) ze))))) (Zf (zO zcY (zp (QM hg hu64) rfl B.repr JZ (za (zN (za (pv 1) (za (pv 2) (za (pv 3) (za (pv 7) ze))))) ze)) (pv 9) (zQ _)))))
      (zo (zE yI))
      qI)))))))
     (zo (zE yI)))))⟩
def zOf:Nat->Nat
 | 0=>5000
 | j+1=>(4*zOf j+20)+10*(zOf j+2)
inductive Jy(vs:List V)(H:Hp)(Q:VK):Prop
 | mk (b:Addr) (n:Int) (_:vs=[.ref b]) (_:BoxAt H b n) (_:n<1000) (_:∀H',SameB b H H'->Q (.bl true) H'):Jy  vs H Q
def YU:Sp:=fun vs H Q _=>Jy  vs H Q
def zbk(b:_)(jp:_)(pl:_)(lk:_)(m:Nat)(Td:_)(H2:_)(n:_):=fun(i:Nat) (σ:St) (H3:Hp)=>(Ex5 fun(v6 v7 v8 v9 v10:Option V)=>An3 (σ=[some (.ref b),some (.ref jp),some (.ref pl),some (.ref lk),some (.int (m:Int)),some (.ref Td),v6,v7,v8,v9,v10]) (SameB b H2 H3) (BoxAt H3 b (n+6000+300*(i:Int))):Prop)
def zbj(b:_)(jp:_)(pl:_)(lk:_)(m:Nat)(Td:_)(i:Nat)(v9:_)(v10:_)(K:_)(H2:_)(n:_):=fun(j:Nat) (σ:St) (H5:Hp)=>(Ex2 fun(v8:Option V) (v:V)=>An4 (σ=[some (.ref b),some (.ref jp),some (.ref pl),some (.ref lk),some (.int (m:Int)),some (.ref Td),some (.int (0+(i:Int))),some v,v8,v9,v10]) (DS K (WX [b] H5) j (zOf j) (5+4*j) v) (SameB b H2 H5) (BoxAt H5 b (n+6000+300*(i:Int)+1+100*(j:Int))):Prop)
theorem zhx{f:Addr}{fd:FuncData}(F:Fun K "_law_right" "_law_right" (topL 56) f fd)(B:Blt mg)(D_take:Dfn P w K mg base "_law_take" 1 ["_law_box_here", "_law_size"] jW)(D_case:Dfn P w K mg base "_law_case" 5 ["_law_box_here"] (WE K))(D_run_due:Dfn P w K mg base "_law_run_due" 3 ["_law_job_here", "_law_plan_here", "_law_luck_here", "_law_tries"] (zac K))(D_spoilt:Dfn P w K mg base "_law_spoilt" 15 ["_law_box_here", "_law_thing"] (yA K 10))(Dshows_run:Dfn P w K mg base "shows_run" 10 ["job", "plan", "luck", "tries", "thing"] (WB K))(D_same:Dfn P w K mg base "_law_same" 5 ["_law_found", "_law_due"] (spE K 5)):qH P w K mg base CX0 16 f fd ["_law_box_here"] YU:=by
 have nd:=zhh.nd
 refine F.ok zhh (fun vs H Q E h=>?_) (fun cdv A outer s H vs Q E hr h=>?_)
 ·obtain⟨b,n,rfl,_⟩:=h
  rfl
 ·obtain⟨b,n,rfl,B0,hn,k⟩:=h
  have hbig:1000000<sizeLine:=by rw[sizeLine_eq];decide
  have e62:(2:Int)^62=4611686018427387904:=by decide
  refine⟨_,(zf0 B hr D_take D_case D_run_due D_spoilt Dshows_run D_same nd).2,?_⟩
  refine⟨_,rfl,b,n,rfl,B0,by omega,fun T0 jp pl lk J ts bs m H1 S1 B1 hT0 c1=>⟨T0,_,rfl,SqT.of hT0,rfl,_,_,rfl,_,_,rfl,_,_,rfl,_,_,rfl,rfl,?_⟩⟩
  refine⟨_,rfl,_,rfl,_,rfl,_,rfl,zdG (E:=E0) c1 fun Td ed ad bd es w ls gs H2 s2 hTd hed had hbd ra fT fe fa fb=>?_⟩
  have B2:=B1.same s2
  have c2:=c1.same s2
  have rD:=zd8 (K:=K) B1 s2 hTd hed had hbd fT fe fa fb
  have gD:=zf2 c1.ok c1.m5 ra
  have rok:=zcG c1.ok ra
  have E2:Ex H2 b [b]:=⟨qo.mpr rfl,fun e he=>by rw[qo.mp he];exact B2.some⟩
  have z0:zOf 0=5000:=rfl
  have z1:zOf 1=70040:=rfl
  have z2:zOf 2=980600:=rfl
  refine⟨12,rfl,by rw[e62];decide,by rw[e62];decide,jc (zbk b jp pl lk m Td H2 n) ⟨_,_,_,_,_,rfl,SameB.refl b H2,B2.mono (by omega)⟩ ?_ ?_⟩
  ·rintro i σ H3 hi ⟨v6,v7,v8,v9,v10,rfl,S3,B3⟩
   have hi2:i<12:=hi
   refine⟨_,rfl,le4,fun q hq=>⟨_,rfl,b,4,_,rfl,B3.new hq,by omega,by decide,by decide,fun r H4 r0 r1 B4 S4=>?_⟩⟩
   have qb:=B3.nne hq
   obtain⟨z,ez,hz2⟩:=zcQ r0 r1
   have S4':=(S3.new (o:=.lst [.int 0,.int 1,.int 1,.int 2]) hq).trans S4
   refine⟨q,_,_,_,rfl,rfl,SqL.of (S4 _ _ zb qb),ez,(z:Int),rfl,by rw[e62];omega,by rw[e62];omega,?_⟩
   have ezn:((z:Int)).toNat=z:=vf z
   refine jc (zbj b jp pl lk m Td i v9 v10 K H2 n) ⟨_,.ref Td,rfl,⟨_,rD.same (WX.draw (qo.mpr rfl) S4'),gD⟩,S4',B4.mono (by omega)⟩ ?_ ?_
   ·rintro j σ H5 hj ⟨v8,v,rfl,dv,S5,B5⟩
    rw[ezn] at hj
    have zj:zOf j<=100000:=by
     rcases(by omega:j=0\/j=1) with rfl | rfl
     ·rw[z0];decide
     ·rw[z1];decide
    refine⟨_,rfl,_,rfl,b,v,_,j,zOf j,5+4*j,[b],rfl,B5,(by show n+6000+300*(i:Int)+1+100*(j:Int)+10*((9:Int)+1)<1099510000000;omega),E2.next S5 B5,dv,zj,by omega,(by show 5+4*j<=9;omega),by decide,fun v' H6 S6 B6 dv'=>⟨_,v',rfl,dv'.up (Same.refl _) (zJ _) (zJ _) (by omega),S5.trans S6,B6.mono (by show n+6000+300*(i:Int)+1+100*(j:Int)+8*((9:Int)+1)<=_;omega)⟩⟩
   rintro σ H5 ⟨v8,v,rfl,dv,S5,B5⟩
   rw[ezn] at dv B5
   have zz:zOf z<=990000:=by
    rcases(by omega:z=0\/z=1\/z=2) with rfl | rfl | rfl
    ·rw[z0];decide
    ·rw[z1];decide
    ·rw[z2];decide
   obtain⟨d,rd,gd⟩:=dv
   have rd5:=rd.same WX.le
   have c5:=c2.draw B2 S5
   have rD5:=rD.same ((WX.draw (qo.mpr rfl) S5).trans WX.le)
   obtain⟨shw,blk,dep⟩:=zdk c1.ok c1.bl gd (by omega) zz (by omega)
   refine⟨_,rfl,_,rfl,_,rfl,_,rfl,le4,fun u hu=>⟨_,yj J ts bs d,rfl,JN (c5.same (zd hu)) (rd5.same (zd hu)) zb,shw,blk,dep,?_⟩⟩
   generalize hkept:(yj J ts bs d).py.shown=kept
   have s6:=zd (H:=H5) (o:=.lst [.ref jp,.ref pl,.ref lk,v]) hu
   generalize upd H5 u (.lst [.ref jp,.ref pl,.ref lk,v])=H6 at s6 ⊢
   refine⟨_,rfl,_,rfl,_,rfl,_,rfl,_,rfl,jp,pl,lk,J,ts,bs,m,d,v,rfl,c5.same s6,rd5.same s6,fun es2 w2 ls2 gs2 H7 s7 r2=>?_⟩
   have er:=ra.same r2 fun s _=>rfl
   rw[er]
   have s67:=s6.trans s7
   refine⟨_,rfl,_,rfl,_,rfl,d,yC es ls gs w,v,.ref Td,rfl,rd5.same s67,rD5.same s67,rok,fun H8 s8=>⟨.bl (eqD d (yC es ls gs w)),.bl (eqD d (yC es ls gs w)),_,_,rfl,rfl,rfl,trivial,fun H9 s9=>⟨_,rfl,ifF ?_ ?_⟩⟩⟩
   ·show(!(eqD d (yC es ls gs w)==eqD d (yC es ls gs w)))=false
    rw[beq_self_eq_true]
    rfl
   have s69:=s67.trans (s8.trans s9)
   refine⟨_,rfl,_,rfl,_,rfl,_,rfl,le4,fun u2 hu2=>⟨_,yj J ts bs d,rfl,JN ((c5.same s69).same (zd hu2)) ((rd5.same s69).same (zd hu2)) zb,shw,blk,dep,_,rfl,rfl,_,rfl,ifF (by rw[hkept,qQ rfl];rfl) ⟨_,_,_,_,_,rfl,S5.trans (SameB.of (s69.trans (zd hu2))),((B5.same s69).new hu2).mono (by omega)⟩⟩⟩
  ·rintro σ H3 ⟨v6,v7,v8,v9,v10,rfl,S3,B3⟩
   exact k _ (S1.trans ((SameB.of s2).trans S3))
inductive Y7(K:PySem.W.Frag)(vs:List V)(H:Hp)(Q:VK):Prop
 | mk (a:Addr) (ns:List Int) (_:vs=[.ref a]) (_:SqL K H a (ns.map V.int)) (_:ns.length<=63) (_:∀H',Q (.bl true) H'):Y7 K vs H Q
def spLaw(K:PySem.W.Frag):Sp:=fun vs H Q _=>Y7 K vs H Q
theorem zfp:zF ["_law_script", "_law_cells"] ["_law_script"] (zt (topL 57)):=⟨rfl,rfl,rfl,by decide +kernel,rfl,by decide +kernel,by decide +kernel⟩
theorem zgs{f:Addr}{fd:FuncData}(F:Fun K "law" "law" (topL 57) f fd)(B:Blt mg)(D_folded:Dfn P w K mg base "_law_folded" 1 ["_law_script", "_law_size"] (zcn K))(D_box:Dfn P w K mg base "_law_box" 1 ["_law_script", "_law_k"] (zfe K))
  (D_right:Dfn P w K mg base "_law_right" 16 ["_law_box_here"] YU):qH P w K mg base CX0 17 f fd ["_law_script"] (spLaw K):=by
 have nd:=zfp.nd
 refine F.ok zfp (fun vs H Q E h=>?_) (fun cdv A outer s H vs Q E hr h=>?_)
 ·obtain⟨a,ns,rfl,_⟩:=h
  rfl
 ·obtain⟨a,ns,rfl,hS,hlen,k⟩:=h
  refine⟨_,(zg (zC (i:=1) nd rfl (Or.inr rfl) (zk D_folded (hr.mono (by decide)) rfl (za (pv 0) (za zf ze))))
   (zo (zE (zp (Zr rfl) rfl B.all boot_all (za (xa ["_law_cells"] [1] rfl rfl (by kernel_rfl) (qz rfl B.range (za (zp (Zq rfl) rfl B.max QN (za zf (za (zp zL rfl B.len boot_len (za (pv 1) ze)) ze))) ze)) (fun _ _ _ _=>jw) (fun _ _ _ _=>(zk D_right (hr.mono (by decide)) rfl (za (zk D_box (hr.mono (by decide)) rfl (za (pv 1) (za (pv 0) ze))) ze)))) ze))))),?_⟩
  refine⟨_,rfl,a,ns,3,rfl,hS,hlen,by decide,by decide,fun p ms H1 s1 hp hm=>?_⟩
  have e62:(2:Int)^62=4611686018427387904:=by decide
  have hl:(ms.map V.int).length<=3:=by rw[zq];exact hm
  refine⟨_,rfl,p,_,rfl,.inl hp,_,_,rfl,_,rfl,(by rw[e62];split<;>omega),(by rw[e62];split<;>omega),?_⟩
  have hN:(if((ms.map V.int).length:Int)>2 then((ms.map V.int).length:Int) else 2).toNat<=8:=by split<;>omega
  have hbig:100<sizeLine:=by rw[sizeLine_eq];decide
  refine yL (fun i zs H2=>zs=List.replicate i (V.bl true)/\Same H1 H2) ⟨rfl,Same.refl _⟩ ?_ ?_
  ·rintro i zs H2 hi ⟨rfl,sm⟩
   rw[XT]
   refine⟨rfl,?_⟩
   refine⟨_,rfl,_,rfl,p,ms,i,rfl,sm.seq hp,by omega,fun q o hq Bq=>⟨q,0,rfl,Bq,by decide,fun H3 s3=>⟨?_,?_,fun c u e=>?_⟩⟩⟩
   ·rw[Vc];omega
   ·rw[List.replicate_succ']
   ·exact s3 c u ((zd hq) c u (sm c u e)) (zn (sm c u e) hq)
  ·rintro zs H2 ⟨rfl,sm⟩
   refine⟨by rw[Vc];omega,fun D hD=>⟨D,List.replicate (if((ms.map V.int).length:Int)>2 then((ms.map V.int).length:Int) else 2).toNat true,rfl,?_,?_⟩⟩
   ·refine SqL.of ?_
    rw[zb,List.map_replicate]
   ·have:=k (upd H2 D (.lst (List.replicate (if((ms.map V.int).length:Int)>2 then((ms.map V.int).length:Int) else 2).toNat (V.bl true))))
    simpa using this
end
theorem all_mk{l:PySem.W.OpenLaw}{w:World}{K:PySem.W.Frag}{h:Heap}{mg:Str->Option Value}{fa:Addr}(X:K.In h)(e:zeG W5 zbT zbs K=zeR W5 zbT zbs)(G:h.Ns mainGlobals mg)(hfa:mg "law" = some (.ref fa)) :
  ∃fd:FuncData,(∀(s:Shared) (v:Value),BindsTo s fd ⟨[v],[]⟩ [("_law_script",v)])/\∀base:Heap,K.In base->base.Ns mainGlobals mg->qH l.prog w K mg base CX0 17 fa fd ["_law_script"] (spLaw K):=by
 have Z0:Tp l.prog w K mg h h W5 zbT zbs:=⟨X,G,e⟩
 have B:Blt mg:=⟨Z0.bl 0 rfl,Z0.bl 1 rfl,Z0.bl 2 rfl,Z0.bl 3 rfl,Z0.bl 4 rfl,Z0.bl 5 rfl,Z0.bl 6 rfl,Z0.bl 7 rfl,Z0.bl 8 rfl,Z0.bl 9 rfl,Z0.bl 10 rfl,Z0.bl 11 rfl,Z0.bl 12 rfl,Z0.bl 13 rfl,Z0.bl 14 rfl,Z0.bl 15 rfl,Z0.bl 16 rfl,Z0.bl 17 rfl,Z0.bl 18 rfl,Z0.bl 19 rfl⟩
 obtain⟨f,fd,a,F⟩:=Z0.fd 50 rfl
 cases hfa.symm.trans (PySem.W.mg_of X G a)
 refine⟨fd,?_,fun base _ _=>?_⟩
 ·obtain⟨_,_,_,_,_,_,_,_,_,rfl,_,_⟩:=F.ex
  exact fun s v=>.of_eq rfl
 have Z:Tp l.prog w K mg base h W5 zbT zbs:=⟨X,G,e⟩
 obtain⟨t0,g_TRIED,M_TRIED⟩:=Z.tx 0 rfl
 have M_TRIED:TxG K t0 [("picked" : Str),("missed" : Str)]:=⟨M_TRIED⟩
 obtain⟨t1,g_GIVEN_UP,M_GIVEN_UP⟩:=Z.tx 1 rfl
 have M_GIVEN_UP:TxG K t1 [("behind" : Str),("none" : Str),("failed" : Str),("dropped" : Str)]:=⟨M_GIVEN_UP⟩
 have D_way_between:=Z.dfn 0 rfl fun _ _ F _ _=>zgi F B
 have D_length_of:=Z.dfn 1 rfl fun _ _ F _ _=>zgq F B D_way_between
 have D_turned:=Z.dfn 2 rfl fun _ _ F _ _=>zc1 F B
 have D_next_by:=Z.dfn 3 rfl fun _ _ F _ _=>zex F B
 have D_steps_from:=Z.dfn 4 rfl fun _ _ F _ _=>zc2 F B
 have D_all_from:=Z.dfn 5 rfl fun _ _ F _ _=>zgy F B D_steps_from
 have D_ahead_of:=Z.dfn 6 rfl fun _ _ F _ _=>zc9 F B D_turned D_next_by D_all_from
 have D_feeders_for:=Z.dfn 7 rfl fun _ _ F _ _=>zgu F B
 have D_events_of:=Z.dfn 10 rfl fun _ _ F _ _=>zgv F B
 have D_parts_of:=Z.dfn 11 rfl fun _ _ F _ _=>zgn F B D_events_of
 have D_is_lost:=Z.dfn 12 rfl fun _ _ F _ _=>zeA F B (g_GIVEN_UP) (M_GIVEN_UP) D_parts_of D_ahead_of
 have D_next_feeder:=Z.dfn 13 rfl fun _ _ F _ _=>zhz F B (g_TRIED) (M_TRIED) D_events_of D_feeders_for
 have D_is_lucky:=Z.dfn 14 rfl fun _ _ F _ _=>zez F B (g_TRIED) (M_TRIED) D_events_of
 have D_pick_events:=Z.dfn 15 rfl fun _ _ F _ _=>zeu F B D_is_lost D_next_feeder D_is_lucky
 have D_lay_event:=Z.dfn 16 rfl fun _ _ F _ _=>zgr F B D_is_lost
 have D_trip_events:=Z.dfn 17 rfl fun _ _ F _ _=>zgm F B D_pick_events D_parts_of D_lay_event
 have D_way_by:=Z.dfn 18 rfl fun _ _ F _ _=>zeo F B (g_TRIED) (M_TRIED) D_events_of D_length_of
 have D_run_plan:=Z.dfn 19 rfl fun _ _ F _ _=>zgl F B (g_GIVEN_UP) (M_GIVEN_UP) D_trip_events D_way_by D_parts_of
 have D_are_same:=Z.dfn 8 rfl fun _ _ F _ _=>zeE F B
 have D_is_same:=Z.dfn 9 rfl fun _ _ F _ _=>Qu F B (0) D_are_same
 have D_are_same:=Z.dfn 8 rfl fun _ _ F _ _=>Xw F B (0) D_is_same
 have D_is_same:=Z.dfn 9 rfl fun _ _ F _ _=>Qu F B (1) D_are_same
 have D_are_same:=Z.dfn 8 rfl fun _ _ F _ _=>Xw F B (1) D_is_same
 have D_is_same:=Z.dfn 9 rfl fun _ _ F _ _=>Qu F B (2) D_are_same
 have D_are_same:=Z.dfn 8 rfl fun _ _ F _ _=>Xw F B (2) D_is_same
 have D_is_same:=Z.dfn 9 rfl fun _ _ F _ _=>Qu F B (3) D_are_same
 have D_are_same:=Z.dfn 8 rfl fun _ _ F _ _=>Xw F B (3) D_is_same
 have D_is_same:=Z.dfn 9 rfl fun _ _ F _ _=>Qu F B (4) D_are_same
 have D_shows_run:=Z.dfn 20 rfl fun _ _ F _ _=>zes F B D_is_same D_run_plan
 have D_law_box:=Z.dfn 21 rfl fun _ _ F _ _=>zgx F B
 have D_law_take:=Z.dfn 22 rfl fun _ _ F _ _=>zeq F B
 have D_law_folded:=Z.dfn 23 rfl fun _ _ F _ _=>zeB F B
 have D_law_same:=Z.dfn 24 rfl fun _ _ F m b=>zay F B m b 5
 have D_law_spelled:=Z.dfn 25 rfl fun _ _ F _ _=>zc3 F B
 have D_law_name:=Z.dfn 26 rfl fun _ _ F _ _=>zgp F B D_law_take D_law_spelled
 have D_law_names:=Z.dfn 27 rfl fun _ _ F _ _=>zc7 F B D_law_name
 have D_law_place:=Z.dfn 28 rfl fun _ _ F _ _=>zc4 F B D_law_take
 have D_law_places:=Z.dfn 29 rfl fun _ _ F _ _=>zbA F B D_law_place
 have D_law_shuffled:=Z.dfn 30 rfl fun _ _ F _ _=>zer F B D_law_take
 have D_law_feeders:=Z.dfn 31 rfl fun _ _ F _ _=>zeC F B D_law_take D_law_shuffled D_law_place
 have D_law_aheads:=Z.dfn 32 rfl fun _ _ F _ _=>zbD F B D_law_take D_law_shuffled
 have D_law_job:=Z.dfn 33 rfl fun _ _ F _ _=>zgt F B D_law_take D_law_names D_law_place D_law_places D_law_feeders D_law_aheads
 have D_law_order:=Z.dfn 34 rfl fun _ _ F _ _=>zc6 F B D_law_take
 have D_law_trip:=Z.dfn 35 rfl fun _ _ F _ _=>zep F B D_law_shuffled
 have D_law_plan:=Z.dfn 36 rfl fun _ _ F _ _=>zet F B D_law_take D_law_order D_law_trip
 have D_law_way:=Z.dfn 37 rfl fun _ _ F _ _=>zey F B
 have D_law_over:=Z.dfn 38 rfl fun _ _ F _ _=>zev F B
 have D_law_is_number:=Z.dfn 39 rfl fun _ _ F _ _=>zhB F B
 have D_law_odd:=Z.dfn 40 rfl fun _ _ F _ _=>zgo F B D_law_take
 have D_law_other_row:=Z.dfn 41 rfl fun _ _ F _ _=>zc5 F B D_law_take D_law_odd
 have D_law_luck:=Z.dfn 43 rfl fun _ _ F _ _=>zhA F B D_law_take
 have D_law_tried:=Z.dfn 44 rfl fun _ _ F _ _=>zgk F B
 have D_law_trip_run:=Z.dfn 45 rfl fun _ _ F _ _=>zgj F B D_law_tried D_law_way
 have D_law_run_due:=Z.dfn 46 rfl fun _ _ F _ _=>zgw F B D_law_over D_law_trip_run
 have D_law_case:=Z.dfn 47 rfl fun _ _ F _ _=>zeD F B D_law_take D_law_job D_law_plan D_law_luck
 have D_law_instead:=Z.dfn 48 rfl fun _ _ F _ _=>zc8 F B D_law_take D_law_odd D_law_other_row D_law_is_number
 have D_law_spoilt:=Z.dfn 42 rfl fun _ _ F m b=>JI F B m b D_law_take D_law_instead (10)
 have D_law_right:=Z.dfn 49 rfl fun _ _ F _ _=>zhx F B D_law_take D_law_case D_law_run_due D_law_spoilt D_shows_run D_law_same
 exact zgs F B D_law_folded D_law_box D_law_right
end L2
open PySem PySem.W PyProof.Rows
set_option maxRecDepth 100000 in
set_option maxHeartbeats 0 in
theorem PySem.Challenge.cw_pickboard_k39_runs_spoilt_anywhere_holds : PySem.Challenge.rw_pickboard_k39_runs_spoilt_anywhere.Holds := by
 refine L2.ownHead (d:=L2.defRec "law" (L2.topL 57)) 9999 L2.head1 L2.head2 (by kernel_rfl) (by kernel_rfl) (by kernel_rfl) L2.head3 ⟨rfl,rfl,rfl,rfl,rfl,by decide +kernel⟩ (by w_witness2) ?_
 exact L2.walkS (n:=63) (k:=17) (x:= "_law_script") (sp:=L2.spLaw) rfl (by decide) (by kernel_rfl) ⟨rfl,by decide,by decide,rfl⟩ (fun _ _ _ _ _ X e G m=>L2.all_mk X e G m) fun _ _ a ns hl _ hS=>⟨a,ns,rfl,hS,hl,fun _=>rfl⟩
