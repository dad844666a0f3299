import PyProof.Rows.All
import Wide.All
import OpenK.AllK
import Wide.FinOn
import Lean
import PyProof.EqAt
import PyProof.EqKinds
import PyProof.TupleCall
import PyProof.NeKinds
import PyProof.ReprRoads
import PyProof.ReprBulk
import PyProof.SumWalk
import PyProof.FString5
import PyProof.StrBlock2
import PyProof.StrBlockI
import PyProof.StrBlockH
import PyProof.StrWalks
import PyProof.StrLawsIn
import PyProof.AutoListH
import PyProof.CompUse
import PyProof.ListRange
import PyProof.CallFns
import PyProof.ListTruth
import PyProof.Rows.Range3
import PyProof.SeqI3
import KE.KRevSl
import PyProof.DictIter
import PyProof.DictWalks
import PyProof.DictCompW
import PyProof.Cells
import OpenK.KOwn
import PyProof.ExcClass3
import PyProof.ExcInit
import PyProof.ExcBaseAll.ValueError
import PyProof.ExcArgsOwn
import PyProof.ExcAttrAll.ValueError
import PyProof.Rows.SortWalk
import PyProof.Rows.SortStr
import PyProof.MeetsDict
import PyProof.DictUpdate
import PyProof.FactsAll.dict_3
import KE.KDictList
import PyProof.FactsAll.dict_4
import KE.KDictSum
import PyProof.IsiH_list
import PyProof.Rows.Exc
import KE.KDictOf
import PyProof.SetKind
import PyProof.Rows.SetFrom
import PyProof.FactsAll.set_1
import PyProof.FactsAll.set_2
import KE.KSortTup
import KE.KItemsList
import PyProof.Rows.SortRev
import PyProof.Rows.StrCase
import PyProof.Rows.StrLen
import KE.KPairComp
import KE.KMinKey
import PyProof.CallStr
import PyProof.StrCalls2
import PyProof.StrLawsTight
import PyProof.FString
import PyProof.StrBlock
import PyProof.Conv_int
import KE.KUnpack
import PyProof.Rows.TupMore
import PyProof.DictItems
import PySem.Challenge.RW_pickboard_k70_whole_each_part_once
set_option Elab.async false
set_option linter.all false
set_option maxRecDepth 100000
def zp:=@List.length_map
def zm:=@PySem.wpAny_bind
def zL:=@List.getElem?_eq_some_iff
def zR:=@List.mem_singleton
def zW:=@List.length_append
def zM:=@List.map_append
def qG:=@PySem.Heap.get?_push_of_some
def qE:=@List.mem_append_right
def zJ:=@PySem.wpAny_pure
def zQ:=@Nat.le_refl
def zU:=@List.getElem?_map
def qr:=@Option.map_eq_some_iff
def qm:=@List.mem_append_left
def zP:=@List.mem_append
def z9:=@List.size_toArray
def qR:=@List.getElem?_eq_getElem
def zo:=@if_neg
def zN:=@PySem.Heap.lt_size
def z7:=@List.append_nil
def qx:=@List.append_assoc
def qJ:=@PySem.Heap.get?_push_size
def qH:=@Bool.false_ne_true
def qI:=@List.mem_cons_self
def qk:=@decide_eq_true
def zu:=@if_pos
def qg:=@List.mem_cons
def je:=@List.mem_of_getElem?
def qQ:=@of_decide_eq_true
def jt:=@List.length_filter_le
def qo:=@List.mem_map
def qP:=@List.length_take
def qw:=@Nat.ne_of_lt
def qY:=@List.take_length
def xa:=@List.getElem?_append_right
def jA:=@List.mem_cons_of_mem
def jV:=@PySem.F.plainAttrs_list
def j9:=@List.getElem?_append_left
def ji:=@List.mem_filter
def jr:=@PySem.PassesOwn.never
def xG:=@PySem.F.slot_list_append
def xF:=@PySem.F.type_list_append
def jd:=@Nat.le_trans
def jI:=@List.lookup_cons
def jY:=@Nat.lt_of_lt_of_le
def qX:=@Nat.zero_le
def jH:=@Option.some.inj
def jU:=@List.length_cons
def jM:=@decide_eq_false
def qW:=@PySem.wpAny_mono
def xu:=@Int.toNat_natCast
def j8:=@Bool.and_eq_true
def qz:=@Ne.symm
def jL:=@List.map_cons
def xW:=@List.filter_append
def xB:=@List.all_eq_true
def j7:=@PySem.Heap.size_push
def xV:=@List.length_range
def vo:=@PySem.wpAny_newObj_type
def yy:=@List.take_append_getElem
def yw:=@PySem.wpAny_callSpecial?_slot
def xA:=@List.map_map
def x5:=@List.mem_range
def wE:=@decide_eq_true_iff
def yu:=@List.length_replicate
def vZ:=@List.any_eq_true
def vY:=@List.getElem_mem
def xr:=@beq_iff_eq
def vX:=@List.nil_append
def wD:=@PySem.wpAny_call_entry
def wC:=@List.not_mem_nil
def yr:=@PySem.mem_of_lookup
def Jb:=@PyProof.Rows.callWith_type1
def xU:=@PySem.wpAny_field
def vz:=@Nat.lt_irrefl
def Ja:=@List.getD_eq_getElem?_getD
def vn:=@Nat.ne_of_gt
def wB:=@Bool.eq_iff_iff
def yq:=@PySem.wpAny_truthy_bool
def vW:=@PySem.wpAny_holding
def wA:=@PySem.wpAny_seqItems
def Zi:=@Int.emod_lt_of_pos
def Q7:=@List.filter_cons_of_neg
def yp:=@List.filter_cons
def Zh:=@Nat.lt_succ_of_lt
def Zg:=@List.nodup_append
def Zf:=@List.count_append
def ZX:=@Array.length_toList
def ZW:=@List.flatMap_append
def Q6:=@PySem.Heap.get?_update_self
def WW:=@PySem.F.slot_dict_keyiterator_next
def Xx:=@List.filter_cons_of_pos
def Ze:=@Int.emod_nonneg
def Xw:=@PySem.Heap.get?_update_other
def wY:=@Nat.sub_self
def Xv:=@List.filter_eq_nil_iff
def yo:=@PySem.wpAny_standAt
def ZV:=@List.length_drop
def ZU:=@Nat.lt_succ_self
def ZT:=@PySem.wpAny_isInstance
def ZS:=@List.nodup_range
def yR:=@PySem.Calls.spliced_cons
def Js:=@Array.getElem?_eq_getElem
def vp:=@Sum.inl.inj
def xY:=@PySem.wpAny_rule
def wx:=@List.any_cons
def yQ:=@List.getElem_inj
def w4:=@PySem.Value.type.inj
def yP:=@PySem.F.plain_min_loop
def yO:=@beq_self_eq_true
def ZH:=@Bool.false_eq_true
def ZG:=@PySem.wpAny_setField_rec
def yN:=@PySem.wpAny_passesOwn
def yM:=@Option.map_some
def Jr:=@Array.getElem?_toList
def Jq:=@List.perm_append_comm
def Vz:=@PySem.F.slot_tuple_iterator_next
def Jp:=@List.mem_iff_getElem
def Jo:=@PySem.Around.under_plainId
def Vy:=@List.count_singleton_self
def Vx:=@PySem.F.slot_list_getattribute
def Jn:=@List.replicate_succ
def Jm:=@PySem.Heap.SameBut.update
def Y5:=@PyProof.Rows.slot_tuple_getitem
def yL:=@PySem.wpAny_attempt
def ZF:=@List.nodup_cons
def ZE:=@List.length_set
def Jl:=@PySem.Obj.data_mapFields
def ZD:=@List.find?_cons
def ZC:=@List.filter_nil
def Vw:=@List.getElem?_set_self
def Vv:=@PySem.Calls.callWith_builtin
def wZ:=@Nat.le_succ
def Y4:=@List.take_append_of_le_length
def Jk:=@PySem.Calls.spliced_nil
def yK:=@Nat.le_of_eq
def Vu:=@PySem.F.slot_enumerate_next
def ZB:=@PySem.wpAny_tryCatch
def Vt:=@List.Perm.append_left
def Vs:=@List.getElem?_set_ne
def Vr:=@PySem.Calls.evalArgs_plain
def Jj:=@Bool.not_eq_true
def Vq:=@List.replicate_succ'
def Y3:=@Array.getElem?_eq_some_iff
def yJ:=@PySem.wpAny_letGo
def Vp:=@List.length_pos_iff
def Vo:=@List.filter_eq_self
def Ji:=@List.length_nil
def Jh:=@Bool.or_eq_true
def Jg:=@List.count_cons
def ZA:=@Nat.le_of_lt
def Zz:=@PySem.wpAny_typeOf
def Vn:=@Nat.lt_of_le_of_lt
def Vm:=@List.getElem?_drop
def Y2:=@List.length_erase_of_mem
def Vl:=@List.map_replicate
def Y1:=@PySem.F.plainAttrs_dict
def Vk:=@List.flatten_cons
def Vj:=@Option.some.injEq
def Vi:=@List.Sublist.refl
def Vh:=@List.flatMap_cons
def Zy:=@PySem.wpAny_of_eq
def Y0:=@List.take_of_length_le
def YZ:=@List.length_pos_of_mem
def Vg:=@Nat.min_le_right
def Vf:=@List.flatMap_nil
def YY:=@PySem.Obj.isFreed_of_fields
def YX:=@PySem.F.slot_dict_get
def YW:=@Nat.le_of_ble_eq_true
def Jf:=@List.map_nil
def Ve:=@List.forIn_cons
def Vd:=@PySem.F.slot_zip_next
def Je:=@List.all_map
def Jd:=@Nat.lt_trans
def zdY:=@PySem.F.args_dict_keyiterator_next_1
def zdX:=@PySem.F.entry_dict_keyiterator_next
def zdW:=@List.count_eq_zero_of_not_mem
def YV:=@List.filterMap_cons
def YU:=@Nat.add_le_add_left
def zdV:=@PySem.F.args_tuple_iterator_next_1
def zdU:=@PySem.F.slot_dict_setdefault
def zdT:=@PySem.F.entry_tuple_iterator_next
def zdS:=@List.idxOf_lt_length_of_mem
def zdR:=@Array.getD_eq_getD_getElem?
def Vc:=@PySem.Paired.length
def zdQ:=@PySem.Calls.Name_function_global
def zdP:=@Int.fdiv_eq_ediv_of_nonneg
def zdO:=@Int.fmod_eq_emod_of_nonneg
def Vb:=@Bool.false_or
def Va:=@Bool.and_true
def YT:=@List.reverse_cons
def YS:=@PySem.Obj.cls_mapFields
def YR:=@List.getElem?_set
def zdN:=@List.getElem?_eq_none_iff
def zdM:=@List.getElem?_zip_eq_some
def Jc:=@PySem.Walks.list
def zdL:=@List.pairwise_iff_getElem
def YQ:=@PySem.F.entry_min_loop
def X9:=@Nat.zero_add
def X8:=@Int.zero_add
def YO:=@List.of_mem_zip
def YN:=@PySem.SeqAt.EqAt.same
def YM:=@List.sum_append
def YL:=@List.range_succ
def X7:=@Int.le_refl
def YK:=@List.forIn_nil
def YJ:=@List.take_left
namespace L2
open PySem PySem.Spec PyProof.Rows
theorem bG100000:100000<sizeLine:=by rw[sizeLine_eq];decide
theorem bG1000000:1000000<sizeLine:=by rw[sizeLine_eq];decide
theorem bG100:100<sizeLine:=by rw[sizeLine_eq];decide
theorem bGe:(2:Int)^62=4611686018427387904:=by decide
abbrev Key:=Sum Int Str
def QP:Key->Value->Bool
 | .inl k,v=>Value.isInt k v
 | .inr x,v=>Value.isStrOf x v
def zi1(w:World):Key->Int
 | .inl k=>hashInt k
 | .inr x=>hashStr w x
theorem jg:∀{k:Key} {v:Value},QP k v=true->(∃i t,k=Sum.inl i/\v=Value.int i t)\/(∃x t,k=Sum.inr x/\v=Value.str x t)
 | .inl i,v,h=>by
  obtain⟨t,e⟩:=Value.isInt_shape (k:=i) (v:=v) h;exact .inl ⟨i,t,rfl,e⟩
 | .inr x,v,h=>by
  obtain⟨t,e⟩:=Value.isStrOf_shape (x:=x) (v:=v) h;exact .inr ⟨x,t,rfl,e⟩
theorem zbV(i:Int)(t:Tok):QP (.inl i) (.int i t)=true:=by simp[QP,Value.isInt]
theorem zbU(x:Str)(t:Tok):QP (.inr x) (.str x t)=true:=by simp[QP,Value.isStrOf]
theorem zg9(a b:Int):decide ((Sum.inl a:Key)=Sum.inl b)=(a==b):=by
 by_cases e:a=b
 ·subst e;simp
 ·have h:¬(Sum.inl a:Key)=Sum.inl b:=fun q=>e (vp q)
  rw[jM h];exact(beq_eq_false_iff_ne.mpr e).symm
theorem zg6(a b:Str):decide ((Sum.inr a:Key)=Sum.inr b)=decide (a=b):=by
 by_cases e:a=b
 ·subst e;simp
 ·have h:¬(Sum.inr a:Key)=Sum.inr b:=fun q=>e (Sum.inr.inj q)
  rw[jM h,jM e]
theorem zg8(a:Int)(b:Str):decide ((Sum.inl a:Key)=Sum.inr b)=false:=jM (fun q=>nomatch q)
theorem zg7(a:Str)(b:Int):decide ((Sum.inr a:Key)=Sum.inl b)=false:=jM (fun q=>nomatch q)
def qv(c:Program)(w:World):PySem.KeyKind c w Key where
 is:=QP
 hash:=zi1 w
 inj:=fun v a b g hb=>by
  rcases jg g with ⟨i,t,rfl,rfl⟩ | ⟨x,t,rfl,rfl⟩
  ·rcases jg hb with ⟨j,u,rfl,e⟩ | ⟨y,u,rfl,e⟩
   ·injection e with e1 _;rw[e1]
   ·exact nomatch e
  ·rcases jg hb with ⟨j,u,rfl,e⟩ | ⟨y,u,rfl,e⟩
   ·exact nomatch e
   ·injection e with e1 _;rw[e1]
 byValue:=fun k v h=>by
  rcases jg h with ⟨i,t,rfl,rfl⟩ | ⟨x,t,rfl,rfl⟩<;>rfl
 pyHash:=fun hv h=>by
  rcases jg hv with ⟨i,t,rfl,rfl⟩ | ⟨x,t,rfl,rfl⟩
  ·exact wpAny_pyHash_int h
  ·exact wpAny_pyHash_str h
 eqBool:=fun hu hv h=>by
  rcases jg hu with ⟨i,t,rfl,rfl⟩ | ⟨x,t,rfl,rfl⟩
  ·rcases jg hv with ⟨j,u,rfl,rfl⟩ | ⟨y,u,rfl,rfl⟩
   ·rw[zg9] at h;exact wpAny_eqBool_int h
   ·rw[zg8] at h;exact SeqAt.EqAt.int_str i t y u _ _ _ _ h
  ·rcases jg hv with ⟨j,u,rfl,rfl⟩ | ⟨y,u,rfl,rfl⟩
   ·rw[zg7] at h;exact SeqAt.EqAt.str_int x t j u _ _ _ _ h
   ·rw[zg6] at h;exact wpAny_eqBool_str h
 «strs»:=fun k x t v h=>by
  rcases jg h with ⟨i,u,rfl,e⟩ | ⟨y,u,rfl,e⟩
  ·exact nomatch e
  ·injection e with e1 _
   subst e1;cases v<;>rfl
theorem Yv(b:Program)(w:World)(k:Key)(v:Value):(qv b w).is k v=QP k v:=rfl
theorem Wu(b:Program)(w:World)(i:Int)(t:Tok):(qv b w).is (.inl i) (.int i t)=true:=zbV i t
theorem Wt(b:Program)(w:World)(x:Str)(t:Tok):(qv b w).is (.inr x) (.str x t)=true:=zbU x t
inductive V where
 | non | bl (b:Bool) | int (i:Int) | str (x:Str) | byt (b:Array UInt8) | flt (b:UInt64) | ref (a:Addr) | ty (n:String)
 deriving DecidableEq
def RelV:V->Value->Prop
 | .non,u=>u=Value.none
 | .bl b,u=>u=Value.bool b
 | .int i,u=>∃t,u=Value.int i t
 | .str x,u=>∃t,u=Value.str x t
 | .byt b,u=>∃t,u=Value.bytes b t
 | .flt b,u=>∃t,u=Value.float b t
 | .ref a,u=>u=Value.ref a
 | .ty n,u=>u=Value.type n
abbrev Vals:List V->List Value->Prop:=Paired RelV
theorem Vals.length{c:List V}{b:List Value}(r:Vals c b):c.length=b.length:=Vc r
theorem Vals.get:∀{c:List V} {b:List Value} {i:Nat} {x:V},Vals c b->c[i]? =some x->∃u,b[i]? =some u/\RelV x u
 | _,_,_,_,.nil,e=>by simp at e
 | _,_,0,_,.cons r _,e=>by simp at e;subst e;exact⟨_,rfl,r⟩
 | _,_,i+1,x,.cons _ t,e=>by
  obtain⟨u,h1,h2⟩:=Vals.get (i:=i) (x:=x) t (by simpa using e)
  exact⟨u,by simpa using h1,h2⟩
theorem Vals.set{x:V}{u:Value}(r:RelV x u):∀{c:List V} {b:List Value} (i:Nat),Vals c b->Vals (c.set i x) (b.set i u)
 | _,_,_,.nil=>.nil
 | _,_,0,.cons _ t=>.cons r t
 | _,_,i+1,.cons q t=>.cons q (Vals.set r i t)
theorem Vals.append:∀{g i:List V} {b c:List Value},Vals g b->Vals i c->Vals (g++i) (b++c)
 | _,_,_,_,.nil,s=>s
 | _,_,_,_,.cons r t,s=>.cons r (Vals.append t s)
theorem Vals.take:∀{c:List V} {b:List Value} (n:Nat),Vals c b->Vals (c.take n) (b.take n)
 | _,_,0,_=>.nil
 | _,_,_+1,.nil=>.nil
 | _,_,n+1,.cons r t=>.cons r (Vals.take n t)
theorem Vals.drop:∀{c:List V} {b:List Value} (n:Nat),Vals c b->Vals (c.drop n) (b.drop n)
 | _,_,0,r=>r
 | _,_,_+1,.nil=>.nil
 | _,_,n+1,.cons _ t=>Vals.drop n t
theorem Vals.none_of:∀{b:List V} {c:List Value} {i:Nat},Vals b c->b[i]? =none->c[i]? =none:=fun {b c i} r e=>by
 have h1:=r.length;have h2:b.length<=i:=zdN.mp e;exact zdN.mpr (by omega)
def RelO:Option V->Option Value->Prop
 | some v,some u=>RelV v u
 | none,none=>True
 | _,_=>False
def KV{κ:Type}:List (κ×V)->List (κ×Value)->Prop:=Paired fun(p:κ×V) (q:κ×Value)=>p.1=q.1/\RelV p.2 q.2
def kV:Key->V
 | .inl i=>.int i
 | .inr x=>.str x
inductive HO where
  | lst (g:List V)
  | tup (g:List V)
  | dK (b:List (Key×V)) | dT (b:List (List Key×V))
  | set (S:Int->Bool) (n:Nat)
  | ins (C i:Addr) (c:List (Str×V))
  | own (x:Addr)
  | xd (c:List (Str×V))
  | met (f x:Addr)
  | rng (lo l:Int)
  | frz (o:Obj) (u:HO)
  | tbl (m:Array Value)
  | ext (φ:Heap->Prop)
abbrev Hp:=Addr->Option HO
def upd(H:Hp)(a:Addr)(o:HO):Hp:=fun b=>if b=a then some o else H b
theorem zb{H:Hp}{a:Addr}{o:HO}:upd H a o a=some o:=by unfold upd;rw[zu rfl]
theorem zj{H:Hp}{a b:Addr}{o:HO}(h:b≠a):upd H a o b=H b:=by unfold upd;rw[zo h]
theorem zaT{H:Hp}{a b:Addr}{o u:HO}(h:H a=some o)(c:H b=some u)(d:o≠u):a≠b:=by
 intro e;subst e;rw[h] at c;exact d (jH c)
theorem zg{H:Hp}{a b:Addr}{o:HO}(h:H a=some o)(c:H b=none):a≠b:=by
 intro e;subst e;rw[h] at c;cases c
section
variable(P:Program)(w:World)
def TupX(h:Heap)(a:Addr)(b:Array Value):Prop:=IsTup h a b/\∃o,h.get? a=some o/\o.dict=none
theorem TupX.by{h:Heap}{a:Addr}{b:Array Value}{n:Nat}(e:h.get? a=some { cls:=.type "tuple",data:=.seq b n }):TupX h a b:=⟨⟨_,e,rfl,n,rfl⟩,_,e,rfl⟩
def ObjOk(H:Hp)(h:Heap)(a:Addr):HO->Prop
 | .lst g=>g.length<=sizeLine/\∃(b:List Value) (n:Nat),Vals g b/\h.get? a=some { cls:=.type "list",data:=.seq b.toArray n }
 | .tup g=>g.length<=sizeLine/\∃b:List Value,Vals g b/\TupX h a b.toArray
 | .dK c=>c.length<=sizeLine/\(a==sysModules)=false/\∃A,KV c A/\h.DictOf (qv P w) a A
 | .dT c=>c.length<=sizeLine/\(a==sysModules)=false/\∃g:List (List Key×Addr×Value),
   Paired (fun(p:List Key×V) (q:List Key×Addr×Value)=>p.1=q.1/\H q.2.1=some (.tup (p.1.map kV))/\RelV p.2 q.2.2) c g /\
   ∃o s B,h.get? a=some o/\o.ExactDict/\o.data=.dict s B/\s.toList=g.map (entryOfKey (tupleKind (qv P w)))/\(g.map (·.1)).Nodup
 | .set S n=>h.SetOf (intKind P w) a S n
 | .ins C m l=>H m=some (.own a)/\l.length<=1000/\m≠a/\h.get? a=some (PySem.W.instObj C m) /\
   ∃i,h.Ns1 m i/\(∀f,RelO (l.lookup f) (i f))/\PySem.Within i (l.map (·.1))
 | .own _=>∃o,h.get? a=some o
 | .xd l=>∃i,h.Ns1 a i/\∀f,RelO (l.lookup f) (i f)
 | .rng lo D=>∃t u v,h.get? a=some { cls:=.type "range",data:=.fields #[.int lo t,.int D u,.int 1 v] }
 | .frz o u=>h.get? a=some o/\ObjOk H h a u
 | .tbl E=>h.get? a=some { cls:=.none,data:=.fields E }
 | .met f x=>h.get? a=some (PySem.W.methodObj (.ref f) (.ref x))
 | .ext φ=>φ h/\(∃o,h.get? a=some o)/\∀h1 h2:Heap,φ h1->(∀o,h1.get? a=some o->h2.get? a=some o)->φ h2
def HOk(H:Hp)(h:Heap):Prop:=∀a o,H a=some o->ObjOk P w H h a o
end
section
variable{P:Program}{w:World}{H g:Hp}{h h':Heap}{a:Addr}{o:HO}
theorem ObjOk.lt(x:ObjOk P w H h a o):a<h.objs.size:=by
 cases o with
 | lst i=>obtain⟨_,_,_,_,e⟩:=x;exact zN e
 | tup i=>obtain⟨_,_,_,p⟩:=x;exact p.1.lt
 | dK b=>obtain⟨_,_,_,_,o,_,_,e,_⟩:=x;exact zN e
 | dT b=>obtain⟨_,_,_,_,o,_,_,e,_⟩:=x;exact zN e
 | set S n=>obtain⟨o,_,_,_,e,_⟩:=x;exact zN e
 | ins C l c=>obtain⟨_,_,_,e,_⟩:=x;exact zN e
 | own y=>obtain⟨_,e⟩:=x;exact zN e
 | xd c=>obtain⟨_,⟨_,_,_,e,_⟩,_⟩:=x;exact zN e
 | rng lo m=>obtain⟨_,_,_,e⟩:=x;exact zN e
 | frz s u=>obtain⟨e,_⟩:=x;exact zN e
 | tbl A=>exact zN (show h.get? a=some _ from x)
 | met f y=>exact zN (show h.get? a=some _ from x)
 | ext φ=>obtain⟨_,⟨_,e⟩,_⟩:=x;exact zN e
theorem Paired.mapP{α β:Type}{F G:α->β->Prop}:∀{c:List α} {i:List β},Paired F c i->(∀a b,F a b->G a b)->Paired G c i
 | _,_,.nil,_=>.nil
 | _,_,.cons r t,f=>.cons (f _ _ r) (Paired.mapP t f)
theorem ObjOk.stay(x:ObjOk P w H h a o)(k:∀b u,(b=a\/H b=some (.own a))->h.get? b=some u->h'.get? b=some u)
  (L:∀b,H b=some (.own a)->g b=some (.own a)) (M:∀b A,H b=some (.tup A)->g b=some (.tup A)):ObjOk P w g h' a o:=by
 induction o with
 | lst A=>obtain⟨z,s,n,r,e⟩:=x;exact⟨z,s,n,r,k _ _ (.inl rfl) e⟩
 | tup A=>obtain⟨z,s,r,⟨i,e,c⟩,O,e2,I⟩:=x;exact⟨z,s,r,⟨i,k _ _ (.inl rfl) e,c⟩,O,k _ _ (.inl rfl) e2,I⟩
 | dK B=>obtain⟨z,y,Q,r,i,m,l,e,c⟩:=x;exact⟨z,y,Q,r,i,m,l,k _ _ (.inl rfl) e,c⟩
 | dT B=>
  obtain⟨z,y,A,r,i,m,l,e,c⟩:=x;exact⟨z,y,A,Paired.mapP r fun p q z=>⟨z.1,M _ _ z.2.1,z.2.2⟩,i,m,l,k _ _ (.inl rfl) e,c⟩
 | set S n=>obtain⟨i,m,l,t,e,c⟩:=x;exact⟨i,m,l,t,k _ _ (.inl rfl) e,c⟩
 | ins C T J=>
  obtain⟨d,z,ne,e,D,⟨E,m,l,e2,c⟩,r⟩:=x;exact⟨L _ d,z,ne,k _ _ (.inl rfl) e,D,⟨E,m,l,k _ _ (.inr d) e2,c⟩,r⟩
 | own y=>obtain⟨i,e⟩:=x;exact⟨i,k _ _ (.inl rfl) e⟩
 | xd J=>obtain⟨D,⟨E,m,l,e,c⟩,r⟩:=x;exact⟨D,⟨E,m,l,k _ _ (.inl rfl) e,c⟩,r⟩
 | rng lo U=>obtain⟨t,u,v,e⟩:=x;exact⟨t,u,v,k _ _ (.inl rfl) e⟩
 | frz i u N=>obtain⟨e,q⟩:=x;exact⟨k _ _ (.inl rfl) e,N q⟩
 | tbl G=>
  have e:h.get? a=some { cls:=.none,data:=.fields G }:=x;show h'.get? a=some { cls:=.none,data:=.fields G };exact k a _ (.inl rfl) e
 | met f y=>
  have e:h.get? a=some (PySem.W.methodObj (.ref f) (.ref y)):=x;show h'.get? a=some (PySem.W.methodObj (.ref f) (.ref y));exact k a _ (.inl rfl) e
 | ext φ=>obtain⟨p,⟨o,e⟩,st⟩:=x;exact⟨st _ _ p fun o q=>k _ _ (.inl rfl) q,⟨o,k _ _ (.inl rfl) e⟩,st⟩
theorem HOk.lt(x:HOk P w H h)(e:H a=some o):a<h.objs.size:=(x a o e).lt
theorem HOk.fresh(x:HOk P w H h)(e:h.objs.size<=a):H a=none:=by
 cases q:H a with
 | none=>rfl
 | some u=>exact absurd (jY (x.lt q) e) (vz _)
theorem HOk.kept(x:HOk P w H h)(k:∀b u,h.get? b=some u->h'.get? b=some u):HOk P w H h':=fun a o e=>
 (x a o e).stay (fun b u _ q=>k b u q) (fun _ q=>q) fun _ _ q=>q
theorem HOk.laid(x:HOk P w H h)(k:∀b u,h.get? b=some u->h'.get? b=some u)(hp:h.objs.size<=a)(i:ObjOk P w (upd H a o) h' a o):HOk P w (upd H a o) h':=fun b u e=>by
 have l:=x.fresh hp;by_cases hb:b=a
 ·subst hb;rw[zb] at e;cases e;exact i
 ·rw[zj hb] at e
  exact(x b u e).stay (fun c v _ q=>k c v q) (fun c q=>by rw[zj (zg q l)];exact q) fun c m q=>by rw[zj (zg q l)];exact q
end
def Rd(H:Hp)(a:Addr)(u:HO):Prop:=H a=some u\/∃o,H a=some (.frz o u)
theorem Rd.of{H:Hp}{a:Addr}{u:HO}(h:H a=some u):Rd H a u:=.inl h
theorem Rd.ok{P:Program}{w:World}{H:Hp}{h:Heap}{a:Addr}{u:HO}(r:Rd H a u)(x:HOk P w H h):ObjOk P w H h a u:=by
 rcases r with r | ⟨o,r⟩
 ·exact x a u r
 ·obtain⟨_,q⟩:=x a _ r
  exact q
def Mut:Option HO->Prop
 | some (.lst _)=>True
 | some (.dK _)=>True
 | some (.dT _)=>True
 | some (.set _ _)=>True
 | some (.ins _ _ _)=>True
 | some (.ext _)=>True
 | _=>False
section
variable{P:Program}{w:World}{H:Hp}{h g:Heap}{x e:Addr}{i:HO}
theorem HOk.write(ok:HOk P w H h)(A:Mut (H x))(E:e=x\/H e=some (.own x))(k:∀b u,b≠e->h.get? b=some u->g.get? b=some u)(C:∃u,g.get? e=some u)
  (D:ObjOk P w (upd H x i) g x i):HOk P w (upd H x i) g:=fun b u q=>by
 have m:∀c y,H c=some (.own y)->c≠x:=fun c y r z=>by subst z;rw[r] at A;exact A
 have s:∀c B,H c=some (.tup B)->c≠x:=fun c B r z=>by subst z;rw[r] at A;exact A
 by_cases hb:b=x
 ·subst hb;rw[zb] at q;cases q;exact D
 ·rw[zj hb] at q
  by_cases l:b=e
  ·have G:H b=some (.own x):=by
    rcases E with z | z
    ·exact absurd (l.trans z) hb
    ·rw[l];exact z
   rw[q] at G;cases G
   obtain⟨v,hv⟩:=C;exact⟨v,by rw[l];exact hv⟩
  ·refine(ok b u q).stay (fun c v hc r=>k c v ?_ r) (fun c r=>by rw[zj (m c b r)];exact r) fun c B r=>by rw[zj (s c B r)];exact r
   rcases hc with rfl | hc
   ·exact l
   ·rintro rfl
    rcases E with z | z
    ·exact m c b hc z
    ·rw[hc] at z;cases z;exact hb rfl
end
structure Un(fs ex:List Addr)(H H':Hp)(h h':Heap):Prop where
 keep:∀b o,h.get? b=some o->H b=none->b∉fs->b∉ex->h'.get? b=some o
 slot:∀b o,h.get? b=some o->H b=none->b∈fs->b∉ex->∃sl,h'.get? b=some { o with slots:=sl }
 free:∀b o,h.get? b=some o->H b=none->b∉ex->H' b=none
 there:∀b o,h.get? b=some o->b∉ex->∃o',h'.get? b=some o'
 tups:∀b xs,H b=some (.tup xs)->H' b=some (.tup xs)
 frzs:∀b o u,H b=some (.frz o u)->H' b=some (.frz o u)
 tbls:∀b ps,H b=some (.tbl ps)->∃more,H' b=some (.tbl (ps++more))
section
variable{i s g m:List Addr}{H l w:Hp}{h h1 h2 h':Heap}{a x e:Addr}{o:HO}
theorem Un.any(u:Un i g H l h h1){b:Addr}{c:Obj}(q:h.get? b=some c)(n:H b=none)(hx:b∉g):∃A,h1.get? b=some { c with slots:=A }:=by
 by_cases hb:b∈i
 ·exact u.slot b c q n hb hx
 ·exact⟨c.slots,u.keep b c q n hb hx⟩
theorem Un.trans(a:Un i g H l h h1)(b:Un i g l w h1 h2):Un i g H w h h2 where
 keep:=fun c u q n hc hx=>b.keep c u (a.keep c u q n hc hx) (a.free c u q n hx) hc hx
 slot:=fun c u q n hc hx=>by
  obtain⟨G,e1⟩:=a.slot c u q n hc hx;obtain⟨B,e2⟩:=b.slot c _ e1 (a.free c u q n hx) hc hx;exact⟨B,e2⟩
 free:=fun c u q n hx=>by
  obtain⟨A,e1⟩:=a.there c u q hx;exact b.free c A e1 (a.free c u q n hx) hx
 there:=fun c u q hx=>by
  obtain⟨A,e1⟩:=a.there c u q hx;exact b.there c A e1 hx
 tups:=fun c xs q=>b.tups c xs (a.tups c xs q)
 frzs:=fun c u xs q=>b.frzs c u xs (a.frzs c u xs q)
 tbls:=fun c E q=>by
  obtain⟨C,e1⟩:=a.tbls c E q;obtain⟨D,e2⟩:=b.tbls c _ e1;exact⟨C++D,by rw[e2,Array.append_assoc]⟩
theorem Un.kept(k:∀b u,h.get? b=some u->h'.get? b=some u):Un i g H H h h':=
 ⟨fun b c q _ _ _=>k b c q,fun b c q _ _ _=>⟨c.slots,k b c q⟩,fun _ _ _ n _=>n,fun b c q _=>⟨c,k b c q⟩,fun _ _ q=>q,fun _ _ _ q=>q,fun _ A q=>⟨#[],by rw[q];simp⟩⟩
theorem Un.refl:Un i g H H h h:=Un.kept fun _ _ q=>q
theorem Un.laid(k:∀b u,h.get? b=some u->h'.get? b=some u)(hp:h.objs.size<=a)(c:H a=none):Un i g H (upd H a o) h h' where
 keep:=fun b u q _ _ _=>k b u q
 slot:=fun b u q _ _ _=>⟨u.slots,k b u q⟩
 free:=fun b u q n _=>by rw[zj (qw (jY (zN q) hp))];exact n
 there:=fun b u q _=>⟨u,k b u q⟩
 tups:=fun b A q=>by rw[zj (zg q c)];exact q
 frzs:=fun b u A q=>by rw[zj (zg q c)];exact q
 tbls:=fun b B q=>⟨#[],by rw[zj (zg q c),q];simp⟩
theorem Un.write(A:Mut (H x))(D:e=x\/H e=some (.own x))(k:∀b u,b≠e->h.get? b=some u->h'.get? b=some u)(B:∃u,h'.get? e=some u):Un i g H (upd H x o) h h':=by
 have hx:∀b,H b=none->b≠x:=fun b n z=>by subst z;rw[n] at A;exact A
 have hb:∀b,H b=none->b≠e:=fun b n z=>by
  subst z;rcases D with r | r
  ·exact hx b n r
  ·rw[n] at r;cases r
 have C:∀b u,H b=some u->¬Mut (some u)->b≠x:=fun b u q E z=>by subst z;rw[q] at A;exact E A
 refine⟨fun b u q n _ _=>k b u (hb b n) q,fun b u q n _ _=>⟨u.slots,k b u (hb b n) q⟩,fun b u q n _=>by rw[zj (hx b n)];exact n,fun b u q _=>?_,
  fun b G q=>by rw[zj (C b _ q fun z=>z)];exact q,fun b u G q=>by rw[zj (C b _ q fun z=>z)];exact q,fun b I q=>⟨#[],by rw[zj (C b _ q fun z=>z),q];simp⟩⟩
 by_cases c:b=e
 ·subst c;exact B
 ·exact⟨u,k b u c q⟩
theorem Un.mono(u:Un i g H l h h1)(hs:∀b∈i,b∈s)(hx:∀b∈g,b∈m):Un s m H l h h1:=
 ⟨fun b A q n hb c=>u.keep b A q n (fun z=>hb (hs b z)) fun z=>c (hx b z),fun _ _ q n _ c=>u.any q n fun z=>c (hx _ z),fun b A q n c=>u.free b A q n fun z=>c (hx b z),fun b A q c=>u.there b A q fun z=>c (hx b z),u.tups,u.frzs,u.tbls⟩
end
def trk(h:Heap)(H:Hp):List Addr:=(List.range h.objs.size).filter fun a=>(H a).isSome
def XT(h:Heap)(H:Hp):Heap:=PySem.W.hideAll h (trk h H)
theorem zbZ(h:Heap)(H:Hp):(XT h H).objs.size=h.objs.size:=PySem.W.hideAll_size _ _
theorem zdw{h:Heap}{H:Hp}{b:Addr}{o:Obj}(e:h.get? b=some o)(n:H b=none):(XT h H).get? b=some o:=
 PySem.W.hideAll_get _ e fun c=>by
  have q:(H b).isSome=true:=(ji.mp c).2;rw[n] at q;simp at q
theorem zeV{h:Heap}{H:Hp}{b:Addr}{o:Obj}(e:(XT h H).get? b=some o):h.get? b=some o/\H b=none:=by
 have c:h.get? b=some o:=PySem.W.of_hideAll (trk h H) e;refine⟨c,?_⟩
 cases q:H b with
 | none=>rfl
 | some x=>
  have g:b∈trk h H:=ji.mpr ⟨x5.mpr (zN c),by simp[q]⟩
  have z:(XT h H).get? b=none:=PySem.W.hideAll_none (trk h H) g;rw[z] at e;cases e
def zfl(g h:Heap)(L:Addr):List (Addr×Obj):=(List.range h.objs.size).filterMap fun a=>if a=L\/(g.get? a).isSome=true then none else(h.get? a).map fun o=>(a,o)
def rest(g h:Heap)(L d:Addr):List (Addr×Obj):=(zfl g h L).filter fun p=>decide (p.1≠d)
structure Mod(K:W.Frag)(mg:Str->Option Value)(base:Heap):Prop where
 kin:K.In base
 glob:base.Ns mainGlobals mg
 blt:∃mb,base.Ns builtinsNs mb/\∀x:Str,x ≠ "__name__" -> mb x=bootBuiltins x
 nolimit:base.NoLimit
structure Cx where
 prog:Program
 w:World
 K:PySem.W.Frag
 mg:Str->Option Value
 base:Heap
 A:Around
 N:List Str
 s₀:Shared
 H₀:Hp
 env:Env
 outer:List Env
 stack:List Env
 ex:List Addr
 fn:Str->Bool
 calm:Bool
 pn:List (Addr×Obj)
 xe:Value->Shared->Prop
def frs(l:List Env):List Addr:=l.filterMap (·.frame)
abbrev Cx.fs(X:Cx):List Addr:=frs X.outer
def Vis(b:Scope)(x:Str):Prop:=b.names.lookup x=some .local\/b.names.lookup x=some .cell\/b.names.lookup x=some .free
def Loc(b:Scope)(x:Str):Prop:=b.names.lookup x=some .local\/b.names.lookup x=some .cell
def zi6(b:Env)(h:Heap)(m:Str->Option Value)(x:Str)(u:Value):Prop:=
 (b.kindOf x=some .local/\m x=some u)\/((b.kindOf x=some .cell\/b.kindOf x=some .free)/\∃c,b.cells.lookup x=some c/\h.IsCell c (some u))
structure Cx.Ok(X:Cx):Prop where
 mod:Mod X.K X.mg X.base
 kind:X.env.scope.kind=.function
 glob:X.env.globals=mainGlobals
 blt:X.env.builtins=builtinsNs
 above:X.s₀.heap.objs.size<=X.env.locals
 inj:∀x y c,X.env.cells.lookup x=some c->X.env.cells.lookup y=some c->x=y
 has:∀x,(X.env.kindOf x=some .cell\/X.env.kindOf x=some .free)->∃c,X.env.cells.lookup x=some c
 cab:∀x c,X.fn x=true->X.env.cells.lookup x=some c->X.s₀.heap.objs.size<=c
 hd:X.calm=true->X.A.handled=none
 frames:X.A.frames=some X.stack
 stk:X.stack=X.outer\/(X.stack=X.env::X.outer/\X.env.frame=some X.env.locals)
 exf:∀b∈X.ex,b≠X.env.locals/\∀x c,X.env.cells.lookup x=some c->c≠b
 bs:∀b o,X.base.get? b=some o->X.s₀.heap.get? b=some o/\X.H₀ b=none
 bsz:X.base.objs.size<=X.s₀.heap.objs.size
 noex:∀b o,X.base.get? b=some o->b∉X.ex
 exfs:∀b∈X.ex,b∉X.fs
 funs:X.s₀.heap.FunFrames X.base X.outer
 frf:∀b∈X.fs,X.H₀ b=none
structure Inv(X:Cx)(pins:List (Addr×Obj))(σ:List (Option V))(H:Hp)(s:Shared):Prop where
 ok:X.Ok
 os:s.os=X.s₀.os
 bare:AllBare s.gens
 base:Un X.fs X.ex X.H₀ H X.s₀.heap s.heap
 loc:∃m,s.heap.Ns X.env.locals m/\∀(i:Nat) (x:Str) (v:V),X.N[i]? =some x->σ[i]? =some (some v)->Vis X.env.scope x->∃u,RelV v u/\zi6 X.env s.heap m x u
 cell:∀x c,X.env.cells.lookup x=some c->∃v,s.heap.IsCell c v
 free:H X.env.locals=none
 freeC:∀x c,X.env.cells.lookup x=some c->H c=none
 pin:∀p∈X.pn++pins,s.heap.get? p.1=some p.2/\H p.1=none/\p.1≠X.env.locals/\p.1∉X.fs/\∀v,p.2.data≠.cell v
 hok:HOk X.prog X.w H s.heap
 len:σ.length=X.N.length
section
variable{X:Cx}{g:List (Addr×Obj)}{σ:List (Option V)}{H B:Hp}{s:Shared}{h':Heap}
theorem Cx.Ok.nofr(ok:X.Ok){b:Addr}{o:Obj}(e:X.base.get? b=some o):b∉X.fs:=fun hb=>by
 have:=(ok.funs.mem hb).1;rw[e] at this;cases this
theorem Inv.bs(I:Inv X g σ H s):∀b o,X.base.get? b=some o->s.heap.get? b=some o/\H b=none:=fun b o e=>
 ⟨I.base.keep b o (I.ok.bs b o e).1 (I.ok.bs b o e).2 (I.ok.nofr e) (I.ok.noex b o e),I.base.free b o (I.ok.bs b o e).1 (I.ok.bs b o e).2 (I.ok.noex b o e)⟩
theorem Inv.bk(I:Inv X g σ H s):∀b o,X.base.get? b=some o->s.heap.get? b=some o:=fun b o e=>(I.bs b o e).1
theorem Inv.mod(I:Inv X g σ H s):Mod X.K X.mg X.base:=I.ok.mod
theorem Inv.kIn(I:Inv X g σ H s):X.K.In s.heap:=I.ok.mod.kin.keeps I.bk
theorem Inv.nolimit(I:Inv X g σ H s):s.heap.NoLimit:=I.ok.mod.nolimit.keeps I.bk
theorem Inv.fr(I:Inv X g σ H s):∃m,Fr X.base X.env.locals s.heap m:=
 let ⟨m,b,_⟩:=I.loc
 ⟨m,b,I.bk,jd I.ok.bsz I.ok.above⟩
theorem Inv.lt(I:Inv X g σ H s):X.env.locals<s.heap.objs.size:=let ⟨_,b,_⟩:=I.loc;b.lt
theorem Inv.sz(I:Inv X g σ H s):X.s₀.heap.objs.size<=s.heap.objs.size:=jd I.ok.above (ZA I.lt)
theorem Inv.nofs(I:Inv X g σ H s){a:Addr}(h:s.heap.objs.size<=a):a∉X.fs:=fun hb=>by
 obtain⟨_,o,b,_⟩:=I.ok.funs.mem hb;exact absurd (jY (zN b) (jd I.sz h)) (vz _)
theorem Inv.cne(I:Inv X g σ H s):∀x c,X.env.cells.lookup x=some c->c≠X.env.locals:=fun x c e z=>by
 obtain⟨v,o,l,hd⟩:=I.cell x c e;obtain⟨m,⟨A,w,u,i,b,_⟩,_⟩:=I.loc;rw[z,i] at l;cases l;rw[b] at hd;cases hd
theorem Inv.funs(I:Inv X g σ H s):s.heap.FunFrames X.base X.outer:=by
 have all:∀(l:List Env),(∀b∈frs l,b∈X.fs)->X.s₀.heap.FunFrames X.base l->s.heap.FunFrames X.base l:=by
  intro l;induction l with
  | nil=>intro _ _;trivial
  | cons m r D=>
   intro hs u;obtain⟨hk,⟨L,o,i,w,A,hd⟩,C⟩:=u;have c:L∈X.fs:=hs L (by unfold frs;rw[YV,i];exact qI)
   obtain⟨E,e⟩:=I.base.slot L o A (I.ok.frf L c) c fun z=>I.ok.exfs L z c
   exact⟨hk,⟨L,_,i,w,e,hd⟩,D (fun b hb=>hs b (by unfold frs;rw[YV,i];exact jA _ hb)) C⟩
 exact all X.outer (fun _ hb=>hb) I.ok.funs
theorem Inv.stack(I:Inv X g σ H s):s.heap.FunFrames X.base X.stack:=by
 rcases I.ok.stk with e | ⟨e,b⟩
 ·rw[e];exact I.funs
 ·rw[e]
  obtain⟨m,c,_⟩:=I.loc;refine .cons (by rw[I.ok.kind];decide) b c ?_ I.funs
  exact Heap.get?_none_of_le (jd I.ok.bsz I.ok.above)
theorem Inv.stkSub(I:Inv X g σ H s):∀b∈frs X.stack,b∈X.env.locals::X.fs:=fun b hb=>by
 rcases I.ok.stk with e | ⟨e,c⟩
 ·rw[e] at hb;exact jA _ hb
 ·rw[e] at hb
  unfold frs at hb;rw[YV,c] at hb;exact hb
theorem Inv.stkFree(I:Inv X g σ H s):∀b∈frs X.stack,H b=none:=fun b hb=>by
 rcases qg.mp (I.stkSub b hb) with e | hb
 ·rw[e];exact I.free
 ·obtain⟨_,o,c,_⟩:=I.ok.funs.mem hb
  exact I.base.free b o c (I.ok.frf b hb) fun z=>I.ok.exfs b z hb
theorem Inv.step{g':Array GenState}{t':Nat}{d':Drawn}{ch:List Addr}(I:Inv X g σ H s)
  (C:∀b∈ch,(b∈X.ex\/X.s₀.heap.objs.size<=b)/\b≠X.env.locals/\(∀x c,X.env.cells.lookup x=some c->c≠b)/\∀p∈X.pn++g,p.1≠b)
  (D:∀b o,b≠X.env.locals->b∉X.fs->b∉ch->s.heap.get? b=some o->H b=none->h'.get? b=some o)
  (J:∀b o,b≠X.env.locals->b∈X.fs->b∉ch->s.heap.get? b=some o->H b=none->∃sl,h'.get? b=some { o with slots:=sl }) (w:∀b o,b∉ch->s.heap.get? b=some o->H b=none->B b=none)
  (M:∀b o,b∉ch->s.heap.get? b=some o->∃U,h'.get? b=some U)
  (a0:∀b L,H b=some (.tup L)->B b=some (.tup L)) (O:∀b o u,H b=some (.frz o u)->B b=some (.frz o u)) (Y:∀b ps,H b=some (.tbl ps)->∃Q,B b=some (.tbl (ps++Q)))
  (ns:∀m,s.heap.Ns X.env.locals m->h'.Ns X.env.locals m) (aa:HOk X.prog X.w B h') (hg:AllBare g') :
  Inv X g σ B { s with heap:=h',gens:=g',drawn:=d',toks:=t' }:=by
 have T:∀b o,X.s₀.heap.get? b=some o->b≠X.env.locals:=fun b o e=>qw (jY (zN e) I.ok.above)
 have G:∀b o,X.s₀.heap.get? b=some o->b∉X.ex->b∉ch:=fun b o e hx hb=>by
  rcases(C b hb).1 with z | z
  ·exact hx z
  ·exact absurd (jY (zN e) z) (vz _)
 have A:∀x c,X.env.cells.lookup x=some c->∀v,s.heap.IsCell c v->h'.IsCell c v:=fun x c e v ⟨o,N,hd⟩=>by
  have E:c∉ch:=fun z=>(C c z).2.2.1 x c e rfl
  by_cases hc:c∈X.fs
  ·obtain⟨sl,q⟩:=J c o (I.cne x c e) hc E N (I.freeC x c e)
   exact⟨_,q,hd⟩
  ·exact⟨o,D c o (I.cne x c e) hc E N (I.freeC x c e),hd⟩
 refine⟨I.ok,I.os,hg,⟨fun b o e n hb hx=>?_,fun b o e n hb hx=>?_,fun b o e n hx=>?_,fun b o e hx=>?_,fun b L e=>a0 b L (I.base.tups b L e),fun b o L e=>O b o L (I.base.frzs b o L e),fun b ps e=>?_⟩,?_,fun x c e=>?_,?_,fun x c e=>?_,fun p hp=>?_,aa,I.len⟩
 ·exact D b o (T b o e) hb (G b o e hx) (I.base.keep b o e n hb hx) (I.base.free b o e n hx)
 ·obtain⟨sl,e1⟩:=I.base.slot b o e n hb hx
  obtain⟨ab,e2⟩:=J b _ (T b o e) hb (G b o e hx) e1 (I.base.free b o e n hx);exact⟨ab,e2⟩
 ·obtain⟨U,e1⟩:=I.base.there b o e hx
  exact w b U (G b o e hx) e1 (I.base.free b o e n hx)
 ·obtain⟨U,e1⟩:=I.base.there b o e hx
  exact M b U (G b o e hx) e1
 ·obtain⟨m1,e1⟩:=I.base.tbls b ps e
  obtain⟨m2,e2⟩:=Y b _ e1;exact⟨m1++m2,by rw[e2,Array.append_assoc]⟩
 ·obtain⟨m,hn,hl⟩:=I.loc
  refine⟨m,ns m hn,fun i x v e1 e2 e3=>?_⟩
  obtain⟨u,r,l⟩:=hl i x v e1 e2 e3;refine⟨u,r,?_⟩
  rcases l with l | ⟨k,c,e,z⟩
  ·exact .inl l
  ·exact .inr ⟨k,c,e,A x c e _ z⟩
 ·obtain⟨v,z⟩:=I.cell x c e
  exact⟨v,A x c e v z⟩
 ·obtain⟨m,⟨o,_,_,N,_⟩,_⟩:=I.loc
  exact w _ o (fun z=>(C _ z).2.1 rfl) N I.free
 ·obtain⟨v,o,N,hd⟩:=I.cell x c e
  exact w c o (fun z=>(C c z).2.2.1 x c e rfl) N (I.freeC x c e)
 ·obtain⟨e,n,ne,nf,d⟩:=I.pin p hp
  have E:p.1∉ch:=fun z=>(C p.1 z).2.2.2 p hp rfl
  exact⟨D p.1 p.2 ne nf E e n,w p.1 p.2 E e n,ne,nf,d⟩
theorem Inv.un{t':Nat}(I:Inv X g σ H s)(u:Un X.fs [] H B s.heap h')(w:HOk X.prog X.w B h'):Inv X g σ B { s with heap:=h',toks:=t' }:=by
 obtain⟨m,⟨o,M,L,A,r⟩,_⟩:=id I.loc;obtain⟨T,C⟩:=u.any A I.free (by simp)
 exact I.step (g':=s.gens) (d':=s.drawn) (ch:=[]) (fun _ z=>nomatch z) (fun b o _ hb _ e n=>u.keep b o e n hb (by simp)) (fun b o _ hb _ e n=>u.slot b o e n hb (by simp)) (fun b o _ e n=>u.free b o e n (by simp)) (fun b o _ e=>u.there b o e (by simp)) u.tups u.frzs u.tbls (fun O D=>by
  obtain⟨Q,l,i,c,E⟩:=D;rw[A] at c;cases c
  exact⟨_,l,i,C,E⟩) w I.bare
theorem Inv.call{g':Array GenState}{t':Nat}{d':Drawn}{ch:List Addr}(I:Inv X g σ H s)(u:Un (frs X.stack) ch H B s.heap h')(D:HOk X.prog X.w B h')(hg:AllBare g')
  (i:∀b∈ch,(b∈X.ex\/X.s₀.heap.objs.size<=b)/\b≠X.env.locals/\(∀x c,X.env.cells.lookup x=some c->c≠b)/\∀p∈X.pn++g,p.1≠b) :
  Inv X g σ B { s with heap:=h',gens:=g',drawn:=d',toks:=t' }:=by
 obtain⟨m,⟨o,M,L,E,r⟩,_⟩:=id I.loc;obtain⟨Q,C⟩:=u.any E I.free fun z=>(i _ z).2.1 rfl
 exact I.step (ch:=ch) i (fun b o C hb hc e n=>u.keep b o e n (fun z=>(qg.mp (I.stkSub b z)).elim C hb) hc) (fun b o _ _ hc e n=>u.any e n hc) (fun b o hc e n=>u.free b o e n hc) (fun b o hc e=>u.there b o e hc) u.tups u.frzs u.tbls (fun N G=>by
  obtain⟨O,A,w,l,J⟩:=G;rw[E] at l;cases l
  exact⟨_,A,w,C,J⟩) D hg
theorem Inv.turned{t':Nat}{it:Addr}(I:Inv X g σ H s)(k:∀b o,b≠it->s.heap.get? b=some o->h'.get? b=some o)(E:H it=none)(l:it≠X.env.locals)
  (h1:it∈X.ex\/X.s₀.heap.objs.size<=it) (h2:∀x c,X.env.cells.lookup x=some c->c≠it) (C:∀p∈X.pn++g,p.1≠it):Inv X g σ H { s with heap:=h',toks:=t' }:=by
 have i:∀b u,H b=some u->b≠it:=fun b u e z=>by rw[z,E] at e;cases e
 refine I.step (g':=s.gens) (d':=s.drawn) (ch:=[it]) (fun b hb=>?_) (fun b o _ _ hc e _=>k b o (fun z=>hc (by simp[z])) e) (fun b o _ _ hc e _=>⟨o.slots,k b o (fun z=>hc (by simp[z])) e⟩) (fun _ _ _ _ n=>n)
  (fun b o hc e=>⟨o,k b o (fun z=>hc (by simp[z])) e⟩) (fun _ _ e=>e) (fun _ _ _ e=>e) (fun b N e=>⟨#[],by rw[e];simp⟩) (fun m D=>?_) (fun b u e=>?_) I.bare
 ·have e:b=it:=by simpa using hb
  subst e;exact⟨h1,l,h2,C⟩
 ·obtain⟨o,A,w,G,r⟩:=D
  exact⟨o,A,w,k _ o (qz l) G,r⟩
 ·refine(I.hok b u e).stay (fun c v hc q=>k c v ?_ q) (fun _ q=>q) fun _ _ q=>q
  rcases hc with z | z
  ·rw[z];exact i b u e
  ·exact i c _ z
theorem Inv.tok(I:Inv X g σ H s)(t:Nat):Inv X g σ H { s with toks:=t }:=I.un (h':=s.heap) (t':=t) Un.refl I.hok
theorem Inv.kept{t':Nat}(I:Inv X g σ H s)(k:∀b u,s.heap.get? b=some u->h'.get? b=some u):Inv X g σ H { s with heap:=h',toks:=t' }:=I.un (Un.kept k) (I.hok.kept k)
theorem Inv.laid{a:Addr}{o:HO}{t':Nat}(I:Inv X g σ H s)(k:∀b u,s.heap.get? b=some u->h'.get? b=some u)(hp:s.heap.objs.size<=a)(c:ObjOk X.prog X.w (upd H a o) h' a o) :
  Inv X g σ (upd H a o) { s with heap:=h',toks:=t' }:=I.un (Un.laid k hp (I.hok.fresh hp)) (I.hok.laid k hp c)
theorem Inv.write{x e:Addr}{o:HO}{w:Nat}(I:Inv X g σ H s)(m:Mut (H x))(l:e=x\/H e=some (.own x))(k:∀b u,b≠e->s.heap.get? b=some u->h'.get? b=some u)(c:∃u,h'.get? e=some u)
  (i:ObjOk X.prog X.w (upd H x o) h' x o):Inv X g σ (upd H x o) { s with heap:=h',toks:=w }:=I.un (Un.write m l k c) (I.hok.write m l k c i)
theorem Inv.weak{c:List (Option V)}(I:Inv X g σ H s)(u:c.length=σ.length)(w:∀(i:Nat) v,c[i]? =some (some v)->σ[i]? =some (some v)):Inv X g c H s:=
 ⟨I.ok,I.os,I.bare,I.base,let ⟨m,A,b⟩:=I.loc;⟨m,A,fun i x v e1 e2 l=>b i x v e1 (w i v e2) l⟩,I.cell,I.free,I.freeC,I.pin,I.hok,u.trans I.len⟩
theorem Inv.pins_of{b:List (Addr×Obj)}(I:Inv X g σ H s)(h:∀p∈b,s.heap.get? p.1=some p.2/\H p.1=none/\p.1≠X.env.locals/\p.1∉X.fs/\∀v,p.2.data≠.cell v):Inv X b σ H s:=
 ⟨I.ok,I.os,I.bare,I.base,I.loc,I.cell,I.free,I.freeC,fun p hp=>(zP.mp hp).elim (fun z=>I.pin p (qm _ z)) (h p),I.hok,I.len⟩
theorem Wq{N:List Str}(c:N.Nodup){i j:Nat}{x:Str}(a:N[i]? =some x)(b:N[j]? =some x):i=j:=by
 obtain⟨h1,e1⟩:=zL.mp a;obtain⟨h2,e2⟩:=zL.mp b;exact(yQ c).mp (e1.trans e2.symm)
theorem zbD{M:Model}{A:Around}{E:Value->Shared->Prop}{i:Nat}{x:Str}{v:V}{u:Value}{Q:Unit->Shared->Prop}(I:Inv X g σ H s)(hN:X.N.Nodup)(O:X.N[i]? =some x)(hx:Loc X.env.scope x)(r:RelV v u)
  (h:∀s',Inv X g (σ.set i (some v)) H s'->(∃a,Heap.SameBut a s.heap s'.heap/\(a=X.env.locals\/X.env.cells.lookup x=some a))->Q () s') (hf:X.fn x=true\/X.env.scope.names.lookup x=some .local:=by first| exact .inl rfl | exact .inr rfl | assumption):wpAny M A (storeName X.env x u) Q E s:=by
 obtain⟨m,hn,hl⟩:=id I.loc;have N:(X.env.scope.kind==.class||(X.env.scope.kind==.module&&X.env.locals != X.env.globals))=false:=by rw[I.ok.kind];rfl
 have T:i<σ.length:=by rw[I.len];exact(zL.mp O).1
 have C:=I.cne;have l:∀{a:Addr} {h':Heap},(∃o,s.heap.get? a=some o/\H a=none)->Heap.SameBut a s.heap h'->HOk X.prog X.w H h':=fun {a h'} ha hs b ob e=>by
  obtain⟨_,_,w⟩:=ha;refine(I.hok b ob e).stay (fun c w' hc q=>(hs.2 c ?_).trans q) (fun _ q=>q) fun _ _ q=>q
  rintro rfl;rcases hc with rfl | hc
  ·rw[w] at e;cases e
  ·rw[w] at hc;cases hc
 rcases hx with hk | hk
 ·refine wpAny_storeName_local hk hn (fun h' a0 hs=>?_) N
  obtain⟨oL,_,_,aa,_⟩:=id hn;refine h _ ⟨I.ok,I.os,I.bare,⟨fun b o e n hb hx=>?_,fun b o e n hb hx=>?_,I.base.free,fun b o e hx=>?_,I.base.tups,I.base.frzs,I.base.tbls⟩,⟨_,a0,fun j y v' e1 e2 e3=>?_⟩,fun y c e=>?_,I.free,I.freeC,fun p hp=>?_,l ⟨oL,aa,I.free⟩ hs,by simpa using I.len⟩ ⟨_,hs,.inl rfl⟩
  ·exact(hs.2 b (qw (jY (zN e) I.ok.above))).trans (I.base.keep b o e n hb hx)
  ·obtain⟨sl,e1⟩:=I.base.slot b o e n hb hx
   exact⟨sl,(hs.2 b (qw (jY (zN e) I.ok.above))).trans e1⟩
  ·obtain⟨o',e1⟩:=I.base.there b o e hx
   exact⟨o',(hs.2 b (qw (jY (zN e) I.ok.above))).trans e1⟩
  ·by_cases G:j=i
   ·subst G
    rw[O] at e1;cases e1
    rw[Vw T] at e2;cases e2;exact⟨u,r,.inl ⟨hk,by simp⟩⟩
   ·rw[Vs (qz G)] at e2
    obtain⟨u',r',q⟩:=hl j y v' e1 e2 e3;refine⟨u',r',?_⟩
    rcases q with ⟨k,e⟩ | ⟨k,c,e,z⟩
    ·refine .inl ⟨k,?_⟩
     have:y≠x:=fun e=>G (Wq hN e1 (e▸O))
     simp[this,e]
    ·exact .inr ⟨k,c,e,z.sameBut hs (C y c e)⟩
  ·obtain⟨w',z⟩:=I.cell y c e
   exact⟨w',z.sameBut hs (C y c e)⟩
  ·obtain⟨e,n,ne,nf,d⟩:=I.pin p hp
   exact⟨(hs.2 p.1 ne).trans e,n,ne,nf,d⟩
 ·have D:X.fn x=true:=by
   rcases hf with z | z
   ·exact z
   ·rw[z] at hk;cases hk
  obtain⟨c,hc⟩:=I.ok.has x (.inl hk);obtain⟨w',z⟩:=I.cell x c hc;refine wpAny_storeName_cell I.ok.kind hk hc z (fun h' J hs=>?_)
  obtain⟨oc,U,Y⟩:=id z;refine h { s with heap:=h' } ⟨I.ok,I.os,I.bare,⟨fun b o e n hb hx=>?_,fun b o e n hb hx=>?_,I.base.free,fun b o e hx=>?_,I.base.tups,I.base.frzs,I.base.tbls⟩,⟨m,hn.sameBut hs (qz (C x c hc)),fun j y v' e1 e2 e3=>?_⟩,fun y c' e=>?_,I.free,I.freeC,fun p hp=>?_,l ⟨oc,U,I.freeC x c hc⟩ hs,by simpa using I.len⟩ ⟨c,hs,.inr hc⟩
  ·exact(hs.2 b (qw (jY (zN e) (I.ok.cab x c D hc)))).trans (I.base.keep b o e n hb hx)
  ·obtain⟨sl,e1⟩:=I.base.slot b o e n hb hx
   exact⟨sl,(hs.2 b (qw (jY (zN e) (I.ok.cab x c D hc)))).trans e1⟩
  ·obtain⟨o',e1⟩:=I.base.there b o e hx
   exact⟨o',(hs.2 b (qw (jY (zN e) (I.ok.cab x c D hc)))).trans e1⟩
  ·by_cases G:j=i
   ·subst G
    rw[O] at e1;cases e1
    rw[Vw T] at e2;cases e2;exact⟨u,r,.inr ⟨.inl hk,c,hc,J⟩⟩
   ·rw[Vs (qz G)] at e2
    obtain⟨u',r',q⟩:=hl j y v' e1 e2 e3;refine⟨u',r',?_⟩
    rcases q with q | ⟨k,c',e,z'⟩
    ·exact .inl q
    ·refine .inr ⟨k,c',e,z'.sameBut hs ?_⟩
     rintro rfl;exact G (Wq hN e1 (I.ok.inj _ _ _ e hc▸O))
  ·by_cases L:c'=c
   ·subst L;exact⟨_,J⟩
   ·obtain⟨w2,z2⟩:=I.cell y c' e
    exact⟨w2,z2.sameBut hs L⟩
  ·obtain⟨e,n,ne,nf,d⟩:=I.pin p hp
   refine⟨(hs.2 p.1 ?_).trans e,n,ne,nf,d⟩
   intro q;rw[q,U] at e;have q':oc=p.2:=jH e;exact d w' (by rw[<- q'];exact Y)
theorem wI{M:Model}{A:Around}{E:Value->Shared->Prop}{i:Nat}{x:Str}{v:V}{u:Value}{Q:Unit->Shared->Prop}(I:Inv X g σ H s)(l:X.N.Nodup)(w:X.N[i]? =some x)(hx:Loc X.env.scope x)(r:RelV v u)
  (h:∀b,Inv X g (σ.set i (some v)) H b->Q () b) (m:X.fn x=true\/X.env.scope.names.lookup x=some .local:=by first| exact .inl rfl | exact .inr rfl | assumption):wpAny M A (storeName X.env x u) Q E s:=
 zbD I l w hx r (fun b c _=>h b c) m
theorem Inv.call'{s':Shared}{ch:List Addr}(I:Inv X g σ H s)(C:s'.os=s.os)(u:Un (frs X.stack) ch H B s.heap s'.heap)(l:HOk X.prog X.w B s'.heap)(hg:AllBare s'.gens)
  (i:∀b∈ch,(b∈X.ex\/X.s₀.heap.objs.size<=b)/\b≠X.env.locals/\(∀x c,X.env.cells.lookup x=some c->c≠b)/\∀p∈X.pn++g,p.1≠b):Inv X g σ B s':=by
 obtain⟨h',w,m,A,D⟩:=s';have e:D=s.os:=C;subst e;exact I.call (g':=w) (t':=A) (d':=m) u l hg i
end
abbrev XK:=Value->Option Addr->Hp->Prop
abbrev St:=List (Option V)
abbrev VK:=V->Hp->Prop
abbrev TE:=St->Hp->VK->Prop
abbrev TT:=St->Hp->(Bool->Hp->Prop)->Prop
abbrev TA:=St->Hp->(List V->Hp->Prop)->Prop
structure VC where
 nx:St->Hp->Prop
 rt:VK
 bk:St->Hp->Prop:=fun _ _=>False
 ct:St->Hp->Prop:=fun _ _=>False
abbrev TS:=VC->St->Hp->Prop
def EP(X:Cx)(b:List (Addr×Obj))(σ:St)(Q:VK)(u:Value)(g:Shared):Prop:=∃v c,Inv X b σ c g/\RelV v u/\Q v c
def TP(X:Cx)(c:List (Addr×Obj))(σ:St)(Q:Bool->Hp->Prop)(b:Bool)(i:Shared):Prop:=∃g,Inv X c σ g i/\Q b g
def AP(X:Cx)(b:List (Addr×Obj))(σ:St)(Q:List V->Hp->Prop)(l:List Value)(i:Shared):Prop:=∃g c,Inv X b σ c i/\Vals g l/\Q g c
def SP(X:Cx)(b:List (Addr×Obj))(D:VC)(f:Flow)(i:Shared):Prop:=
 match f with
 | .next=>∃g c,Inv X b g c i/\D.nx g c
 | .brk=>∃g c,Inv X b g c i/\D.bk g c
 | .cont=>∃g c,Inv X b g c i/\D.ct g c
 | .ret u=>∃v g c,Inv X b g c i/\RelV v u/\D.rt v c
def PE(X:Cx)(e:Expr)(t:TE):Prop:=
 ∀(b:List (Addr×Obj)) (s:Shared) (σ:St) (H:Hp) (Q:VK),Inv X b σ H s->t σ H Q->wpAny (model X.prog X.w) X.A (eval e X.env) (EP X b σ Q) X.xe s
def PT(X:Cx)(e:Expr)(t:TT):Prop:=
 ∀(b:List (Addr×Obj)) (s:Shared) (σ:St) (H:Hp) (Q:Bool->Hp->Prop),Inv X b σ H s->t σ H Q->wpAny (model X.prog X.w) X.A (isTrue e X.env (eval e X.env)) (TP X b σ Q) X.xe s
def PW(X:Cx)(e:Expr)(t:TT):Prop:=
 ∀(c:Sem Value) (b:List (Addr×Obj)) (s:Shared) (σ:St) (H:Hp) (Q:Bool->Hp->Prop),Inv X b σ H s->t σ H Q->wpAny (model X.prog X.w) X.A (isTrue e X.env c) (TP X b σ Q) X.xe s
theorem PW.pt{X:Cx}{e:Expr}{t:TT}(h:PW X e t):PT X e t:=h _
def PA(X:Cx)(g:List Expr)(t:TA):Prop:=
 ∀(c:Pos) (b:List (Addr×Obj)) (s:Shared) (σ:St) (H:Hp) (Q:List V->Hp->Prop),Inv X b σ H s->t σ H Q->wpAny (model X.prog X.w) X.A (spliced (backTo c (starEach g X.env))) (AP X b σ Q) X.xe s
def PS(X:Cx)(st:Stmt)(t:TS):Prop:=
 ∀(b:List (Addr×Obj)) (s:Shared) (σ:St) (H:Hp) (D:VC),Inv X b σ H s->t D σ H->wpAny (model X.prog X.w) X.A (exec st X.env) (SP X b D) X.xe s
def PSs(X:Cx)(st:List Stmt)(t:TS):Prop:=
 ∀(b:List (Addr×Obj)) (s:Shared) (σ:St) (H:Hp) (D:VC),Inv X b σ H s->t D σ H->wpAny (model X.prog X.w) X.A (execs st X.env) (SP X b D) X.xe s
theorem thn{α:Type}{t:Sem α}{Q b:α->Shared->Prop}{M:Model}{A:Around}{E:Value->Shared->Prop}{s:Shared}(h:wpAny M A t Q E s)(c:∀a s,Q a s->b a s):wpAny M A t b E s:=qW h c fun _ _ x=>x
section
variable{X:Cx}
inductive IsB(x:V)(H:Hp)(Q:Bool->Hp->Prop):Prop
 | mk (c:Bool) (h:x=.bl c) (q:Q c H):IsB x H Q
inductive IsI(x:V)(H:Hp)(Q:Int->Hp->Prop):Prop
 | mk (i:Int) (h:x=.int i) (q:Q i H):IsI x H Q
inductive ziI(c:List V)(H:Hp)(Q:V->V->Hp->Prop):Prop
 | mk (v w:V) (h:c=[v,w]) (q:Q v w H):ziI c H Q
inductive zga(i:Nat)(σ:St)(H:Hp)(Q:VK):Prop
 | mk (v:_) (_:σ[i]? =some (some v)) (_:Q v H):zga i σ H Q
def tC(v:V):TE:=fun _ H Q=>Q v H
theorem zgC{i:Nat}{x:Str}{g:Pos}(J:X.N[i]? =some x)(hv:Vis X.env.scope x)(hd:(x==("__debug__":Str))=false:=by decide)(G:(x==("__classdict__":Str))=false:=by decide):PE X (.Name x g) (zga i):=by
 intro E s σ H Q I h;obtain⟨v,e,h⟩:=h;obtain⟨m,N,L⟩:=I.loc;obtain⟨u,r,l⟩:=L i x v J e hv;have fin:EP X E σ Q u s:=⟨v,H,I,r,h⟩;rcases l with ⟨hk,M⟩ | ⟨hk,c,hc,w⟩
 ·exact wpAny_Name (wpAny_loadName_local I.ok.kind hk N M fin) hd
 ·rcases hk with hk | hk
  ·exact wpAny_Name (wpAny_loadName_cell I.ok.kind hk hc w fin) hd
  ·exact wpAny_Name (wpAny_loadName_free I.ok.kind hk hc w fin G) hd
theorem ze{i j g}:PE X (.Constant (.int i) j g) (tC (.int i)):=fun _ _ _ H _ I h=>wpAny_Constant_int ⟨.int i,H,I.tok _,⟨_,rfl⟩,h⟩
theorem vg{b j g}:PE X (.Constant (.bool b) j g) (tC (.bl b)):=fun _ _ _ H _ I h=>Constant_bool ⟨.bl b,H,I,rfl,h⟩
theorem yE{j g}:PE X (.Constant .none j g) (tC .non):=fun _ _ _ H _ I h=>Constant_none ⟨.non,H,I,rfl,h⟩
theorem jz{x j g}:PE X (.Constant (.str x) j g) (tC (.str x)):=fun _ _ _ H _ I h=>Calls.Constant_str ⟨.str x,H,I.tok _,⟨_,rfl⟩,h⟩
def Gl(X:Cx)(x:Str):Prop:=X.env.kindOf x=some .globalImplicit
theorem zaV{E:Value->Shared->Prop}{c:List (Addr×Obj)}{s:Shared}{σ:St}{H:Hp}{x:Str}{u:Value}{g:Pos}{Q:Value->Shared->Prop}(I:Inv X c σ H s)(hg:Gl X x)(i:X.mg x=some u)(h:Q u s)
  (hd:(x==("__debug__":Str))=false:=by decide):wpAny (model X.prog X.w) X.A (eval (.Name x g) X.env) Q E s:=
 zdQ I.ok.kind hg (Calls.loadGlobal_global (by rw[I.ok.glob];exact I.mod.glob.keeps I.bk) i h) hd
theorem vD{E:Value->Shared->Prop}{c:List (Addr×Obj)}{s:Shared}{σ:St}{H:Hp}{x:Str}{u:Value}{g:Pos}{Q:Value->Shared->Prop}(I:Inv X c σ H s)(hg:Gl X x)(i:X.mg x=none)(hv:bootBuiltins x=some u)(h:Q u s)
  (l:x ≠ "__name__" :=by decide) (hd:(x==("__debug__":Str))=false:=by decide):wpAny (model X.prog X.w) X.A (eval (.Name x g) X.env) Q E s:=by
 obtain⟨m,h1,h2⟩:=I.mod.blt;exact zdQ I.ok.kind hg (Calls.loadGlobal_builtin (by rw[I.ok.glob];exact I.mod.glob.keeps I.bk) i (by rw[I.ok.blt];exact h1.keeps I.bk) ((h2 x l).trans hv) h) hd
theorem y3{x:Str}{v:V}{u:Value}{g:Pos}(hg:Gl X x)(c:X.mg x=some u)(r:RelV v u)(hd:(x==("__debug__":Str))=false:=by decide):PE X (.Name x g) (tC v):=
 fun _ _ _ H _ I h=>zaV I hg c ⟨v,H,I,r,h⟩ hd
theorem vy{x:Str}{v:V}{u:Value}{g:Pos}(hg:Gl X x)(c:X.mg x=none)(hv:bootBuiltins x=some u)(r:RelV v u)(i:x ≠ "__name__" :=by decide)(hd:(x==("__debug__":Str))=false:=by decide):PE X (.Name x g) (tC v):=
 fun _ _ _ H _ I h=>vD I hg c hv ⟨v,H,I,r,h⟩ i hd
variable{a b:Expr}{A C:TE}{g:Pos}
def PC(X:Cx)(i:CmpOp)(a b:Expr)(t:TE):Prop:=
 ∀(c:List (Addr×Obj)) (s:Shared) (σ:St) (H:Hp) (Q:VK),Inv X c σ H s->t σ H Q ->
  wpAny (model X.prog X.w) X.A (eval a X.env) (fun v l=>wpAny (model X.prog X.w) X.A (eval b X.env) (fun u m=>wpAny (model X.prog X.w) X.A (compareOp i v u) (EP X c σ Q) X.xe m) X.xe l) X.xe s
theorem zdi(b:Expr){c:CmpOp}(h:c≠.In)(h2:c≠.NotIn):behindInMarks c b=false:=by
 have e1:(c==CmpOp.In)=false:=by cases c<;>first| rfl | exact absurd rfl h
 have e2:(c==CmpOp.NotIn)=false:=by cases c<;>first| rfl | exact absurd rfl h2
 cases b<;>simp[behindInMarks,e1,e2]
def tB(t:TE):TT:=fun σ H Q=>t σ H fun x c=>IsB x c Q
theorem zgt{l:CmpOp}{t:TE}(h:PC X l a b t)(h1:behindInMarks l b=false:=by first| exact zdi _ (by decide) (by decide) | rfl):PT X (.Compare a [l] [b] g) (tB t):=by
 intro i s σ H Q I E;refine wpAny_isTrue_Compare1 (thn (h i s σ H _ I E) fun v s1 h1=>thn h1 fun u s2 h2=>thn h2 fun c L ⟨x,m,w,J,G⟩=>?_) h1
 obtain⟨d,rfl,q⟩:=G;cases J;exact yq ⟨m,w,q⟩
theorem xx{e:Expr}{t:TE}(h:PE X e t)(u:∀c,isTrue e X.env c=(do let v<-c;standAt e.pos;holding [v] (truthy v)):=by intro _;rfl):PT X e (tB t):=by
 intro i s σ H Q I w;refine isTrue_plain (thn (h i s σ H _ I w) fun v s1 ⟨x,l,m,G,E⟩=>?_) (u _)
 obtain⟨d,rfl,q⟩:=E;cases G;exact yq ⟨l,m,q⟩
variable{B D:TT}{rest:List Expr}
def ziZ(t u:TT):TT:=fun σ H Q=>t σ H fun c i=>if c=true then u σ i Q else Q false i
def tOr(t u:TT):TT:=fun σ H Q=>t σ H fun c i=>if c=true then Q true i else u σ i Q
def ziT(t:TT):TT:=fun σ H Q=>t σ H fun c i=>Q (!c) i
theorem yY(l:PT X a B):PW X (.BoolOp .And [a] g) B:=by
 intro m i s σ H Q I h;refine isTrue_and (thn (l i s σ H Q I h) fun c s1 e=>?_)
 cases c with
 | true=>exact isTrue_and_nil e
 | false=>exact e
theorem wL(l:PT X a B):PW X (.BoolOp .Or [a] g) B:=by
 intro m i s σ H Q I h;refine isTrue_or (thn (l i s σ H Q I h) fun c s1 e=>?_)
 cases c with
 | false=>exact isTrue_or_nil e
 | true=>exact e
theorem Qy(w:PT X a B)(hb:PW X (.BoolOp .And (b::rest) g) D):PW X (.BoolOp .And (a::b::rest) g) (ziZ B D):=by
 intro E i s σ H Q I h;refine isTrue_and (thn (w i s σ H _ I h) fun c s1 ⟨l,m,u⟩=>?_)
 cases c with
 | true=>exact hb E i s1 σ l Q m u
 | false=>exact⟨l,m,u⟩
theorem vL(w:PT X a B)(hb:PW X (.BoolOp .Or (b::rest) g) D):PW X (.BoolOp .Or (a::b::rest) g) (tOr B D):=by
 intro E i s σ H Q I h;refine isTrue_or (thn (w i s σ H _ I h) fun c s1 ⟨l,m,u⟩=>?_)
 cases c with
 | true=>exact⟨l,m,u⟩
 | false=>exact hb E i s1 σ l Q m u
theorem Qz(m:PT X a B):PT X (.UnaryOp .Not a g) (ziT B):=by
 intro i s σ H Q I h;exact isTrue_not (m i s σ H (fun c l=>Q (!c) l) I h)
def zhI(A C:TE):TE:=fun σ H Q=>A σ H fun x i=>IsB x i fun c i=>if c=true then C σ i Q else Q (.bl false) i
def ziS(A C:TE):TE:=fun σ H Q=>A σ H fun x i=>IsB x i fun c i=>if c=true then Q (.bl true) i else C σ i Q
def zhA(A:TE):TE:=fun σ H Q=>A σ H fun x i=>IsB x i fun c i=>Q (.bl (!c)) i
theorem we{l}{t:TE}(h:PE X a t):PE X (.BoolOp l [a] g) t:=fun c s σ H Q I i=>BoolOp_one (h c s σ H Q I i)
theorem yF(w:PE X a A)(hb:PE X (.BoolOp .And (b::rest) g) C):PE X (.BoolOp .And (a::b::rest) g) (zhI A C):=by
 intro i s σ H Q I h;refine BoolOp_and (thn (w i s σ H _ I h) fun v s1 ⟨x,m,u,E,l⟩=>?_)
 obtain⟨c,rfl,l⟩:=l;cases E;refine yq ?_
 cases c with
 | true=>exact hb i s1 σ m Q u l
 | false=>exact⟨.bl false,m,u,rfl,l⟩
theorem zfT(w:PE X a A)(hb:PE X (.BoolOp .Or (b::rest) g) C):PE X (.BoolOp .Or (a::b::rest) g) (ziS A C):=by
 intro i s σ H Q I h;refine BoolOp_or (thn (w i s σ H _ I h) fun v s1 ⟨x,m,u,E,l⟩=>?_)
 obtain⟨c,rfl,l⟩:=l;cases E;refine yq ?_
 cases c with
 | false=>exact hb i s1 σ m Q u l
 | true=>exact⟨.bl true,m,u,rfl,l⟩
theorem zgD(w:PE X a A):PE X (.UnaryOp .Not a g) (zhA A):=by
 intro i s σ H Q I h;refine UnaryOp_ (thn (w i s σ H _ I h) fun v s1 ⟨x,m,u,E,l⟩=>?_)
 obtain⟨c,rfl,l⟩:=l;cases E;exact not_of (yq ⟨.bl (!c),m,u,rfl,l⟩)
def tIf(t:TT)(A C:TE):TE:=fun σ H Q=>t σ H fun c i=>if c=true then A σ i Q else C σ i Q
theorem vf{c:Expr}(hc:PT X c B)(w:PE X a A)(hb:PE X b C):PE X (.IfExp c a b g) (tIf B A C):=by
 intro i s σ H Q I h;refine wpAny_IfExp (thn (hc i s σ H _ I h) fun d s1 ⟨l,m,u⟩=>?_)
 cases d with
 | true=>exact w i s1 σ l Q m u
 | false=>exact hb i s1 σ l Q m u
end
def SqL(K:W.Frag)(H:Hp)(a:Addr)(c:List V):Prop:=
 Rd H a (.lst c) \/
  ∃(o:Obj) (b:Array Value) (n:Nat),K.lookup a=some o/\o.cls=.type "list" /\ o.dict=none/\o.data=.seq b n/\b.size<=sizeLine/\Vals c b.toList
def SqT(K:W.Frag)(H:Hp)(a:Addr)(c:List V):Prop:=
 Rd H a (.tup c) \/
  ∃(o:Obj) (b:Array Value) (n:Nat),K.lookup a=some o/\o.cls=.type "tuple" /\ o.data=.seq b n/\b.size<=sizeLine/\Vals c b.toList
def zi5:Value->Option V
 | .none=>some .non
 | .bool b=>some (.bl b)
 | .int i _=>some (.int i)
 | .str x _=>some (.str x)
 | .bytes b _=>some (.byt b)
 | .float b _=>some (.flt b)
 | .ref a=>some (.ref a)
 | .type n=>some (.ty n)
 | _=>none
theorem RelV.abs{x:V}{u:Value}(r:RelV x u):zi5 u=some x:=by
 cases x with
 | non=>cases r;rfl
 | bl _=>cases r;rfl
 | int _=>obtain⟨t,rfl⟩:=r;rfl
 | str _=>obtain⟨t,rfl⟩:=r;rfl
 | byt _=>obtain⟨t,rfl⟩:=r;rfl
 | flt _=>obtain⟨t,rfl⟩:=r;rfl
 | ref _=>cases r;rfl
 | ty _=>cases r;rfl
theorem RelV.inj{x y:V}{u:Value}(r:RelV x u)(q:RelV y u):x=y:=jH (r.abs.symm.trans q.abs)
theorem Vals.inj:∀{c g:List V} {b:List Value},Vals c b->Vals g b->c=g
 | _,_,_,.nil,.nil=>rfl
 | _,_,_,.cons r t,.cons i l=>by rw[r.inj i,Vals.inj t l]
section
variable{X:Cx}{b:List (Addr×Obj)}{σ:St}{H:Hp}{s:Shared}{a:Addr}{c g:List V}
theorem SqL.of{K:W.Frag}(h:H a=some (.lst c)):SqL K H a c:=.inl (.inl h)
def u7:=@SqL.of
theorem SqT.of{K:W.Frag}(h:H a=some (.tup c)):SqT K H a c:=.inl (.inl h)
def u8:=@SqT.of
theorem Inv.list(I:Inv X b σ H s)(h:SqL X.K H a c):∃i:List Value,Vals c i/\PlainL s.heap a i.toArray/\c.length<=sizeLine:=by
 rcases h with h | ⟨o,i,n,hk,hc,hd,hs,l,r⟩
 ·obtain⟨z,i,n,r,e⟩:=h.ok I.hok
  exact⟨i,r,⟨_,n,e,rfl,rfl,rfl⟩,z⟩
 ·refine⟨i.toList,r,⟨o,n,I.kIn a o hk,hc,hd,by simpa using hs⟩,?_⟩
  have e:=r.length;simp only[ZX] at e;omega
theorem Inv.tuple(I:Inv X b σ H s)(h:SqT X.K H a c):∃i:List Value,Vals c i/\IsTup s.heap a i.toArray/\c.length<=sizeLine:=by
 rcases h with h | ⟨o,i,n,hk,hc,hs,l,r⟩
 ·obtain⟨z,i,r,p⟩:=h.ok I.hok
  exact⟨i,r,p.1,z⟩
 ·refine⟨i.toList,r,⟨o,I.kIn a o hk,hc,n,by simpa using hs⟩,?_⟩
  have e:=r.length;simp only[ZX] at e;omega
theorem Inv.list_inj(I:Inv X b σ H s)(h:SqL X.K H a c)(A:SqL X.K H a g):c=g:=by
 obtain⟨l,r,⟨o,n,e,_,_,d⟩,_⟩:=I.list h;obtain⟨i,B,⟨D,C,u,_,_,m⟩,_⟩:=I.list A;rw[e] at u;cases u
 rw[d] at m;injection m with w _;have:l=i:=by simpa using congrArg Array.toList w
 subst this;exact r.inj B
theorem Inv.tuple_inj(I:Inv X b σ H s)(h:SqT X.K H a c)(A:SqT X.K H a g):c=g:=by
 obtain⟨l,r,⟨o,e,_,n,d⟩,_⟩:=I.tuple h;obtain⟨i,B,⟨D,u,_,C,m⟩,_⟩:=I.tuple A;rw[e] at u;cases u
 rw[d] at m;injection m with w _;have:l=i:=by simpa using congrArg Array.toList w
 subst this;exact r.inj B
end
abbrev Cx.wish(X:Cx)(E:Value->Shared->Prop):Cx:={ X with xe:=E }
abbrev Cx.nox(X:Cx):Cx:=X.wish fun _ _=>False
theorem Cx.Ok.wish{X:Cx}(ok:X.Ok)(E:Value->Shared->Prop):(X.wish E).Ok:=
 ⟨ok.mod,ok.kind,ok.glob,ok.blt,ok.above,ok.inj,ok.has,ok.cab,ok.hd,ok.frames,ok.stk,ok.exf,ok.bs,ok.bsz,ok.noex,ok.exfs,ok.funs,ok.frf⟩
theorem Cx.Ok.unwish{X:Cx}{E:Value->Shared->Prop}(ok:(X.wish E).Ok):X.Ok:=
 ⟨ok.mod,ok.kind,ok.glob,ok.blt,ok.above,ok.inj,ok.has,ok.cab,ok.hd,ok.frames,ok.stk,ok.exf,ok.bs,ok.bsz,ok.noex,ok.exfs,ok.funs,ok.frf⟩
section
variable{X:Cx}{b:List (Addr×Obj)}{σ:St}{H:Hp}{s:Shared}{E:Value->Shared->Prop}
theorem Inv.wish(I:Inv X b σ H s)(E:Value->Shared->Prop):Inv (X.wish E) b σ H s:=⟨I.ok.wish E,I.os,I.bare,I.base,I.loc,I.cell,I.free,I.freeC,I.pin,I.hok,I.len⟩
theorem Inv.unwish(I:Inv (X.wish E) b σ H s):Inv X b σ H s:=⟨I.ok.unwish,I.os,I.bare,I.base,I.loc,I.cell,I.free,I.freeC,I.pin,I.hok,I.len⟩
theorem SP.unwish{D:VC}{f:Flow}{i:Shared}(h:SP (X.wish E) b D f i):SP X b D f i:=by
 cases f with
 | next=>obtain⟨g,c,I,q⟩:=h;exact⟨g,c,I.unwish,q⟩
 | brk=>obtain⟨g,c,I,q⟩:=h;exact⟨g,c,I.unwish,q⟩
 | cont=>obtain⟨g,c,I,q⟩:=h;exact⟨g,c,I.unwish,q⟩
 | ret u=>obtain⟨v,g,c,I,r,q⟩:=h;exact⟨v,g,c,I.unwish,r,q⟩
theorem PE.nox{e:Expr}{t:TE}(h:PE X.nox e t):PE X e t:=fun b s σ H Q I i=>
 qW (h b s σ H Q (I.wish _) i) (fun _ _ ⟨v,c,g,r,q⟩=>⟨v,c,g.unwish,r,q⟩) fun _ _ z=>False.elim z
theorem PT.nox{e:Expr}{t:TT}(h:PT X.nox e t):PT X e t:=fun b s σ H Q I i=>
 qW (h b s σ H Q (I.wish _) i) (fun _ _ ⟨c,g,q⟩=>⟨c,g.unwish,q⟩) fun _ _ z=>False.elim z
theorem PSs.nox{st:List Stmt}{t:TS}(h:PSs X.nox st t):PSs X st t:=fun b s σ H D I c=>
 qW (h b s σ H D (I.wish _) c) (fun _ _ q=>q.unwish) fun _ _ z=>False.elim z
end
section
variable{X:Cx}{st:Stmt}{rest:List Stmt}{t u:TS}{e:Expr}{i:TE}{g:Pos}
def zhC:TS:=fun D σ H=>D.nx σ H
def ziP(t u:TS):TS:=fun D σ H=>t { D with nx:=u D } σ H
theorem qy:PSs X [] zhC:=fun _ _ σ H _ I h=>wpAny_execs_nil ⟨σ,H,I,h⟩
theorem zf(h1:PS X st t)(h2:PSs X rest u):PSs X (st::rest) (ziP t u):=by
 intro b s σ H D I h;refine wpAny_execs_cons (thn (h1 b s σ H { D with nx:=u D } I h) fun f s1 q=>?_)
 cases f with
 | next=>
  obtain⟨m,c,l,q⟩:=q;exact h2 b s1 m c D l q
 | ret v=>exact q
 | brk=>exact q
 | cont=>exact q
theorem zk(h1:PS X st t):PSs X [st] t:=by
 intro b s σ H D I h;refine wpAny_execs_cons (thn (h1 b s σ H D I h) fun f s1 q=>?_)
 cases f with
 | next=>exact wpAny_execs_nil q
 | ret v=>exact q
 | brk=>exact q
 | cont=>exact q
theorem Inv.quiet{b:List (Addr×Obj)}{σ:St}{H:Hp}{s:Shared}(I:Inv X b σ H s):interactive X.env=false:=by simp[interactive,I.ok.kind]
def zhE(i:TE):TS:=fun D σ H=>i σ H fun _ b=>D.nx σ b
theorem qK(m:PE X e i)(hs:swapsWith e none g.line X.env=pure false:=by rfl):PS X (.Expr e g) (zhE i):=by
 intro b s σ H D I h;exact wpAny_Expr_any (thn (m b s σ H _ I h) fun v s1 ⟨x,c,l,A,w⟩=>⟨σ,c,l,w⟩) I.quiet hs
def ziQ(i:TE):TS:=fun D σ H=>i σ H D.rt
theorem zC(m:PE X e i):PS X (.Return (some e) g) (ziQ i):=by
 intro b s σ H D I h;exact wpAny_Return_some (thn (m b s σ H _ I h) fun v s1 ⟨x,c,l,A,w⟩=>⟨x,σ,c,l,A,w⟩)
def ziV(c:TT)(t u:TS):TS:=fun D σ H=>c σ H fun b l=>if b=true then t D σ l else u D σ l
theorem jq{c:Expr}{a b:List Stmt}{B:TT}(hc:PT X c B)(C:PSs X a t)(hb:PSs X b u):PS X (.If c a b g) (ziV B t u):=by
 intro l s σ H D I h;refine wpAny_If (thn (hc l s σ H _ I h) fun d s1 ⟨m,w,A⟩=>?_)
 cases d with
 | true=>exact C l s1 σ m D w A
 | false=>exact hb l s1 σ m D w A
end
abbrev TG:=V->St->Hp->(St->Hp->Prop)->Prop
abbrev TGs:=List V->St->Hp->(St->Hp->Prop)->Prop
def PG(X:Cx)(b:Expr)(t:TG):Prop:=
 ∀(c:List (Addr×Obj)) (s:Shared) (σ:St) (H:Hp) (v:V) (u:Value) (Q:St->Hp->Prop),Inv X c σ H s->RelV v u->t v σ H Q ->
  wpAny (model X.prog X.w) X.A (assign b X.env u) (fun _ l=>∃i g,Inv X c i g l/\Q i g) X.xe s
def PGs(X:Cx)(u:List Expr)(t:TGs):Prop:=
 ∀(b:List (Addr×Obj)) (s:Shared) (σ:St) (H:Hp) (i:List V) (g:List Value) (Q:St->Hp->Prop),Inv X b σ H s->Vals i g->t i σ H Q ->
  wpAny (model X.prog X.w) X.A (assignInOrder ((assignEach u X.env).map (·.2)) g) (fun _ m=>∃l c,Inv X b l c m/\Q l c) X.xe s
abbrev zhp:=V->V->V->Hp->(Hp->Prop)->Prop
def zhr(X:Cx)(t:zhp):Prop:=
 ∀(b:List (Addr×Obj)) (s:Shared) (σ:St) (H:Hp) (o i v:V) (l g u:Value) (Q:Hp->Prop),Inv X b σ H s->RelV o l->RelV i g->RelV v u->t o i v H Q ->
  wpAny (model X.prog X.w) X.A (setItem l g u) (fun _ m=>∃c,Inv X b σ c m/\Q c) X.xe s
abbrev TIp:=V->V->Hp->VK->Prop
def PIp(X:Cx)(c:Operator)(t:TIp):Prop:=
 ∀(b:List (Addr×Obj)) (s:Shared) (σ:St) (H:Hp) (x y:V) (v u:Value) (Q:VK),Inv X b σ H s->RelV x v->RelV y u->t x y H Q ->
  wpAny (model X.prog X.w) X.A (inplaceOp c v u) (EP X b σ Q) X.xe s
section
variable{X:Cx}{A:Pos}
def vm(i:Nat):TG:=fun v σ H Q=>Q (σ.set i (some v)) H
theorem zA{i:Nat}{x:Str}(g:X.N.Nodup)(m:X.N[i]? =some x)(hx:Loc X.env.scope x)(l:X.fn x=true\/X.env.scope.names.lookup x=some .local:=by first| exact .inl rfl | exact .inr rfl | assumption):PG X (.Name x A) (vm i):=by
 intro b s σ H v u Q I r h;exact wpAny_assign_Name (wI I g m hx r (fun w c=>⟨_,H,c,h⟩) l)
def zdx:TGs:=fun b σ H Q=>b=[]/\Q σ H
inductive yk(t:TG)(u:TGs)(b:List V)(σ:St)(H:Hp)(Q:St->Hp->Prop):Prop
 | mk (v r:_) (_:b=v::r) (_:t v σ H fun g c=>u r g c Q):yk t u b σ H Q
theorem jv:PGs X [] zdx:=by
 intro b s σ H g c Q I r h;obtain⟨e,h⟩:=h;subst e;cases r;exact assignInOrder_nil ⟨σ,H,I,h⟩
theorem zK{e:Expr}{c:List Expr}{t:TG}{u:TGs}(h1:PG X e t)(h2:PGs X c u)
  (hs:(assignEach (e::c) X.env).map (·.2)=assign e X.env::(assignEach c X.env).map (·.2):=by rfl):PGs X (e::c) (yk t u):=by
 intro b s σ H D B Q I r h;obtain⟨v,C,e1,h⟩:=h;subst e1;cases r with
 | cons r m=>
  rw[hs];refine assignInOrder_cons (thn (h1 b s σ H _ _ _ I r h) fun _ s1 ⟨w,g,i,l⟩=>?_)
  exact h2 b s1 w g _ _ Q i m l
inductive zb0(K:W.Frag)(n:Nat)(t:TGs)(v:V)(σ:St)(H:Hp)(Q:St->Hp->Prop):Prop
 | mk (a b:_) (_:v=.ref a) (_:SqT K H a b) (_:b.length=n) (_:t b σ H Q):zb0 K n t v σ H Q
theorem jN{g:List Expr}{k:Nat}{t:TGs}{n:Nat}(hc:X.calm=true)(h:PGs X g t)
  (D:(assignEach g X.env).length=n:=by rfl) (i:(assignEach g X.env).findIdx? (·.1)=none:=by rfl):PG X (.Tuple g k A) (zb0 X.K n t):=by
 intro c s σ H v u Q I r l;obtain⟨a,J,e1,hq,C,l⟩:=l;subst e1;cases r;obtain⟨G,m,E,L⟩:=I.tuple hq;refine assign_Tuple_tuple (I.ok.hd hc) E (by simp[D,<- C,m.length]) i fun B hx=>?_
 have w:Inv X c σ H { s with heap:=B }:=I.kept (t':=s.toks) fun b o e=>hx b o (qw (zN e)) e
 exact h c _ σ H J _ Q w (by simpa using m) l
def zi3(to l:TE)(t:zhp):TG:=fun v σ H Q=>to σ H fun o b=>l σ b fun i c=>t o i v c fun g=>Q σ g
theorem Zq{o i:Expr}{to l:TE}{t:zhp}(L:PE X o to)(J:PE X i l)(hs:zhr X t)
  (G:∀v,assign (.Subscript o i A) X.env v=(do
   let c<-holding [v] (eval o X.env)
   let g<-holding [v,c] (eval i X.env)
   standAt A
   holding [v,c,g] (setItem c g v)
   release [v,c,g] []):=by intro _;rfl):PG X (.Subscript o i A) (zi3 to l t):=by
 intro b s σ H v u Q I r h;rw[G];refine zm (vW (thn (L b s σ H _ I h) fun c s1 ⟨x,m,C,T,M⟩=>?_))
 refine zm (vW (thn (J b s1 σ m _ C M) fun g s2 ⟨y,w,D,U,N⟩=>?_))
 refine zm (yo (zm (vW (thn (hs b s2 σ w x y v c g u _ D T U r N) fun _ Y ⟨B,E,O⟩=>?_))))
 exact wpAny_release ⟨σ,B,E,O⟩
def W9(c:TE)(g:TG):TS:=fun D σ H=>c σ H fun x b=>g x σ b D.nx
theorem xc{c e:Expr}{i:TE}{g:TG}(u:PE X e i)(hg:PG X c g)(hs:swapsWithSole [c] e A.line X.env=pure false:=by rfl)(w:swappedStores [c] e X.env=pure none:=by rfl)
  (h1:(assignEach [c] X.env).map (·.2)=[assign c X.env]:=by rfl):PS X (.Assign [c] e A) (W9 i g):=by
 intro b s σ H D I h;refine wpAny_Assign_stores (thn (u b s σ H _ I h) fun v s1 ⟨x,l,m,C,B⟩=>?_) hs w
 rw[h1];exact thn (hg b s1 σ l x v _ m C B) fun _ s2 q=>q
theorem zG{i:Nat}{x:Str}{e:Expr}{g:TE}{b:Pos}(w:X.N.Nodup)(E:X.N[i]? =some x)(hx:Loc X.env.scope x)(B:PE X e g)(hs:swapsWith e (some (.Name x b)) A.line X.env=pure false:=by rfl)(C:X.fn x=true\/X.env.scope.names.lookup x=some .local:=by first| exact .inl rfl | exact .inr rfl | assumption) :
  PS X (.Assign [.Name x b] e A) (W9 g (vm i)):=by
 intro c s σ H D I h;refine wpAny_Assign_Name (thn (B c s σ H _ I h) fun v s1 ⟨y,l,m,J,G⟩=>?_) hs
 exact wI m w E hx J (fun s2 u=>⟨_,l,u,G⟩) C
def ziR(i j:Nat)(c:TA):TS:=fun D σ H=>c σ H fun g b=>ziI g b fun v w b=>D.nx ((σ.set i (some v)).set j (some w)) b
theorem QA{i j:Nat}{x y:Str}{a b:Expr}{ta:TA}{L M J:Pos}{G E l}(hc:X.calm=true)(Y:X.N.Nodup)(hi:X.N[i]? =some x)(hj:X.N[j]? =some y)(B:i≠j)
  (hx:X.env.scope.names.lookup x=some .local) (hy:X.env.scope.names.lookup y=some .local) (ha:PA X [a,b] ta)
  (hw:swappedStores [.Tuple [.Name x L,.Name y M] G J] (.Tuple [a,b] E l) X.env=pure (some [x,y]))
  (hs:swapsWithSole [.Tuple [.Name x L,.Name y M] G J] (.Tuple [a,b] E l) A.line X.env=pure false:=by rfl) :
  PS X (.Assign [.Tuple [.Name x L,.Name y M] G J] (.Tuple [a,b] E l) A) (ziR i j ta):=by
 intro g s σ H D I h;rw[exec_Assign_arm];refine zm (yo ?_)
 rw[hs];refine zm (zJ ?_)
 rw[zo (by decide)]
 refine zm (Tuple_ (thn (ha _ g s σ H _ I h) fun us s1 ⟨vs,Q,I1,r1,N⟩=>?_))
 obtain⟨v,w,e1,N⟩:=N;subst e1;obtain⟨m,u,rfl,rv,O⟩:∃m u,us=[m,u]/\RelV v m/\RelV w u:=by
  cases r1 with
  | cons p q=>
   cases q with
   | cons p' q'=>
    cases q';exact⟨_,_,rfl,p,p'⟩
 refine vo ?_ (by show 2<=sizeLine;decide)
 have I2:Inv X g σ Q { s1 with heap:=s1.heap.push { cls:=.type "tuple",data:=.seq [m,u].toArray } }:=I1.kept (t':=s1.toks) fun b o e=>qG _ e
 rw[hw];refine zm (zJ ?_)
 show wpAny (model X.prog X.w) X.A (do rule "assign.swapped-stores";let c<-unpackItems (.ref s1.heap.objs.size) 2 none;assignInOrder [fun v=>bindName X.env y v,fun v=>bindName X.env x v] c.reverse;pure Flow.next) _ _ _
 refine zm (xY (zm (unpackItems_tuple (items:=#[m,u]) (I.ok.hd hc) (IsTup.new s1.heap _) fun U C=>?_)))
 have I3:=I2.kept (h':=U) (t':=s1.toks) fun b o e=>C b o (qw (zN e)) e
 show wpAny _ _ (assignInOrder [fun v=>bindName X.env y v,fun v=>bindName X.env x v] [u,m] >>= fun _=>pure Flow.next) _ _ _
 refine zm (assignInOrder_cons (wpAny_bindName (wI I3 Y hj (.inl hy) O (fun s2 I4=>?_) (.inr hy))))
 refine assignInOrder_cons (wpAny_bindName (wI I4 Y hi (.inl hx) rv (fun s3 T=>assignInOrder_nil (zJ ?_)) (.inr hx)))
 rw[List.set_comm _ _ (qz B)] at T;exact⟨_,Q,T,N⟩
def ziY(i:Nat)(g:TE)(l:TIp):TS:=fun D σ H=>∃x,σ[i]? =some (some x)/\g σ H fun y b=>l x y b fun z c=>D.nx (σ.set i (some z)) c
theorem zgx{i:Nat}{x:Str}{e:Expr}{J:TE}{C:Operator}{L:TIp}{B:Pos}(U:X.N.Nodup)(G:X.N[i]? =some x)(hx:Loc X.env.scope x)(Y:PE X e J)(ho:PIp X C L)(hf:X.fn x=true\/X.env.scope.names.lookup x=some .local:=by first| exact .inl rfl | exact .inr rfl | assumption) :
  PS X (.AugAssign (.Name x B) C e A) (ziY i J L):=by
 intro b s σ H D I h;obtain⟨v,e1,h⟩:=h;obtain⟨m,hn,hl⟩:=I.loc;have E:Vis X.env.scope x:=by rcases hx with k | k;exact .inl k;exact .inr (.inl k)
 obtain⟨u,r,l⟩:=hl i x v G e1 E;refine wpAny_AugAssign_Name ?_
 have go:wpAny (model X.prog X.w) X.A (eval e X.env) (fun w s₂=>wpAny (model X.prog X.w) X.A (inplaceOp C u w) (fun r s₃=>wpAny (model X.prog X.w) X.A (storeName X.env x r) (fun _=>SP X b D .next) X.xe s₃) X.xe s₂) X.xe s:=by
  refine thn (Y b s σ H _ I h) fun w s1 ⟨y,M,O,r1,q1⟩=>?_
  refine thn (ho b s1 σ M v y u w _ O r r1 q1) fun z s2 ⟨zv,N,Q,r2,q2⟩=>?_
  exact wI Q U G hx r2 (fun s3 T=>⟨_,N,T,q2⟩) hf
 rcases l with ⟨hk,hm⟩ | ⟨hk,c,hc,g⟩
 ·exact wpAny_loadName_local I.ok.kind hk hn hm go
 ·rcases hk with hk | hk
  ·exact wpAny_loadName_cell I.ok.kind hk hc g go
  ·rcases hx with k | k
   ·have:X.env.scope.names.lookup x=some .free:=hk
    rw[k] at this;cases this
   ·have:X.env.scope.names.lookup x=some .free:=hk
    rw[k] at this;cases this
inductive ipI(f:Int->Int->Int)(x:V)(y:V)(H:Hp)(Q:VK):Prop
 | mk (i j:_) (_:x=.int i) (_:y=.int j) (_:Q (.int (f i j)) H):ipI f x y H Q
theorem zhb:PIp X .Add (ipI fun i j=>i+j):=by
 intro b s σ H x y v u Q I c g h;obtain⟨i,j,e1,e2,q⟩:=h;subst e1;subst e2
 obtain⟨t,rfl⟩:=c;obtain⟨l,rfl⟩:=g;exact iadd_int ⟨.int _,H,I.tok _,⟨_,rfl⟩,q⟩
def zf9(c:TT)(u:TS):TS:=fun D σ H=>∃W:Nat->St->Hp->Prop,(∃m,W m σ H)/\∀m σ H,W m σ H ->
 c σ H fun b i=>if b=true then ∃N:St->Hp->Prop,(∀s g,N s g->∃l,l<m/\W l s g)/\u { D with nx:=N,ct:=N,bk:=D.nx } σ i else D.nx σ i
theorem Wf{c:Expr}{body:List Stmt}{tc:TT}{Y:TS}(hp:PassesOwn (model X.prog X.w) X.A X.env X.xe)(hc:PT X c tc)(hb:PSs X body Y):PS X (.While c body [] A) (zf9 tc Y):=by
 intro g s σ H D I h;obtain⟨W,⟨m0,w0⟩,l⟩:=h;refine wpAny_While (codeAny_whileLoop (fun n s'=>∃σ' M,Inv X g σ' M s'/\W n σ' M) ?_ m0 ⟨σ,H,I,w0⟩)
 rintro n s1 ⟨B,O,I1,w1⟩;refine yN hp (thn (hc g s1 B O _ I1 (l n B O w1)) fun b s2 ⟨Q,T,u⟩=>?_)
 cases b with
 | true=>
  obtain⟨N,U,u⟩:=u;rw[zu rfl];refine yN hp (thn (hb g s2 B Q _ T u) fun f s3 w=>?_)
  cases f with
  | next=>
   obtain⟨m,i,C,J⟩:=w;obtain⟨G,E,L⟩:=U m i J;exact⟨G,E,m,i,C,L⟩
  | cont=>
   obtain⟨m,i,C,J⟩:=w;obtain⟨G,E,L⟩:=U m i J;exact⟨G,E,m,i,C,L⟩
  | brk=>exact w
  | ret v=>exact w
 | false=>
  rw[zo qH];exact wpAny_execs_nil ⟨B,Q,T,u⟩
end
structure It where
 go:Nat->Hp->Prop
 yld:Nat->Hp->V->Hp->Prop
 stop:Nat->Hp->Prop
def xw(X:Cx)(g:List (Addr×Obj))(H:Hp)(b:Addr):Prop:=
 H b=none/\b≠X.env.locals/\b∉X.fs/\(b∈X.ex\/X.s₀.heap.objs.size<=b)/\(∀x c,X.env.cells.lookup x=some c->c≠b)/\∀p∈X.pn++g,p.1≠b
theorem Inv.fpOk{X:Cx}{g:List (Addr×Obj)}{σ:St}{H i:Hp}{s:Shared}{b:Addr}(I:Inv X g σ H s)(hb:s.heap.objs.size<=b)(l:i b=none):xw X g i b:=by
 refine⟨l,vn (jY I.lt hb),I.nofs hb,.inr (jd I.sz hb),fun x c e z=>?_,fun p hp z=>?_⟩
 ·obtain⟨v,q⟩:=I.cell x c e
  exact absurd (jY q.lt (by rw[z];exact hb)) (vz _)
 ·exact absurd (jY (zN (I.pin p hp).1) (by rw[z];exact hb)) (vz _)
structure Zk(P:Program)(w:World)(K:W.Frag)(tg:Expr)(J:It)(fp:List Addr)(it:Addr)(tn:Nat->Heap->Prop):Prop where
 mem:it∈fp
 obj:∀i h,tn i h->∀b∈fp,∃o,h.get? b=some o/\∀v,o.data≠.cell v
 keep:∀i h h',tn i h->(∀b∈fp,∀o,h.get? b=some o->h'.get? b=some o)->tn i h'
 item:∀(X:Cx),X.prog=P->X.w=w->X.K=K->X.calm=true->∀(i:Nat) (pins:List (Addr×Obj)) (s:Shared) (σ:St) (H:Hp) (E:Value->Shared->Prop),Inv X pins σ H s->(∀b∈fp,xw X pins H b)->tn i s.heap->J.go i H ->
  wpAny (model P w) X.A (pyNext (.ref it)) (fun r s1=>∃u,r=some u /\
   wpAny (model P w) X.A (letOwnedTupleGo tg (.ref it) u) (fun _ s2=>∃x H',Inv X pins σ H' s2/\RelV x u/\J.yld i H x H'/\tn (i+1) s2.heap/\∀b∈fp,H' b=none) E s1) E s
 done:∀(X:Cx),X.prog=P->X.w=w->X.K=K->X.calm=true->∀(i:Nat) (pins:List (Addr×Obj)) (s:Shared) (σ:St) (H:Hp) (E:Value->Shared->Prop),Inv X pins σ H s->(∀b∈fp,xw X pins H b)->tn i s.heap->J.stop i H ->
  wpAny (model P w) X.A (pyNext (.ref it)) (fun r s1=>r=none/\Inv X pins σ H s1) E s
 self:∀(A:Around) (i:Nat) (s:Shared) (Q:Value->Shared->Prop) (E:Value->Shared->Prop),tn i s.heap->Q (.ref it) s->wpAny (model P w) A (pyIter (.ref it)) Q E s
abbrev TI:=St->Hp->(It->Hp->Prop)->Prop
def PIE(X:Cx)(c:List (Addr×Obj))(σ:St)(u:Expr)(R:It->Hp->Prop)(i:Value)(s2:Shared):Prop:=
 ∃(m:Addr) (l:List Addr) (s:Nat->Heap->Prop) (J:It) (g:Hp),i=.ref m/\Inv X c σ g s2/\Zk X.prog X.w X.K u J l m s/\s 0 s2.heap/\(∀b∈l,xw X c g b)/\R J g
def PI(X:Cx)(g c:Expr)(i:TI):Prop:=
 ∀(b:List (Addr×Obj)) (s:Shared) (σ:St) (H:Hp) (R:It->Hp->Prop),Inv X b σ H s->i σ H R ->
  wpAny (model X.prog X.w) X.A (eval c X.env) (fun v s1=>wpAny (model X.prog X.w) X.A (pyIter v) (PIE X b σ g R) X.xe s1) X.xe s
theorem za4{M:Model}{A:Around}{E:Value->Shared->Prop}{s:Shared}{g:Expr}{c:Addr}{u:Value}{o:Obj}{n:String}{i:Array Value}{Q:Unit->Shared->Prop}(m:s.heap.get? c=some o)(hc:o.cls=.type n)(hd:o.data=.fields i)
  (l:["enumerate", "zip", "dict_itemiterator", "dict_reverseitemiterator", "odict_iterator", "itertools.zip_longest", "itertools.pairwise"].contains n=false) (b:Q () s):wpAny M A (letOwnedTupleGo g (.ref c) u) Q E s:=by
 unfold letOwnedTupleGo;cases g<;>first
  | exact zJ b
  | (cases u<;>first
    | exact zJ b
    | (refine zm (wpAny_load m ?_)
       rw[hc,hd];show wpAny M A (if(["enumerate", "zip", "dict_itemiterator", "dict_reverseitemiterator", "odict_iterator", "itertools.zip_longest", "itertools.pairwise"].contains n&&i[0]? ==some (rawInt _))=true then _ else _) Q E s
       rw[zo (by intro h;rw[l,Bool.false_and] at h;cases h)]
       exact zJ b))
def Itl(K:W.Frag)(a:Addr):It:=
 ⟨fun i H=>∃b x,SqL K H a b/\b[i]? =some x,fun i H x c=>c=H/\∀b,SqL K H a b->b[i]? =some x,fun i H=>∃b,SqL K H a b/\b.length<=i⟩
def Itt(K:W.Frag)(a:Addr):It:=
 ⟨fun i H=>∃b x,SqT K H a b/\b[i]? =some x,fun i H x c=>c=H/\∀b,SqT K H a b->b[i]? =some x,fun i H=>∃b,SqT K H a b/\b.length<=i⟩
def Itr(lo:Int)(n:Nat):It:=⟨fun i _=>i<n,fun i H x b=>b=H/\x=.int (lo+i),fun i _=>n<=i⟩
theorem JI{P:Program}{w:World}{K:W.Frag}{tg:Expr}(a l:Addr):Zk P w K tg (Itl K a) [l] l (fun i h=>h.IsListIter l a i) where
 mem:=by simp
 obj:=fun i h st b hb=>by
  have e:b=l:=by simpa using hb
  subst e;obtain⟨o,e,c,d⟩:=st;exact⟨o,e,fun v z=>by rw[d] at z;cases z⟩
 keep:=fun i h A st k=>st.at fun o e=>k l (by simp) o e
 item:=by
  intro X N O M hc i g s σ H E I B st hg;subst N O M;obtain⟨xs,x,hq,hx⟩:=hg;obtain⟨Q,T,p,hz⟩:=I.list hq;obtain⟨u,hu,ru⟩:=T.get hx;obtain⟨C,D,f2,G,J,L⟩:=B l (by simp)
  refine wpAny_pyNext_list_item st p.isList (x:=u) (by simpa using hu) fun A m sb=>?_
  have U:Inv X g σ H { s with heap:=A }:=I.turned (t':=s.toks) (fun b o hb e=>(sb.2 b hb).trans e) C D G J L
  obtain⟨o,e,c,d⟩:=id m;exact⟨u,rfl,za4 (s:={ s with heap:=A }) e c d (by decide) ⟨x,H,U,ru,⟨rfl,fun ys hy=>by rw[I.list_inj hy hq];exact hx⟩,m,fun b hb=>(B b hb).1⟩⟩
 done:=by
  intro X N O M hc i g s σ H E I B st hg;subst N O M;obtain⟨xs,hq,hx⟩:=hg;obtain⟨Q,T,p,hz⟩:=I.list hq;obtain⟨C,D,f2,G,J,L⟩:=B l (by simp)
  have hl:=T.length;exact wpAny_pyNext_list_end (I.ok.hd hc) st p.isList (by simp;omega) fun A Y=>⟨rfl,I.turned (t':=s.toks) (fun b o hb e=>Y b o hb e) C D G J L⟩
 self:=fun _ _ _ _ _ st h=>wpAny_pyIter_listiter st h
theorem Qo{P:Program}{w:World}{K:W.Frag}{tg:Expr}(a l:Addr):Zk P w K tg (Itt K a) [l] l (fun i h=>h.IsTupleIter l a i) where
 mem:=by simp
 obj:=fun i h st b hb=>by
  have e:b=l:=by simpa using hb
  subst e;obtain⟨o,e,c,d⟩:=st;exact⟨o,e,fun v z=>by rw[d] at z;cases z⟩
 keep:=fun i h B st k=>st.at fun o e=>k l (by simp) o e
 item:=by
  intro X O Q N hc i g s σ H E I C st hg;subst O Q N;obtain⟨xs,x,hq,hx⟩:=hg;obtain⟨m,T,p,hz⟩:=I.tuple hq;obtain⟨u,hu,ru⟩:=T.get hx;obtain⟨D,G,f2,J,L,M⟩:=C l (by simp)
  refine wpAny_pyNext_tuple_item st (show s.heap.IsTuple a m.toArray from p) (x:=u) (by simpa using hu) fun B A sb=>?_
  have U:Inv X g σ H { s with heap:=B }:=I.turned (t':=s.toks) (fun b o hb e=>(sb.2 b hb).trans e) D G J L M
  obtain⟨o,e,c,d⟩:=id A;exact⟨u,rfl,za4 (s:={ s with heap:=B }) e c d (by decide) ⟨x,H,U,ru,⟨rfl,fun ys hy=>by rw[I.tuple_inj hy hq];exact hx⟩,A,fun b hb=>(C b hb).1⟩⟩
 done:=by
  intro X O Q N hc i g s σ H E I C st hg;subst O Q N;obtain⟨xs,hq,hx⟩:=hg;obtain⟨m,T,p,hz⟩:=I.tuple hq;obtain⟨D,G,f2,J,L,M⟩:=C l (by simp)
  have hl:=T.length;exact wpAny_pyNext_tuple_end (I.ok.hd hc) st (show s.heap.IsTuple a m.toArray from p) (by simp;omega) fun B Y=>⟨rfl,I.turned (t':=s.toks) (fun b o hb e=>Y b o hb e) D G J L M⟩
 self:=fun _ _ _ _ _ st h=>wpAny_pyIter_tupleiter st h
theorem W5{P:Program}{w:World}{K:W.Frag}{tg:Expr}(c:Addr)(lo:Int)(n:Nat):Zk P w K tg (Itr lo n) [c] c (fun i h=>IsRangeIter h c (lo+(i:Nat)*1) ((n:Int)-(i:Nat)) 1) where
 mem:=by simp
 obj:=fun i h st b hb=>by
  have e:b=c:=by simpa using hb
  subst e;exact⟨_,st,fun v z=>by
   have z':Data.fields _=Data.cell v:=z;cases z'⟩
 keep:=fun i h m st k=>k c (by simp) _ st
 item:=by
  intro X L M J hc i g s σ H E I u st hg;subst L M J;obtain⟨A,B,U,C,D,G⟩:=u c (by simp)
  have W:=Walks.range (prog:=X.prog) (w:=X.w) (I.ok.hd hc) c lo 1 n;refine W.item i s _ _ hg st fun v m O hv l Y=>?_
  obtain⟨t,rfl⟩:=hv;have Q:Inv X g σ H { s with heap:=m,toks:=O }:=I.turned (fun b o hb e=>Y b o (by simpa using hb) e) A B C D G
  refine⟨_,rfl,za4 (s:={ s with heap:=m,toks:=O }) (n:= "range_iterator") l rfl rfl (by decide) ⟨.int (lo+i),H,Q,⟨t,?_⟩,⟨rfl,rfl⟩,l,fun b hb=>(u b hb).1⟩⟩
  rw[Int.mul_one]
 done:=by
  intro X L M J hc i g s σ H E I u st hg;subst L M J;obtain⟨A,B,U,C,D,G⟩:=u c (by simp)
  exact wpAny_pyNext_range_end (I.ok.hd hc) st (by have:n<=i:=hg;omega) fun m T=>⟨rfl,I.turned (t':=s.toks) (fun b o hb e=>T b o hb e) A B C D G⟩
 self:=fun _ _ _ _ _ st h=>wpAny_pyIter_rangeiter st h
section
variable{X:Cx}{c:Expr}
inductive InL(K:W.Frag)(x:V)(H:Hp)(R:It->Hp->Prop):Prop
 | mk (a:Addr) (h:x=.ref a) (e:∃b,SqL K H a b) (r:R (Itl K a) H):InL K x H R
inductive InT(K:W.Frag)(x:V)(H:Hp)(R:It->Hp->Prop):Prop
 | mk (a:Addr) (h:x=.ref a) (e:∃b,SqT K H a b) (r:R (Itt K a) H):InT K x H R
def zit(K:W.Frag)(g:TE):TI:=fun σ H R=>g σ H fun x b=>InL K x b R
def ziq(K:W.Frag)(g:TE):TI:=fun σ H R=>g σ H fun x b=>InT K x b R
theorem qD{l:Expr}{m:TE}(w:PE X l m):PI X c l (zit X.K m):=by
 intro g s σ H R I h;refine thn (w g s σ H _ I h) fun v s1 ⟨x,u,i,C,B⟩=>?_
 obtain⟨a,e,⟨J,hq⟩,q⟩:=B;subst e;cases C;obtain⟨A,E,p,D⟩:=i.list hq;refine wpAny_pyIter_list p.isList ?_
 refine⟨s1.heap.objs.size,[s1.heap.objs.size],_,_,u,rfl,i.kept (t':=s1.toks) fun b o e=>qG _ e,JI a _,⟨_,qJ _ rfl,rfl,rfl⟩,fun b hb=>?_,q⟩
 have e:b=s1.heap.objs.size:=by simpa using hb
 subst e;exact i.fpOk (zQ _) (i.hok.fresh (zQ _))
theorem vB{l:Expr}{u:TE}(A:PE X l u):PI X c l (ziq X.K u):=by
 intro g s σ H R I h;refine thn (A g s σ H _ I h) fun v s1 ⟨x,w,i,C,B⟩=>?_
 obtain⟨a,e,⟨J,hq⟩,q⟩:=B;subst e;cases C;obtain⟨m,E,p,D⟩:=i.tuple hq;refine wpAny_pyIter_tuple (show s1.heap.IsTuple a m.toArray from p) ?_
 refine⟨s1.heap.objs.size,[s1.heap.objs.size],_,_,w,rfl,i.kept (t':=s1.toks) fun b o e=>qG _ e,Qo a _,⟨_,qJ _ rfl,rfl,rfl⟩,fun b hb=>?_,q⟩
 have e:b=s1.heap.objs.size:=by simpa using hb
 subst e;exact i.fpOk (zQ _) (i.hok.fresh (zQ _))
theorem zcZ{i:List (Addr×Obj)}{σ:St}{H:Hp}{s:Shared}{R:It->Hp->Prop}{E:Value->Shared->Prop}{lo g:Int}{t u v:Tok}{m:Nat}(I:Inv X i σ H s)(h1:-(2^62)<=lo)(h2:lo<2^62)(w:-(2^62)<=g)(A:g<2^62)
  (q:R (Itr lo (g-lo).toNat) H):wpAny (model X.prog X.w) X.A (pyIter (.ref s.heap.objs.size)) (PIE X i σ c R) E { s with heap:=s.heap.push { cls:=.type "range",data:=.fields #[.int lo t,.int g u,.int 1 v] },toks:=m }:=by
 refine wpAny_pyIter_range (IsRange.new ..) (small_one h1 h2 w A) ?_
 have l:Inv X i σ H { s with heap:=s.heap.push { cls:=.type "range",data:=.fields #[.int lo t,.int g u,.int 1 v] },toks:=m }:=I.kept fun b o e=>qG _ e
 refine⟨(s.heap.push { cls:=.type "range",data:=.fields #[.int lo t,.int g u,.int 1 v] }).objs.size,[(s.heap.push { cls:=.type "range",data:=.fields #[.int lo t,.int g u,.int 1 v] }).objs.size],_,_,H,rfl,
  l.kept (t':=m) fun b o e=>qG _ e,W5 _ lo (g-lo).toNat,?_,fun b hb=>?_,q⟩
 ·have e1:lo+((0:Nat):Int)*1=lo:=by simp
  have e2:(((g-lo).toNat:Nat):Int)-((0:Nat):Int)=Builtin.Range.rangeSize lo g 1:=by rw[rangeSize_one];split<;>omega
  show IsRangeIter _ _ (lo+((0:Nat):Int)*1) ((((g-lo).toNat:Nat):Int)-((0:Nat):Int)) 1;rw[e1,e2];exact qJ _ rfl
 ·have e:b=(s.heap.push { cls:=.type "range",data:=.fields #[.int lo t,.int g u,.int 1 v] }).objs.size:=by simpa using hb
  subst e;exact l.fpOk (zQ _) (l.hok.fresh (zQ _))
inductive ziJ(b:List V)(H:Hp)(R:It->Hp->Prop):Prop
 | mk (j:Int) (h:b=[.int j]) (h1:-(2^62)<=j) (h2:j<2^62) (r:R (Itr 0 j.toNat) H):ziJ b H R
def zis(g:TA):TI:=fun σ H R=>g σ H fun i b=>ziJ i b R
theorem qN{a:Expr}{l:TA}{p g:Pos}(hg:Gl X "range")(w:X.mg "range" = none)(u:PA X [a] l)(hs:starEach [a] X.env=[(false,eval a X.env)]:=by rfl):PI X c (.Call (.Name "range" p) [a] [] g) (zis l):=by
 intro b s σ H R I h;refine Call_ (vD I hg w boot_range (Jb (thn (u g b s σ H _ I h) fun E s1 ⟨G,D,m,B,i⟩=>?_) hs rfl))
 obtain⟨j,e,i,A,q⟩:=i;subst e;cases B with
 | cons r C=>
  cases C;obtain⟨t,rfl⟩:=r;exact call_range_1 (zcZ m (by omega) (by omega) i A (by simpa using q))
def ziW(B:TI)(g:TG)(A:TS):TS:=fun D σ H=>B σ H fun J u=>∃W:Nat->Nat->St->Hp->Prop,(∃m,W 0 m σ u)/\∀i m σ H,W i m σ H ->
 (J.stop i H/\D.nx σ H)\/(J.go i H/\∃N:St->Hp->Prop,(∀s b,N s b->∃l,l<m/\W (i+1) l s b)/\∀x b,J.yld i H x b->g x σ b fun C w=>A { D with nx:=N,ct:=N,bk:=D.nx } C w)
def qL(g:List Addr)(h:Heap):List (Addr×Obj):=g.filterMap fun b=>(h.get? b).map fun o=>(b,o)
theorem jm{g:List Addr}{h:Heap}{b:Addr}{o:Obj}(hb:b∈g)(e:h.get? b=some o):(b,o)∈qL g h:=List.mem_filterMap.mpr ⟨b,hb,by rw[e];rfl⟩
theorem vN{g:List Addr}{h:Heap}{p:Addr×Obj}(hp:p∈qL g h):p.1∈g/\h.get? p.1=some p.2:=by
 obtain⟨b,hb,e⟩:=List.mem_filterMap.mp hp;cases q:h.get? b with
 | none=>rw[q] at e;cases e
 | some o=>
  rw[q] at e;have i:(b,o)=p:=jH e;subst i;exact⟨hb,q⟩
theorem Inv.pinned{g:List (Addr×Obj)}{σ:St}{H:Hp}{s:Shared}{fp:List Addr}(I:Inv X g σ H s)(w:∀b∈fp,xw X g H b)(A:∀b∈fp,∃o,s.heap.get? b=some o/\∀v,o.data≠.cell v):Inv X (g++qL fp s.heap) σ H s:=
 I.pins_of fun p hp=>(zP.mp hp).elim (fun z=>I.pin p (qE _ z)) fun z=>by
  obtain⟨hb,e⟩:=vN z;obtain⟨l,m,u,_⟩:=w p.1 hb;obtain⟨o,i,d⟩:=A p.1 hb;rw[e] at i;cases i
  exact⟨e,l,m,u,d⟩
theorem Inv.unpinned{b g:List (Addr×Obj)}{σ:St}{H:Hp}{s:Shared}(I:Inv X (b++g) σ H s):Inv X b σ H s:=I.pins_of fun p hp=>I.pin p (qE _ (qm _ hp))
theorem qS{B:Expr}{body:List Stmt}{wi:TI}{g:TG}{tb:TS}{ac:Pos}(hp:PassesOwn (model X.prog X.w) X.A X.env X.xe)(hc:X.calm=true)(hi:PI X c B wi)(hg:PG X c g)(hb:PSs X body tb)
  (hs:∀x,foldedSetIterable B X.env x=pure x:=by intro _;rfl):PS X (.For c B body [] ac) (ziW wi g tb):=by
 intro l s σ H D I h;refine wpAny_For (thn (hi l s σ H _ I h) fun v s1 h1=>thn h1 fun af s2 h2=>?_) hs
 obtain⟨it,O,tn,J,H2,e,I2,T,ae,f2,W,⟨m0,w0⟩,a0⟩:=h2;subst e;have C:∀{G:Hp},(∀b∈O,G b=none)->∀b∈O,xw X l G b:=fun hn b hb=>⟨hn b hb,(f2 b hb).2⟩
 refine codeAny_forLoop_any (fun n s'=>∃i σ' G,Inv X l σ' G s'/\tn i s'.heap/\(∀b∈O,G b=none)/\W i n σ' G) ?_ m0 ⟨0,σ,H2,I2,ae,fun b hb=>(f2 b hb).1,w0⟩
 rintro n s3 ⟨i,σ3,H3,I3,Y,Q,w3⟩;rcases a0 i n σ3 H3 w3 with ⟨stop,qn⟩ | ⟨go,N,hN,step⟩
 ·refine yN hp (thn (T.done X rfl rfl rfl hc i l s3 σ3 H3 X.xe I3 (C Q) Y stop) fun r s4 ⟨hr,I4⟩=>?_)
  subst hr;exact wpAny_execs_nil ⟨σ3,H3,I4,qn⟩
 ·refine yN hp (thn (T.item X rfl rfl rfl hc i l s3 σ3 H3 X.xe I3 (C Q) Y go) fun r s4 ⟨u,hr,h4⟩=>?_)
  subst hr;refine yN hp (thn h4 fun _ s5 ⟨x,H5,I5,r5,y5,M,ab⟩=>?_)
  have aa:=I5.pinned (C ab) (T.obj _ _ M);refine yN hp (thn (hg _ s5 σ3 H5 x u _ aa r5 (step x H5 y5)) fun _ s6 ⟨σ6,H6,I6,q6⟩=>?_)
  refine yN hp (thn (hb _ s6 σ6 H6 _ I6 q6) fun f s7 L=>?_)
  have again:∀{E:St} {w:Hp},Inv X (l++qL O s5.heap) E w s7->N E w->∃m,m<n/\∃i σ' G,Inv X l σ' G s7/\tn i s7.heap/\(∀b∈O,G b=none)/\W i m σ' G:=fun {E w} A U=>by
   obtain⟨m',hm,w7⟩:=hN E w U;refine⟨m',hm,i+1,E,w,A.unpinned,T.keep _ _ _ M fun b hb o e=>(A.pin (b,o) (qE _ (qE _ (jm hb e)))).1,fun b hb=>?_,w7⟩
   obtain⟨o,e,d⟩:=T.obj _ _ M b hb;exact(A.pin (b,o) (qE _ (qE _ (jm hb e)))).2.1
  cases f with
  | next=>obtain⟨E,w,A,U⟩:=L;exact again A U
  | cont=>obtain⟨E,w,A,U⟩:=L;exact again A U
  | brk=>obtain⟨E,w,A,L⟩:=L;exact⟨E,w,A.unpinned,L⟩
  | ret v=>obtain⟨x7,E,w,A,r7,L⟩:=L;exact⟨x7,E,w,A.unpinned,r7,L⟩
end
theorem jG{K:W.Frag}{a:Addr}{xs:List V}{g:TG}{A:TS}{D:VC}{σ:St}{H:Hp}(Pv:Nat->St->Hp->Prop)(h0:Pv 0 σ H)(C:∀i σ H,i<=xs.length->Pv i σ H->SqL K H a xs)
  (hs:∀i x σ H,xs[i]? =some x->Pv i σ H->g x σ H fun u l=>A { D with nx:=Pv (i+1),ct:=Pv (i+1),bk:=D.nx } u l) (hd:∀σ H,Pv xs.length σ H->D.nx σ H) :
  ∃W:Nat->Nat->St->Hp->Prop,(∃m,W 0 m σ H)/\∀i m σ H,W i m σ H ->
   ((Itl K a).stop i H/\D.nx σ H)\/((Itl K a).go i H/\∃N:St->Hp->Prop,(∀s b,N s b->∃w,w<m/\W (i+1) w s b)/\∀x b,(Itl K a).yld i H x b->g x σ b fun u l=>A { D with nx:=N,ct:=N,bk:=D.nx } u l):=by
 refine⟨fun i m σ H=>m=xs.length-i/\i<=xs.length/\Pv i σ H,⟨xs.length,by simp,qX _,h0⟩,?_⟩
 rintro i m σ H ⟨rfl,B,p⟩;have q:=C i σ H B p;by_cases c:i<xs.length
 ·refine .inr ⟨⟨xs,xs[i],q,by simp[c]⟩,Pv (i+1),fun s b E=>⟨xs.length-(i+1),by omega,rfl,c,E⟩,fun x b y=>?_⟩
  obtain⟨e,y⟩:=y;subst e;exact hs i x σ _ (y xs q) p
 ·have e:i=xs.length:=by omega
  subst e;exact .inl ⟨⟨xs,q,zQ _⟩,hd σ H p⟩
theorem Qi{K:W.Frag}{a:Addr}{xs:List V}{g:TG}{A:TS}{D:VC}{σ:St}{H:Hp}(Pv:Nat->St->Hp->Prop)(h0:Pv 0 σ H)(C:∀i σ H,i<=xs.length->Pv i σ H->SqT K H a xs)
  (hs:∀i x σ H,xs[i]? =some x->Pv i σ H->g x σ H fun u l=>A { D with nx:=Pv (i+1),ct:=Pv (i+1),bk:=D.nx } u l) (hd:∀σ H,Pv xs.length σ H->D.nx σ H) :
  ∃W:Nat->Nat->St->Hp->Prop,(∃m,W 0 m σ H)/\∀i m σ H,W i m σ H ->
   ((Itt K a).stop i H/\D.nx σ H)\/((Itt K a).go i H/\∃N:St->Hp->Prop,(∀s b,N s b->∃w,w<m/\W (i+1) w s b)/\∀x b,(Itt K a).yld i H x b->g x σ b fun u l=>A { D with nx:=N,ct:=N,bk:=D.nx } u l):=by
 refine⟨fun i m σ H=>m=xs.length-i/\i<=xs.length/\Pv i σ H,⟨xs.length,by simp,qX _,h0⟩,?_⟩
 rintro i m σ H ⟨rfl,B,p⟩;have q:=C i σ H B p;by_cases c:i<xs.length
 ·refine .inr ⟨⟨xs,xs[i],q,by simp[c]⟩,Pv (i+1),fun s b E=>⟨xs.length-(i+1),by omega,rfl,c,E⟩,fun x b y=>?_⟩
  obtain⟨e,y⟩:=y;subst e;exact hs i x σ _ (y xs q) p
 ·have e:i=xs.length:=by omega
  subst e;exact .inl ⟨⟨xs,q,zQ _⟩,hd σ H p⟩
theorem ju{lo:Int}{n:Nat}{g:TG}{A:TS}{D:VC}{σ:St}{H:Hp}(Pv:Nat->St->Hp->Prop)(h0:Pv 0 σ H)
  (hs:∀i σ H,i<n->Pv i σ H->g (.int (lo+i)) σ H fun u l=>A { D with nx:=Pv (i+1),ct:=Pv (i+1),bk:=D.nx } u l) (hd:∀σ H,Pv n σ H->D.nx σ H) :
  ∃W:Nat->Nat->St->Hp->Prop,(∃m,W 0 m σ H)/\∀i m σ H,W i m σ H ->
   ((Itr lo n).stop i H/\D.nx σ H)\/((Itr lo n).go i H/\∃N:St->Hp->Prop,(∀s b,N s b->∃w,w<m/\W (i+1) w s b)/\∀x b,(Itr lo n).yld i H x b->g x σ b fun u l=>A { D with nx:=N,ct:=N,bk:=D.nx } u l):=by
 refine⟨fun i m σ H=>m=n-i/\i<=n/\Pv i σ H,⟨n,by simp,qX _,h0⟩,?_⟩
 rintro i m σ H ⟨rfl,C,p⟩;by_cases c:i<n
 ·refine .inr ⟨c,Pv (i+1),fun s b B=>⟨n-(i+1),by omega,rfl,c,B⟩,fun x b y=>?_⟩
  obtain⟨e,y⟩:=y;subst e y;exact hs i σ _ c p
 ·have e:i=n:=by omega
  subst e;exact .inl ⟨zQ _,hd σ H p⟩
abbrev R2:=V->V->Hp->VK->Prop
def OpR(X:Cx)(f:Value->Value->Sem Value)(r:R2):Prop:=
 ∀(b:List (Addr×Obj)) (s:Shared) (σ:St) (H:Hp) (x y:V) (v u:Value) (Q:VK),Inv X b σ H s->RelV x v->RelV y u->r x y H Q ->
  wpAny (model X.prog X.w) X.A (f v u) (EP X b σ Q) X.xe s
def UnR(X:Cx)(f:Value->Sem Value)(r:V->Hp->VK->Prop):Prop:=
 ∀(b:List (Addr×Obj)) (s:Shared) (σ:St) (H:Hp) (x:V) (v:Value) (Q:VK),Inv X b σ H s->RelV x v->r x H Q ->
  wpAny (model X.prog X.w) X.A (f v) (EP X b σ Q) X.xe s
def CallR(X:Cx)(f:Value)(r:List V->Hp->VK->Prop):Prop:=
 ∀(b:List (Addr×Obj)) (s:Shared) (σ:St) (H:Hp) (g:List V) (c:List Value) (Q:VK),Inv X b σ H s->Vals g c->r g H Q ->
  wpAny (model X.prog X.w) X.A (call f c) (EP X b σ Q) X.xe s
def tOp(r:R2)(g i:TE):TE:=fun σ H Q=>g σ H fun x b=>i σ b fun y c=>r x y c Q
def tUn(r:V->Hp->VK->Prop)(c:TE):TE:=fun σ H Q=>c σ H fun x b=>r x b Q
inductive rI(C:Int->Int->Prop)(g:Int->Int->V)(x:V)(y:V)(H:Hp)(Q:VK):Prop
 | mk (i j:_) (_:x=.int i) (_:y=.int j) (_:C i j) (_:Q (g i j) H):rI C g x y H Q
inductive rI0(g:Int->Int->V)(x:V)(y:V)(H:Hp)(Q:VK):Prop
 | mk (i j:_) (_:x=.int i) (_:y=.int j) (_:Q (g i j) H):rI0 g x y H Q
inductive rU(g:Int->V)(x:V)(H:Hp)(Q:VK):Prop
 | mk (i:_) (_:x=.int i) (_:Q (g i) H):rU g x H Q
section
variable{X:Cx}{a b c:Expr}{l w A:TE}{m:Pos}
theorem zhn(E:PE X a l)(hb:PE X b w){g:List (Addr×Obj)}{s:Shared}{σ:St}{H:Hp}{R:V->V->Hp->Prop}(I:Inv X g σ H s)
  (h:l σ H fun x B=>w σ B fun y i=>R x y i) {Q:Value->Shared->Prop} {f:Value->Value->Sem Value}
  (G:∀v u s2 x y i,Inv X g σ i s2->RelV x v->RelV y u->R x y i->wpAny (model X.prog X.w) X.A (f v u) Q X.xe s2) :
  wpAny (model X.prog X.w) X.A (eval a X.env) (fun v O=>wpAny (model X.prog X.w) X.A (eval b X.env) (fun u T=>wpAny (model X.prog X.w) X.A (f v u) Q X.xe T) X.xe O) X.xe s:=by
 refine thn (E g s σ H _ I h) fun v s1 ⟨x,B,C,M,J⟩=>?_
 refine thn (hb g s1 σ B _ C J) fun u s2 ⟨y,i,D,N,L⟩=>?_
 exact G v u s2 x y i D M N L
theorem zH{i:Operator}{r:R2}(E:OpR X (binaryOp i) r)(D:PE X a l)(hb:PE X b w):PE X (.BinOp a i b m) (tOp r l w):=by
 intro g s σ H Q I h;exact wpAny_BinOp (zhn D hb I h fun v u s2 x y B C G J q=>E g s2 σ B x y v u Q C G J q)
theorem zh8{i:UnaryOp}{r:V->Hp->VK->Prop}(D:UnR X (unaryOp i) r)(C:PE X a l):PE X (.UnaryOp i a m) (tUn r l):=by
 intro g s σ H Q I h;exact UnaryOp_ (thn (C g s σ H _ I h) fun v s1 ⟨x,u,B,G,E⟩=>D g s1 σ u x v Q B G E)
theorem opI{f:Value->Value->Sem Value}{C:Int->Int->Prop}{g:Int->Int->Int}
  (rule:∀(i j:Int) (t u:Tok) (s:Shared) (Q:Value->Shared->Prop) (E:Value->Shared->Prop),C i j->Q (.int (g i j) s.toks) { s with toks:=s.toks+1 }->wpAny (model X.prog X.w) X.A (f (.int i t) (.int j u)) Q E s) :
  OpR X f (rI C fun i j=>.int (g i j)):=by
 intro B s σ H x y v u Q I D G h;obtain⟨i,j,rfl,rfl,hc,q⟩:=h;obtain⟨t,rfl⟩:=D;obtain⟨J,rfl⟩:=G;exact rule i j t J s _ _ hc ⟨.int (g i j),H,I.tok _,⟨_,rfl⟩,q⟩
theorem zia{f:Value->Value->Sem Value}{g:Int->Int->Int}
  (rule:∀(i j:Int) (t u:Tok) (s:Shared) (Q:Value->Shared->Prop) (E:Value->Shared->Prop),Q (.int (g i j) s.toks) { s with toks:=s.toks+1 }->wpAny (model X.prog X.w) X.A (f (.int i t) (.int j u)) Q E s) :
  OpR X f (rI0 fun i j=>.int (g i j)):=by
 intro B s σ H x y v u Q I C D h;obtain⟨i,j,rfl,rfl,q⟩:=h;obtain⟨t,rfl⟩:=C;obtain⟨G,rfl⟩:=D;exact rule i j t G s _ _ ⟨.int (g i j),H,I.tok _,⟨_,rfl⟩,q⟩
theorem zeB{f:Value->Value->Sem Value}{g:Int->Int->Bool}
  (rule:∀(i j:Int) (t u:Tok) (s:Shared) (Q:Value->Shared->Prop) (E:Value->Shared->Prop),Q (.bool (g i j)) s->wpAny (model X.prog X.w) X.A (f (.int i t) (.int j u)) Q E s) :
  OpR X f (rI0 fun i j=>.bl (g i j)):=by
 intro B s σ H x y v u Q I C D h;obtain⟨i,j,rfl,rfl,q⟩:=h;obtain⟨t,rfl⟩:=C;obtain⟨G,rfl⟩:=D;exact rule i j t G s _ _ ⟨.bl (g i j),H,I,rfl,q⟩
def ziL(i j:Int):Prop:=0<j/\j<1073741824
def zi7(i j:Int):Prop:=0<=j/\j<=1000000/\i.natAbs<2^64
def CMul(i j:Int):Prop:=(-(2^64)<i/\i<2^64)\/(-(2^64)<j/\j<2^64)
theorem CMul.ok{i j:Int}(h:CMul i j):IntMulOk i j:=by
 rcases h with ⟨h1,h2⟩ | ⟨h1,h2⟩
 ·exact .of_left (intBits_le_64 h1 h2)
 ·exact .of_right (intBits_le_64 h1 h2)
theorem qT:OpR X (binaryOp .Add) (rI0 fun i j=>.int (i+j)):=zia fun _ _ _ _ _ _ _ q=>add_int q
theorem vh:OpR X (binaryOp .Sub) (rI0 fun i j=>.int (i-j)):=zia fun _ _ _ _ _ _ _ q=>sub_int q
theorem vk:OpR X (binaryOp .Mult) (rI CMul fun i j=>.int (i*j)):=opI fun _ _ _ _ _ _ _ hc q=>mul_int q hc.ok
theorem zaS:OpR X (binaryOp .FloorDiv) (rI ziL fun i j=>.int (i/j)):=opI fun i j _ _ _ _ _ hc q=>by
 have h1:(0:Int)<j:=hc.1;have h2:j<1073741824:=hc.2;exact floordiv_int (by omega) (by rw[zdP i (by omega)];exact q) (.inl (PyProof.noPylong_small (by omega)))
theorem xX:OpR X (binaryOp .Mod) (rI (fun _ j=>0<j) fun i j=>.int (i % j)):=opI fun i j _ _ _ _ _ hc q=>by
 have h1:(0:Int)<j:=hc;exact mod_int' (by omega) (by rw[zdO i (by omega)];exact q)
theorem zgH:OpR X (binaryOp .Pow) (rI zi7 fun i j=>.int (i^j.toNat)):=opI fun _ _ _ _ _ _ _ hc q=>pow_int_small hc.1 hc.2.1 hc.2.2 q
theorem unI{f:Value->Sem Value}{g:Int->Int}
  (rule:∀(i:Int) (t:Tok) (s:Shared) (Q:Value->Shared->Prop) (E:Value->Shared->Prop),Q (.int (g i) s.toks) { s with toks:=s.toks+1 }->wpAny (model X.prog X.w) X.A (f (.int i t)) Q E s) :
  UnR X f (rU fun i=>.int (g i)):=by
 intro u s σ H x v Q I B h;obtain⟨i,rfl,q⟩:=h;obtain⟨t,rfl⟩:=B;exact rule i t s _ _ ⟨.int (g i),H,I.tok _,⟨_,rfl⟩,q⟩
theorem zf7:UnR X (unaryOp .USub) (rU fun i=>.int (-i)):=unI fun _ _ _ _ _ q=>neg_int q
end
def zhN:V->V->Bool
 | .non,.non=>true | .non,.int _=>true | .int _,.non=>true | .non,.bl _=>true | .bl _,.non=>true | .non,.str _=>true | .str _,.non=>true
 | .int _,.int _=>true | .bl _,.bl _=>true | .str _,.str _=>true | .byt _,.byt _=>true
 | .int _,.str _=>true | .str _,.int _=>true | .bl _,.str _=>true | .str _,.bl _=>true
 | _,_=>false
def rEq:R2:=fun x y H Q=>zhN x y=true/\Q (.bl (decide (x=y))) H
def rNe:R2:=fun x y H Q=>zhN x y=true/\Q (.bl (!decide (x=y))) H
theorem zbb{i j:Int}:decide (V.int i=V.int j)=(i==j):=by
 rw[wB];simp
theorem zdC{i j:Bool}:decide (V.bl i=V.bl j)=(i==j):=by
 rw[wB];simp
theorem zba{i j:Str}:decide (V.str i=V.str j)=(i==j):=by
 rw[wB];simp
theorem zbc{i j:Array UInt8}:decide (V.byt i=V.byt j)=(i.toList==j.toList):=by
 rw[wB];cases i;cases j;simp
section
variable{X:Cx}{a b c:Expr}{g l w:TE}{m:Pos}
theorem qC{i:List (Addr×Obj)}{σ:St}{H:Hp}{s:Shared}{Q:VK}{k u:Bool}(I:Inv X i σ H s)(q:Q (.bl k) H)(e:k=u):EP X i σ Q (.bool u) s:=by
 subst e;exact⟨.bl k,H,I,rfl,q⟩
theorem xm:OpR X (compareOp .Eq) rEq:=by
 intro D s σ H x y v u Q I C A h;obtain⟨hs,q⟩:=h;cases x with
 | non=>
  cases C;cases y with
  | non=>cases A;exact PySem.EqNone.eq_none_none (qC I q (by simp))
  | bl j=>cases A;exact PySem.EqNone.eq_none_bool (qC I q (by simp))
  | int j=>obtain⟨B,rfl⟩:=A;exact PySem.EqNone.eq_none_int (qC I q (by simp))
  | str j=>obtain⟨B,rfl⟩:=A;exact PySem.EqNone.eq_none_str (qC I q (by simp))
  | _=>exact absurd (show false=true from hs) qH
 | bl i=>
  cases C;cases y with
  | non=>cases A;exact PySem.EqNone.eq_bool_none (qC I q (by simp))
  | bl j=>cases A;exact eq_bool (qC I q zdC)
  | str j=>obtain⟨B,rfl⟩:=A;exact PySem.EqMixed.eq_bool_str (qC I q (by simp))
  | _=>exact absurd (show false=true from hs) qH
 | int i=>
  obtain⟨t,rfl⟩:=C;cases y with
  | non=>cases A;exact PySem.EqNone.eq_int_none (qC I q (by simp))
  | int j=>obtain⟨B,rfl⟩:=A;exact eq_int (qC I q zbb)
  | str j=>obtain⟨B,rfl⟩:=A;exact PySem.EqMixed.eq_int_str (qC I q (by simp))
  | _=>exact absurd (show false=true from hs) qH
 | str i=>
  obtain⟨t,rfl⟩:=C;cases y with
  | non=>cases A;exact PySem.EqNone.eq_str_none (qC I q (by simp))
  | bl j=>cases A;exact PySem.EqMixed.eq_str_bool (qC I q (by simp))
  | int j=>obtain⟨B,rfl⟩:=A;exact PySem.EqMixed.eq_str_int (qC I q (by simp))
  | str j=>obtain⟨B,rfl⟩:=A;exact eq_str (qC I q zba)
  | _=>exact absurd (show false=true from hs) qH
 | byt i=>
  obtain⟨t,rfl⟩:=C;cases y with
  | byt j=>obtain⟨B,rfl⟩:=A;exact PySem.W.eq_bytes (qC I q zbc)
  | _=>exact absurd (show false=true from hs) qH
 | _=>cases y<;>exact absurd (show false=true from hs) qH
theorem zaQ:OpR X (compareOp .NotEq) rNe:=by
 intro D s σ H x y v u Q I C A h;obtain⟨hs,q⟩:=h;cases x with
 | non=>
  cases C;cases y with
  | non=>cases A;exact PySem.EqNone.ne_none_none (qC I q (by simp))
  | bl j=>cases A;exact PySem.EqNone.ne_none_bool (qC I q (by simp))
  | int j=>obtain⟨B,rfl⟩:=A;exact PySem.EqNone.ne_none_int (qC I q (by simp))
  | str j=>obtain⟨B,rfl⟩:=A;exact PySem.EqNone.ne_none_str (qC I q (by simp))
  | _=>exact absurd (show false=true from hs) qH
 | bl i=>
  cases C;cases y with
  | non=>cases A;exact PySem.EqNone.ne_bool_none (qC I q (by simp))
  | bl j=>cases A;exact ne_bool (qC I q (congrArg not zdC))
  | str j=>obtain⟨B,rfl⟩:=A;exact PySem.EqMixed.ne_bool_str (qC I q (by simp))
  | _=>exact absurd (show false=true from hs) qH
 | int i=>
  obtain⟨t,rfl⟩:=C;cases y with
  | non=>cases A;exact PySem.EqNone.ne_int_none (qC I q (by simp))
  | int j=>obtain⟨B,rfl⟩:=A;exact ne_int (qC I q (congrArg not zbb))
  | str j=>obtain⟨B,rfl⟩:=A;exact PySem.EqMixed.ne_int_str (qC I q (by simp))
  | _=>exact absurd (show false=true from hs) qH
 | str i=>
  obtain⟨t,rfl⟩:=C;cases y with
  | non=>cases A;exact PySem.EqNone.ne_str_none (qC I q (by simp))
  | bl j=>cases A;exact PySem.EqMixed.ne_str_bool (qC I q (by simp))
  | int j=>obtain⟨B,rfl⟩:=A;exact PySem.EqMixed.ne_str_int (qC I q (by simp))
  | str j=>obtain⟨B,rfl⟩:=A;exact ne_str (qC I q (congrArg not zba))
  | _=>exact absurd (show false=true from hs) qH
 | byt i=>
  obtain⟨t,rfl⟩:=C;cases y with
  | byt j=>obtain⟨B,rfl⟩:=A;exact PySem.W.ne_bytes (qC I q (congrArg not zbc))
  | _=>exact absurd (show false=true from hs) qH
 | _=>cases y<;>exact absurd (show false=true from hs) qH
theorem zaR:OpR X (compareOp .Lt) (rI0 fun i j=>.bl (decide (i<j))):=zeB fun _ _ _ _ _ _ _ q=>lt_int q
theorem zfV:OpR X (compareOp .LtE) (rI0 fun i j=>.bl (decide (i<=j))):=zeB fun _ _ _ _ _ _ _ q=>le_int q
theorem J5:OpR X (compareOp .Gt) (rI0 fun i j=>.bl (decide (j<i))):=zeB fun _ _ _ _ _ _ _ q=>gt_int q
theorem zfW:OpR X (compareOp .GtE) (rI0 fun i j=>.bl (decide (j<=i))):=zeB fun _ _ _ _ _ _ _ q=>ge_int q
theorem zc8:OpR X (compareOp .Is) (fun x y H Q=>y=.non/\Q (.bl (decide (x=.non))) H):=by
 intro i s σ H x y v u Q I A B h;obtain⟨rfl,q⟩:=h;cases B;refine is_none_gen (qC I q ?_)
 cases x<;>first
  | (cases A;rfl)
  | (obtain⟨t,rfl⟩:=A;rfl)
theorem OpR.or{f:Value->Value->Sem Value}{r A:R2}(h:OpR X f r)(D:OpR X f A):OpR X f (fun x y H Q=>r x y H Q\/A x y H Q):=by
 intro i s σ H x y v u Q I B C q;rcases q with q | q
 ·exact h i s σ H x y v u Q I B C q
 ·exact D i s σ H x y v u Q I B C q
theorem zS(b:Expr){i:CmpOp}(h:i≠.In:=by decide)(h2:i≠.NotIn:=by decide):behindInMarks i b=false:=by
 have e1:(i==CmpOp.In)=false:=by cases i<;>first| rfl | exact absurd rfl h
 have e2:(i==CmpOp.NotIn)=false:=by cases i<;>first| rfl | exact absurd rfl h2
 cases b<;>simp[behindInMarks,e1,e2]
theorem qZ{A:CmpOp}{r:R2}(G:OpR X (compareOp A) r)(D:PE X a g)(hb:PE X b l)(E:behindInMarks A b=false):PE X (.Compare a [A] [b] m) (tOp r g l):=by
 intro i s σ H Q I h;exact wpAny_Compare1 (zhn D hb I h fun v u s2 x y B C J L q=>G i s2 σ B x y v u Q C J L q) E
def zhy(t:TE):TT:=fun σ H Q=>t σ H fun x i=>IsB x i Q
theorem zF{A:CmpOp}{r:R2}(N:OpR X (compareOp A) r)(L:PE X a g)(hb:PE X b l)(M:behindInMarks A b=false):PT X (.Compare a [A] [b] m) (zhy (tOp r g l)):=by
 intro i s σ H Q I h;refine wpAny_isTrue_Compare1 (thn (L i s σ H _ I h) fun v s1 ⟨x,B,E,Y,O⟩=>thn (hb i s1 σ B _ E O) fun u s2 ⟨y,C,G,r2,T⟩=>
  thn (N i s2 σ C x y v u _ G Y r2 T) fun c s3 ⟨z,D,J,r3,k,e,U⟩=>?_) M
 subst e;cases r3;exact yq ⟨D,J,U⟩
def zgd(r B:R2)(g l w:TE):TE:=fun σ H Q=>g σ H fun x s=>l σ s fun y u=>r x y u fun z i=>∃k,z=.bl k /\
 (if k=true then w σ i fun C A=>B y C A Q else Q (.bl false) i)
theorem zc5{C A:CmpOp}{r J:R2}(ho:OpR X (compareOp C) r)(B:OpR X (compareOp A) J)(ha:PE X a g)(hb:PE X b l)(hc:PE X c w)
  (hm:lastMarks [C,A] [b,c]=false:=by with_unfolding_all rfl):PE X (.Compare a [C,A] [b,c] m) (zgd r J g l w):=by
 intro i s σ H Q I h;refine Compare_chain (thn (ha i s σ H _ I h) fun v s1 ⟨x,M,T,r1,q1⟩=>chain_link (thn (hb i s1 σ M _ T q1) fun u s2 ⟨y,N,U,L,q2⟩=>
  thn (ho i s2 σ N x y v u _ U r1 L q2) fun d s3 ⟨z,D,E,r3,k,e,G⟩=>?_)) hm
 subst e;cases r3;refine yq ?_
 cases k with
 | false=>exact ite_ff ⟨.bl false,D,E,rfl,G⟩
 | true=>exact ite_tt (chain_last (thn (hc i s3 σ D _ E G) fun w' s4 ⟨z',O,Y,r4,q4⟩=>B i s4 σ O y z' u w' Q Y L r4 q4))
theorem QL:(sizeLine:Nat)<2^63:=by rw[sizeLine_eq];decide
inductive Zl(x:V)(y:V)(H:Hp)(Q:VK):Prop
 | mk (i j:_) (_:x=.str i) (_:y=.str j) (_:i.length+j.length<=sizeLine) (_:Q (.str (i++j)) H):Zl x y H Q
theorem Yp:OpR X (binaryOp .Add) (Zl):=by
 intro A s σ H x y v u Q I C D h;obtain⟨i,j,rfl,rfl,B,q⟩:=h;obtain⟨t,rfl⟩:=C;obtain⟨E,rfl⟩:=D;exact add_str (fun E G=>⟨.str (i++j),H,I.tok _,⟨_,rfl⟩,q⟩) B
theorem vF{x:V}{i:List Value}(r:Vals [x] i):∃u,i=[u]/\RelV x u:=by
 cases r with
 | cons s A=>cases A;exact⟨_,rfl,s⟩
theorem ZI{x y:V}{i:List Value}(r:Vals [x,y] i):∃u s,i=[u,s]/\RelV x u/\RelV y s:=by
 cases r with
 | cons A B=>
  cases B with
  | cons C D=>cases D;exact⟨_,_,rfl,A,C⟩
inductive Jy(s:List V)(H:Hp)(Q:VK):Prop
 | mk (i:_) (_:s=[.int i]) (_:Q (.int (if i<0 then -i else i)) H):Jy s H Q
theorem vT:CallR X (.builtin "abs") (Jy):=by
 intro A s σ H D C Q I r h;obtain⟨i,rfl,q⟩:=h;obtain⟨u,rfl,t,rfl⟩:=vF r;exact call_abs_int fun u B=>⟨.int (if i<0 then -i else i),H,I.tok _,⟨_,rfl⟩,q⟩
inductive Z2(s:List V)(H:Hp)(Q:VK):Prop
 | mk (i j:_) (_:s=[.int i,.int j]) (_:Q (.int (if j>i then j else i)) H):Z2 s H Q
theorem Zv(hc:X.calm=true):CallR X (.builtin "max") (Z2):=by
 intro B s σ H L G Q I r h;obtain⟨i,j,rfl,q⟩:=h;obtain⟨u,J,rfl,⟨t,rfl⟩,⟨D,rfl⟩⟩:=ZI r;refine max_two_ints (I.ok.hd hc) fun C E k=>⟨_,H,I.kept k,?_,q⟩
 by_cases A:j>i
 ·rw[zu A,zu A];exact⟨_,rfl⟩
 ·rw[zo A,zo A];exact⟨_,rfl⟩
inductive Z1(s:List V)(H:Hp)(Q:VK):Prop
 | mk (i j:_) (_:s=[.int i,.int j]) (_:Q (.int (if j<i then j else i)) H):Z1 s H Q
theorem zb7(hc:X.calm=true):CallR X (.builtin "min") (Z1):=by
 intro B s σ H L G Q I r h;obtain⟨i,j,rfl,q⟩:=h;obtain⟨u,J,rfl,⟨t,rfl⟩,⟨D,rfl⟩⟩:=ZI r;refine min_two_ints (I.ok.hd hc) fun C E k=>⟨_,H,I.kept k,?_,q⟩
 by_cases A:j<i
 ·rw[zu A,zu A];exact⟨_,rfl⟩
 ·rw[zo A,zo A];exact⟨_,rfl⟩
theorem yh:CallR X (.type "int") (fun A H Q=>(∃i,A=[.int i]/\Q (.int i) H)\/∃k,A=[.bl k]/\Q (.int (if k then 1 else 0)) H):=by
 intro B s σ H A D Q I r h;rcases h with ⟨i,rfl,q⟩ | ⟨k,rfl,q⟩
 ·obtain⟨u,rfl,t,rfl⟩:=vF r
  exact call_int_int ⟨.int i,H,I,⟨_,rfl⟩,q⟩
 ·obtain⟨u,rfl,C⟩:=vF r
  cases C;exact call_int_bool ⟨.int (if k then 1 else 0),H,I.tok _,⟨_,rfl⟩,q⟩
inductive yA(s:List V)(H:Hp)(Q:VK):Prop
 | mk (i j:_) (_:s=[.int i,.int j]) (_:ziL i j) (_:∀p,H p=none->Q (.ref p) (upd H p (.tup [.int (i/j),.int (i % j)]))):yA s H Q
theorem WO:CallR X (.builtin "divmod") (yA):=by
 intro A s σ H G D Q I r h;obtain⟨i,j,rfl,⟨h1,h2⟩,q⟩:=h;obtain⟨u,E,rfl,⟨t,rfl⟩,⟨C,rfl⟩⟩:=ZI r;refine divmod_int (by omega) ?_ (.inl (PyProof.noPylong_small (by omega)))
 rw[zdP i (by omega),zdO i (by omega)]
 have B:H s.heap.objs.size=none:=I.hok.fresh (zQ _);refine⟨.ref s.heap.objs.size,_,?_,rfl,q _ B⟩
 refine I.laid (fun b o e=>qG _ e) (zQ _) ⟨by simp only[jU,Ji];rw[sizeLine_eq];decide,[.int (i/j) s.toks,.int (i % j) (s.toks+1)],.cons ⟨_,rfl⟩ (.cons ⟨_,rfl⟩ .nil),?_⟩
 exact⟨⟨_,qJ s.heap rfl,rfl,0,rfl⟩,_,qJ s.heap rfl,rfl⟩
end
structure ObjM(h:Heap)(x dx C:Addr)(mA:Str->Option Value):Prop where
 obj:h.get? x=some (PySem.W.instObj C dx)
 ns:h.Ns1 dx mA
 ne:dx≠x
theorem zbR{h:Heap}{g:Addr}{l:Str->Option Value}(n:h.Ns1 g l):∃m,h.get? g=some m/\∀b,PySem.W.lookIn b m=some (l b):=by
 obtain⟨o,i,A,w,hd,hk,_,u⟩:=n;refine⟨o,w,fun b=>?_⟩
 have e:=u b;unfold nsFind findBy at e;rw[<- Array.find?_toList] at e
 unfold PySem.W.lookIn;rw[hd];dsimp only;split
 ·rename_i y q
  rw[q] at e;exact congrArg some e
 ·rename_i q
  rw[q] at e;have a:i.toList.any (·.refKey)=false:=by
   rw[List.any_eq_false];intro y hy;obtain⟨z,t,c⟩:=hk y (Array.mem_toList_iff.mp hy);simp[DictEntry.refKey,c]
  have s:¬i.toList.any (·.refKey)=true:=by rw[a];exact qH
  rw[zo s];exact congrArg some e
theorem ObjM.look{h:Heap}{x g C:Addr}{i:Str->Option Value}(I:ObjM h x g C i):∃c,PySem.W.InstAt h x (PySem.W.instObj C g) C (some c)/\∀b,PySem.W.lookIn b c=some (i b):=
 let ⟨c,m,l⟩:=zbR I.ns
 ⟨c,⟨I.obj,rfl,rfl,m⟩,l⟩
section
variable{c:Program}{w:World}{A:Around}{E:Value->Shared->Prop}{s:Shared}{K:W.Frag}{x g C f:Addr}{i:Str->Option Value}{b:Str}{v:Value}
end
def putF(f:Str)(v:V):List (Str×V)->List (Str×V)
 | []=>[(f,v)]
 | (g,x)::r=>if g=f then(g,v)::r else(g,x)::putF f v r
theorem RelO.some_of{v:V}{o:Option Value}(r:RelO (some v) o):∃u,o=some u/\RelV v u:=by
 cases o with
 | none=>exact(show False from r).elim
 | some u=>exact⟨u,rfl,r⟩
theorem RelO.none_of{o:Option Value}(r:RelO none o):o=none:=by
 cases o with
 | none=>rfl
 | some u=>exact(show False from r).elim
section
variable{P:Program}{w:World}{H c:Hp}{h l:Heap}{a C g:Addr}{i b:List (Str×V)}
end
structure Cls(K:W.Frag)(C:Addr):Prop where
 pg:PySem.W.plainGet K C Str.empty=true
 hd:PySem.W.hasDictIn K C=true
 po:PySem.W.plainOver K C=true
 sa:PySem.W.findIn K (.ref C) "__setattr__" = some (some (.builtin "object.__setattr__"))
theorem Cls.get{K:W.Frag}{C:Addr}(c:Cls K C)(f:Str):PySem.W.plainGet K C f=true:=c.pg
structure Con(K:W.Frag)(C:Addr)(f:Str)(v:V)(u:Value):Prop where
 at_:PySem.W.findIn K (.ref C) f=some (some u)
 rel:RelV v u
 get:PySem.W.specialIn K u "__get__" = some none
 cp:PySem.W.copiedNames.contains f=false
structure Meth(K:W.Frag)(C:Addr)(m:Str)(f:Addr):Prop where
 at_:PySem.W.findIn K (.ref C) m=some (some (.ref f))
 fn:PySem.W.isFn K (.ref f)=true
 kp:PySem.W.keepIn K (.ref f)=true
section
variable{X:Cx}{b:List (Addr×Obj)}{σ:St}{H:Hp}{s:Shared}{a C c:Addr}{g:List (Str×V)}{f:Str}{v:V}{A:Around}{E:Value->Shared->Prop}
end
section
variable{X:Cx}{o e b:Expr}{f:Str}{i c g:Pos}{l m:TE}
end
section
variable{X:Cx}{g:List (Addr×Obj)}{σ:St}{H:Hp}{s:Shared}{A:Around}{E:Value->Shared->Prop}{Q:Value->Shared->Prop}{c:Value}{b:Bool}
inductive Jt(K:W.Frag)(H:Hp):V->Value->Prop where
 | non:Jt K H .non (.type "NoneType")
 | bl (x:Bool):Jt K H (.bl x) (.type "bool")
 | int (i:Int):Jt K H (.int i) (.type "int")
 | str (x:Str):Jt K H (.str x) (.type "str")
 | flt (x:UInt64):Jt K H (.flt x) (.type "float")
 | lst {a:Addr} {m:List V} (e:H a=some (.lst m)):Jt K H (.ref a) (.type "list")
 | frz {a:Addr} {o:Obj} {m:List V} (e:H a=some (.frz o (.lst m))):Jt K H (.ref a) (.type "list")
 | tup {a:Addr} {m:List V} (e:H a=some (.tup m)):Jt K H (.ref a) (.type "tuple")
 | dK {a:Addr} {l:List (Key×V)} (e:H a=some (.dK l)):Jt K H (.ref a) (.type "dict")
 | dT {a:Addr} {l:List (List Key×V)} (e:H a=some (.dT l)):Jt K H (.ref a) (.type "dict")
 | ins {a C u:Addr} {w:List (Str×V)} (e:H a=some (.ins C u w)) (D:Cls K C) (G:PySem.W.findIn K (.ref C) "__class__" = some (some (.builtin "object.__class__")))
   (J:PySem.W.specialIn K (.builtin "object.__class__") "__get__" = some (some (.builtin "getset_descriptor.__get__"))) (B:PySem.W.takesIn K (.builtin "object.__class__")=some true)
   (I:PySem.W.mroIn K C (.type "object")=some true):Jt K H (.ref a) (.ref C)
end
structure Room(k:Nat)(A:Around):Prop where
 hd:A.handled=none
 dp:A.depth+3*k+5<recursionLimit
 un:A.units+16*k+200<cLine
 gd:A.guards=some []
theorem Room.mono{j k:Nat}{A:Around}(r:Room k A)(h:j<=k):Room j A:=⟨r.hd,by have:=r.dp;omega,by have:=r.un;omega,r.gd⟩
theorem Room.m{j k:Nat}{A:Around}(r:Room k A)(h:j<=k:=by decide):Room j A:=r.mono h
theorem Room.deeper{k:Nat}{A:Around}(r:Room (k+1) A)(b:Env):Room k (A.deeper b):=
 ⟨r.hd,by have:=r.dp;show A.depth+1+3*k+5<_;omega,by have:=r.un;show A.units+3+16*k+200<_;omega,r.gd⟩
theorem Room.in1{k:Nat}{A:Around}(r:Room (k+1) A):Room k A.in1:=
 ⟨r.hd,by have:=r.dp;show A.depth+3*k+5<_;omega,by have:=r.un;show A.units+1+16*k+200<_;omega,r.gd⟩
theorem Room.depth{k:Nat}{A:Around}(r:Room k A):A.depth<recursionLimit:=by have:=r.dp;omega
theorem Room.units{k:Nat}{A:Around}(r:Room k A):A.units+64<cLine:=by have:=r.un;omega
theorem Room.units0{k:Nat}{A:Around}(r:Room k A):A.units<cLine:=by have:=r.un;omega
def zhB:TA:=fun _ H Q=>Q [] H
def JL(g:TE)(i:TA):TA:=fun σ H Q=>g σ H fun x b=>i σ b fun l c=>Q (x::l) c
section
variable{X:Cx}{e:Expr}{g:List Expr}{i:TE}{t:TA}{c:Pos}
theorem zd:PA X [] zhB:=fun _ _ _ _ H Q I h=>Jk ⟨[],H,I,.nil,h⟩
theorem za(B:PE X e i)(C:PA X g t)(hs:starEach (e::g) X.env=(false,eval e X.env)::starEach g X.env:=by rfl):PA X (e::g) (JL i t):=by
 intro c b s σ H Q I h;rw[hs];show wpAny _ _ (spliced ((false,eval e X.env)::backTo c (starEach g X.env))) _ _ s;refine yR (thn (B b s σ H _ I h) fun u s1 ⟨x,l,w,G,D⟩=>?_)
 exact thn (C c b s1 σ l _ w D) fun M s2 ⟨L,m,A,J,E⟩=>⟨x::L,m,A,.cons G J,E⟩
def ziO(t:TA):TE:=fun σ H Q=>t σ H fun l b=>l.length<=sizeLine/\∀p,b p=none->Q (.ref p) (upd b p (.tup l))
def ziU(t:TA):TE:=fun σ H Q=>t σ H fun l b=>l.length<=sizeLine/\∀p,b p=none->Q (.ref p) (upd b p (.lst l))
theorem qB{C}(h:PA X g t):PE X (.Tuple g C c) (ziO t):=by
 intro l s σ H Q I hq;refine wpAny_Tuple_spliced (thn (h c l s σ H _ I hq) fun B s1 ⟨D,m,w,r,z,q⟩=>⟨by rw[<- r.length];exact z,?_⟩)
 have A:m s1.heap.objs.size=none:=w.hok.fresh (zQ _);refine⟨.ref s1.heap.objs.size,upd m s1.heap.objs.size (.tup D),w.laid (t':=s1.toks) (fun b u e=>qG _ e) (zQ _) ?_,rfl,q _ A⟩
 exact⟨z,B,r,⟨_,qJ _ rfl,rfl,_,rfl⟩,_,qJ _ rfl,rfl⟩
theorem zV(h:PA X g t):PE X (.List g c) (ziU t):=by
 intro l s σ H Q I hq;refine wpAny_List_spliced (thn (h c l s σ H _ I hq) fun B s1 ⟨C,m,w,r,z,q⟩=>⟨by rw[<- r.length];exact z,?_⟩)
 have A:m s1.heap.objs.size=none:=w.hok.fresh (zQ _);refine⟨.ref s1.heap.objs.size,upd m s1.heap.objs.size (.lst C),w.laid (t':=s1.toks) (fun b u e=>qG _ e) (zQ _) ?_,rfl,q _ A⟩
 exact⟨z,B,0,r,qJ _ rfl⟩
end
abbrev Sp:=List V->Hp->VK->XK->Prop
abbrev CXT:=List Env->Hp->Shared->XK->Value->Shared->Prop
structure Env0(P:Program)(w:World)(K:W.Frag)(mg:Str->Option Value)(base:Heap)(A:Around)(outer:List Env)(s:Shared)(H:Hp):Prop where
 frames:A.frames=some outer
 mod:Mod K mg base
 bs:∀b o,base.get? b=some o->s.heap.get? b=some o/\H b=none
 bsz:base.objs.size<=s.heap.objs.size
 funs:s.heap.FunFrames base outer
 frf:∀b∈frs outer,H b=none
 hok:HOk P w H s.heap
 bare:AllBare s.gens
def CE(b:List Env)(P:Program)(w:World)(H:Hp)(s:Shared)(Q:VK)(u:Value)(c:Shared):Prop:=
 ∃v g,c.os=s.os/\AllBare c.gens/\Un (frs b) [] H g s.heap c.heap/\HOk P w g c.heap/\RelV v u/\Q v g
def CR(g:CXT)(b:List Env)(P:Program)(w:World)(H:Hp)(s:Shared)(Q:VK)(E:XK)(r:Result)(c:Shared):Prop:=
 match r with
 | .ok (.ret u)=>CE b P w H s Q u c
 | .ok _=>False
 | .error e=>g b H s E e c
structure FnOk(P:Program)(w:World)(K:W.Frag)(mg:Str->Option Value)(base:Heap)(CX:CXT)(k:Nat)(f:Addr)(fd:FuncData)(ps:List Str)(sp:Sp):Prop where
 len:∀vs H Q E,sp vs H Q E->vs.length=ps.length
 run:∀(A:Around) (outer:List Env) (s:Shared) (H:Hp) (args:Args) (us:List Value) (vs:List V) (Q:VK) (E:XK),Room k A->Env0 P w K mg base A outer s H->BindsTo s fd args (ps.zip us)->Vals vs us->sp vs H Q E ->
  codeAny (model P w) A (.call (.ref f) args) (CR CX outer P w H s Q E) s
theorem FnOk.mono{P:Program}{w:World}{K:W.Frag}{l:Str->Option Value}{b:Heap}{g:CXT}{j k:Nat}{f:Addr}{i:FuncData}{m:List Str}{u:Sp}(F:FnOk P w K l b g j f i m u)(h:j<=k) :
  FnOk P w K l b g k f i m u:=⟨F.len,fun A c s H args C D Q E B=>F.run A c s H args C D Q E (B.mono h)⟩
theorem FnOk.imp{P:Program}{w:World}{K:W.Frag}{u:Str->Option Value}{b:Heap}{l:CXT}{k:Nat}{f:Addr}{m:FuncData}{B:List Str}{C i:Sp}(F:FnOk P w K u b l k f m B C)
  (h:∀g H Q E,i g H Q E->C g H Q E):FnOk P w K u b l k f m B i:=
 ⟨fun g H Q E q=>F.len g H Q E (h _ _ _ _ q),fun A c s H args I g Q E G D hb hv hs=>F.run A c s H args I g Q E G D hb hv (h _ _ _ _ hs)⟩
theorem Env0.in1{P:Program}{w:World}{K:W.Frag}{g:Str->Option Value}{c:Heap}{A:Around}{b:List Env}{s:Shared}{H:Hp}(e:Env0 P w K g c A b s H) :
  Env0 P w K g c A.in1 b s H:=⟨e.frames,e.mod,e.bs,e.bsz,e.funs,e.frf,e.hok,e.bare⟩
section
variable{X:Cx}{c:List (Addr×Obj)}{σ:St}{H:Hp}{s i:Shared}
theorem Inv.env0(I:Inv X c σ H s):Env0 X.prog X.w X.K X.mg X.base X.A X.stack s H:=
 ⟨I.ok.frames,I.ok.mod,I.bs,jd I.ok.bsz I.sz,I.stack,I.stkFree,I.hok,I.bare⟩
theorem Inv.after{Q:VK}{u:Value}(I:Inv X c σ H s)(h:CE X.stack X.prog X.w H s Q u i):EP X c σ Q u i:=by
 obtain⟨v,A,os,l,un,m,r,q⟩:=h;obtain⟨B,g,d,t,w⟩:=i;obtain rfl:w=s.os:=os;exact⟨v,A,I.call (h':=B) (g':=g) (d':=d) (t':=t) (ch:=[]) un m l (fun b z=>absurd z (by simp)),r,q⟩
end
def zfq(g:Sp)(b:List V)(E:XK)(t:TA):TE:=fun σ H Q=>t σ H fun i c=>g (i++b) c Q E
def Binds(K:W.Frag)(i:FuncData)(g:List Str)(c:List Value):Prop:=
 ∀(s:Shared) (b:List Value),K.In s.heap->(b++c).length=g.length->BindsTo s i ⟨b,[]⟩ (g.zip (b++c))
theorem Binds.all{K:W.Frag}{g:FuncData}{c:List Str}(h:∀b:List Value,b.length=c.length->bindArgs g ⟨b,[]⟩=pure (c.zip b)):Binds K g c []:=fun s b _ i=>by
 rw[z7] at i ⊢;exact .of_eq (h b i)
def Y8(g:CXT)(X:Cx)(E:XK):Prop:=∀(b:List (Addr×Obj)) (σ:St) (H:Hp) (s:Shared) (e:Value) (c:Shared),Inv X b σ H s->g X.stack H s E e c->X.xe e c
section
variable{X:Cx}{w:CXT}{k:Nat}{f C:Addr}{A:FuncData}{l:List Str}{B:Sp}{b:List V}{c:List Value}{E:XK}{x m:Str}{p g D:Pos}{e o:Expr}{i:List Expr}{G:TE}{t:TA}
theorem zgl{J:List (Addr×Obj)}{σ:St}{H:Hp}{s:Shared}{Q:VK}{L:List Value}{M:List V}(F:FnOk X.prog X.w X.K X.mg X.base w k f A l B)(U:Room k X.A)(hb:Binds X.K A l c)(hd:Vals b c)(hx:Y8 w X E)
  (I:Inv X J σ H s) (r:Vals M L) (h:B (M++b) H Q E):wpAny (model X.prog X.w) X.A (call (.ref f) L) (EP X J σ Q) X.xe s:=by
 have N:Vals (M++b) (L++c):=r.append hd;have T:(L++c).length=l.length:=by rw[<- N.length];exact F.len _ _ _ _ h
 refine wpAny_call (codeAny_mono (F.run X.A X.stack s H ⟨L,[]⟩ (L++c) (M++b) Q E U I.env0 (hb s L I.kIn T) N h) fun r Y hq=>?_)
 cases r with
 | error e=>exact hx J σ H s e Y I hq
 | ok O=>
  cases O with
  | ret u=>exact I.after hq
  | next=>exact False.elim hq
  | brk=>exact False.elim hq
  | cont=>exact False.elim hq
theorem zeu(F:FnOk X.prog X.w X.K X.mg X.base w k f A l B)(U:Room k X.A)(hg:Gl X x)(T:X.mg x=some (.ref f))(hk:PySem.W.keepIn X.K (.ref f)=true)(hb:Binds X.K A l c)(hd:Vals b c)(hx:Y8 w X E)
  (N:PA X (e::i) t) (J:(x==("__debug__":Str))=false:=by decide) (O:starEach (e::i) X.env=(false,eval e X.env)::starEach i X.env:=by rfl) (L:(backTo g (starEach i X.env)).any (·.1)=false:=by rfl) :
  PE X (.Call (.Name x p) (e::i) [] g) (zfq B b E t):=by
 intro u s σ H Q I h;refine wpAny_Call_Name_kw (zaV I hg T ?_ J)
 refine PySem.W.callWith_K (h₀:=X.base) I.ok.mod.kin hk (thn (N g u s σ H _ I h) fun us s1 ⟨vs,Y,M,r,q⟩=>⟨M.kIn,?_⟩) O L
 exact zgl F U hb hd hx M r q
structure Mk(K:W.Frag)(C f:Addr):Prop where
 makes:PySem.W.makesIn K C=true
 init:PySem.W.findIn K (.ref C) "__init__" = some (some (.ref f))
 fn:PySem.W.isFn K (.ref f)=true
 kp:PySem.W.keepIn K (.ref C)=true
end
section
variable{X:Cx}{u:CXT}{k:Nat}{f C:Addr}{fd:FuncData}{ps ks:List Str}{B:Sp}{E:XK}{x m:Str}{p l b c:Pos}{e o:Expr}{w:List Expr}{i:List Keyword}{G D:TE}{t H:TA}{A:Option Str}
structure KBinds(K:W.Frag)(fd:FuncData)(ps ks:List Str)(g:List Value->List Value->List Value)(gV:List V->List V->List V):Prop where
 to:∀(s:Shared) (us ws:List Value),K.In s.heap->(g us ws).length=ps.length->BindsTo s fd ⟨us,ks.zip ws⟩ (ps.zip (g us ws))
 rel:∀{vs:List V} {us:List Value} {zs:List V} {ws:List Value},Vals vs us->Vals zs ws->Vals (gV vs zs) (g us ws)
variable{g:List Value->List Value->List Value}{gV:List V->List V->List V}
end
structure zD(N P:List Str)(sc:Scope):Prop where
 kind:sc.kind=.function
 co:sc.isCoroutine=false
 gen:sc.isGenerator=false
 nd:N.Nodup
 pre:N.take P.length=P
 par:∀x∈P,sc.names.lookup x=some .local\/sc.names.lookup x=some .cell
 nofree:∀y∈sc.names,y.2≠.free
theorem Xq{kindOf:Str->Option NameKind}{x:Str}:∀{b:List (Str×Value)} {m:Str->Option Value},(∀v,(x,v)∉b)->bindL kindOf b m x=m x
 | [],_,_=>rfl
 | (n,v)::r,m,h=>by
  unfold bindL;rw[Xq fun w c=>h w (jA _ c)]
  split
  ·have:x≠n:=by rintro rfl;exact h v qI
   simp[this]
  ·rfl
theorem Xt{kindOf:Str->Option NameKind}{x:Str}:∀{b:List (Str×Value)} {m:Str->Option Value},(∀v,(x,v)∉b)->bindC kindOf b m x=m x
 | [],_,_=>rfl
 | (n,v)::r,m,h=>by
  unfold bindC;rw[Xt fun w c=>h w (jA _ c)]
  split
  ·rfl
  ·have:x≠n:=by rintro rfl;exact h v qI
   simp[this]
theorem Xr{kindOf:Str->Option NameKind}{x:Str}{v:Value}:∀{P:List Str} {b:List Value} {i:Nat} {m:Str->Option Value},P.Nodup->P[i]? =some x->b[i]? =some v->kindOf x=some .local ->
  bindL kindOf (P.zip b) m x=some v
 | [],_,_,_,_,h,_,_=>by simp at h
 | _::_,[],_,_,_,_,h,_=>by simp at h
 | p::P,w::b,0,m,c,h1,h2,hk=>by
  simp at h1 h2;subst h1;subst h2
  show bindL kindOf ((p,w)::P.zip b) m p=_;unfold bindL;rw[Xq fun v hv=>(ZF.mp c).1 (YO hv).1,zu hk]
  simp
 | p::P,w::b,i+1,m,c,h1,h2,hk=>by
  show bindL kindOf ((p,w)::P.zip b) m x=_;unfold bindL;exact Xr (i:=i) (ZF.mp c).2 (by simpa using h1) (by simpa using h2) hk
theorem Xu{kindOf:Str->Option NameKind}{x:Str}{v:Value}:∀{P:List Str} {b:List Value} {i:Nat} {m:Str->Option Value},P.Nodup->P[i]? =some x->b[i]? =some v->kindOf x≠some .local ->
  bindC kindOf (P.zip b) m x=some v
 | [],_,_,_,_,h,_,_=>by simp at h
 | _::_,[],_,_,_,_,h,_=>by simp at h
 | p::P,w::b,0,m,c,h1,h2,hk=>by
  simp at h1 h2;subst h1;subst h2
  show bindC kindOf ((p,w)::P.zip b) m p=_;unfold bindC;rw[Xt fun v hv=>(ZF.mp c).1 (YO hv).1,zo hk]
  simp
 | p::P,w::b,i+1,m,c,h1,h2,hk=>by
  show bindC kindOf ((p,w)::P.zip b) m x=_;unfold bindC;exact Xu (i:=i) (ZF.mp c).2 (by simpa using h1) (by simpa using h2) hk
def ZK(N:List Str)(b:List V):St:=b.map some++List.replicate (N.length-b.length) none
def JD(g:CXT)(P:Program)(w:World)(K:W.Frag)(mg:Str->Option Value)(base:Heap)(N:List Str)(qual:Str)(scope:Scope)(f:Addr)(c:Value)(A:Around)(outer:List Env)(s:Shared)(H:Hp)(E:XK):Cx where
 prog:=P
 w:=w
 K:=K
 mg:=mg
 base:=base
 A:=A.deeper (envOfC qual scope s.heap.objs.size f c)
 N:=N
 s₀:=s
 H₀:=H
 env:=envOfC qual scope s.heap.objs.size f c
 outer:=outer
 stack:=envOfC qual scope s.heap.objs.size f c::outer
 ex:=[]
 calm:=true
 fn:=fun _=>true
 pn:=[]
 xe:=fun e l=>wpAny (model P w) (A.deeper (envOfC qual scope s.heap.objs.size f c)) (leaving (envOfC qual scope s.heap.objs.size f c) e) (fun _ b=>g outer H s E e b) (fun i b=>g outer H s E i b) l
theorem WM{b:Scope}{n:Nat}{x:Str}(h:b.names.lookup x=some .cell):∃c,(cellsFrom n b.names []).lookup x=some c:=by
 have q:=PySem.W.cellsFrom_some b.names n [] (.inl h);exact Option.isSome_iff_exists.mp q
theorem zbX{O:CXT}{P:Program}{w:World}{K:W.Frag}{L:Str->Option Value}{l:Heap}{N C:List Str}{qual:Str}{scope:Scope}{f:Addr}{I:Value}{A:Around}{g:List Env}{s s1:Shared}{H:Hp}{E:XK}{M:List Value}{D:List V}
  (S:zD N C scope) (hd:A.handled=none) (m:Env0 P w K L l A g s H) (hl:D.length=C.length) (r:Vals D M)
  (x:InCallC s s.heap.objs.size (bindL (envOfC qual scope s.heap.objs.size f I).kindOf (C.zip M) fun _=>none) (cellsFrom (s.heap.objs.size+1) scope.names []) (bindC (envOfC qual scope s.heap.objs.size f I).kindOf (C.zip M) fun _=>none) s1) :
  Inv (JD O P w K L l N qual scope f I A g s H E) [] (ZK N D) H s1:=by
 have T:C.length<=N.length:=by have:=congrArg List.length S.pre;rw[qP] at this;omega
 obtain⟨h1,tk,rfl,hk⟩:=x.done;have B:∀b:Addr,b∉(JD O P w K L l N qual scope f I A g s H E).ex:=fun b z=>absurd (show b∈([]:List Addr) from z) (by simp)
 refine⟨⟨m.mod,S.kind,rfl,rfl,zQ _,fun y z c h1 h2=>?_,fun y hy=>?_,fun y c _ h=>?_,fun _=>hd,Around.frames_deeper m.frames,.inr ⟨rfl,rfl⟩,fun b z=>absurd z (B b),m.bs,m.bsz,fun b _ _=>B b,fun b z=>absurd z (B b),m.funs,m.frf⟩,
  rfl,m.bare,Un.kept hk,⟨_,x.toInCall.ns,fun i y v h1 h2 Y=>?_⟩,fun y c h=>⟨_,x.cell y c h⟩,m.hok.fresh (zQ _),fun y c h=>?_,fun p hp=>absurd (show p∈([]:List (Addr×Obj)) from hp) (by simp),m.hok.kept hk,?_⟩
 ·exact name_of_addr x.apart (yr h1) (yr h2)
 ·have hy:scope.names.lookup y=some .cell\/scope.names.lookup y=some .free:=hy
  rcases hy with hy | hy
  ·exact WM hy
  ·exact absurd rfl (S.nofree _ (yr hy))
 ·exact ZA (x.above y c (yr h))
 ·have J:i<D.length:=by
   unfold ZK at h2;by_cases J:i<D.length
   ·exact J
   ·rw[xa (by simpa using J)] at h2
    rw[List.getElem?_replicate] at h2
    split at h2<;>cases h2
  have Q:D[i]? =some v:=by
   unfold ZK at h2;rw[j9 (by simpa using J),zU] at h2
   cases e:D[i]? with
   | none=>rw[e] at h2;cases h2
   | some a=>rw[e] at h2;cases h2;rfl
  obtain⟨u,hu,U⟩:=r.get Q;have hp:C[i]? =some y:=by
   rw[<- S.pre,List.getElem?_take_of_lt (by omega)];exact h1
  have G:C.Nodup:=by rw[<- S.pre];exact S.nd.sublist (List.take_sublist _ _)
  refine⟨u,U,?_⟩
  rcases S.par y (je hp) with k | k
  ·exact .inl ⟨k,Xr G hp hu k⟩
  ·obtain⟨c,e⟩:=WM (n:=s.heap.objs.size+1) k
   refine .inr ⟨.inl k,c,e,?_⟩
   have q:=x.cell y c e;rw[Xu G hp hu (by show scope.names.lookup y≠_;rw[k];decide)] at q
   exact q
 ·exact m.hok.fresh (ZA (x.above y c (yr h)))
 ·unfold ZK
  show _=N.length;rw[zW,zp,yu];omega
theorem zix{U:CXT}{P:Program}{w:World}{K:W.Frag}{Y:Str->Option Value}{i:Heap}{k:Nat}{f:Addr}{C qual:Str}{l:Arguments}{body:List Stmt}{scope:Scope}{dV kV L pm g ct oc:Value}{an od:Option Addr}
  {ab:Array (Option Value)} {N ps:List Str} {sp:Sp} (lk:K.lookup f=some ⟨oc,od,.func (PySem.W.fnOf C qual l body scope dV kV L pm an g ct),ab⟩) (a0:PySem.W.codeIn K g qual=true) (S:zD N ps scope)
  (T:∀m H Q E,sp m H Q E->m.length=ps.length)
  (D:∀(A:Around) (c:List Env) (s:Shared) (H:Hp) (m:List V) (Q:VK) (E:XK),Room k (A.deeper (envOfC qual scope s.heap.objs.size f g))->sp m H Q E ->
   ∃t,PSs (JD U P w K Y i N qual scope f g A c s H E) body t/\t { nx:=fun _ B=>Q .non B,rt:=Q } (ZK N m) H) :
  FnOk P w K Y i U (k+1) f (PySem.W.fnOf C qual l body scope dV kV L pm an g ct) ps sp:=by
 refine⟨T,fun A c s H args us m Q E hr M hb r O=>?_⟩
 have hl:=T _ _ _ _ O;have KX:K.In s.heap:=M.mod.kin.keeps fun b o e=>(M.bs b o e).1
 have aa:s.heap.NoLimit:=M.mod.nolimit.keeps fun b o e=>(M.bs b o e).1
 have G:∀y∈ps.zip us,scope.names.lookup y.1=some .local\/(scope.names.lookup y.1=some .cell/\((cellsFrom (s.heap.objs.size+1) scope.names []).lookup y.1).isSome=true):=fun ⟨n,v⟩ hy=>by
  rcases S.par n (YO hy).1 with q | q
  ·exact .inl q
  ·exact .inr ⟨q,PySem.W.cellsFrom_some _ _ _ (.inl q)⟩
 refine codeAny_call_function hr.depth (KX _ _ lk) rfl S.co S.gen rfl (PySem.W.codeRec_of KX a0) (hb _ _ _ _ ?_)
 refine wpAny_newFunctionEnv_cells S.kind G fun ac he s1 x=>?_
 subst he;refine⟨aa.keeps x.toInCall.keep,codeAny_func ?_⟩
 obtain⟨t,ht,hq⟩:=D A c s H m Q E (hr.deeper _) O;have I:Inv (JD U P w K Y i N qual scope f g A c s H E) [] (ZK N m) H s1:=zbX S hr.hd M hl r x;refine qW (ht [] s1 (ZK N m) H _ I hq) (fun fl s' hs=>?_) fun e s' hs=>hs
 have fin:∀{σ':St} {B:Hp} {v:V} {u:Value},Inv (JD U P w K Y i N qual scope f g A c s H E) [] σ' B s'->RelV v u->Q v B->CE c P w H s Q u s':=
  fun {σ' B v u} J rv q=>⟨v,B,J.os,J.bare,J.base,J.hok,rv,q⟩
 cases fl with
 | ret u=>
  obtain⟨v,σ',B,J,rv,q⟩:=hs;exact fin J rv q
 | next=>
  obtain⟨σ',B,J,q⟩:=hs;exact fin (v:=V.non) (u:=Value.none) J rfl q
 | brk=>
  obtain⟨_,_,_,q⟩:=hs;exact False.elim q
 | cont=>
  obtain⟨_,_,_,q⟩:=hs;exact False.elim q
section
variable{X:Cx}{x:Str}{p b:Pos}{e:Expr}{c:List Expr}{t:TA}{id T:String}{r:List V->Hp->VK->Prop}
def tCB(r:List V->Hp->VK->Prop)(t:TA):TE:=fun σ H Q=>t σ H fun i g=>r i g Q
theorem zy(hc:CallR X (.builtin id) r)(hg:Gl X x)(B:X.mg x=none)(hv:bootBuiltins x=some (.builtin id))(w:PA X (e::c) t)(C:x ≠ "__name__" :=by decide)(i:(x==("__debug__":Str))=false:=by decide)
  (A:starEach (e::c) X.env=(false,eval e X.env)::starEach c X.env:=by rfl) (l:(backTo b (starEach c X.env)).any (·.1)=false:=by rfl):PE X (.Call (.Name x p) (e::c) [] b) (tCB r t):=by
 intro g s σ H Q I h;refine wpAny_Call_Name_kw (vD I hg B hv ?_ C i)
 exact PyProof.Rows.callWith_builtin1 (thn (w b g s σ H _ I h) fun G s1 ⟨J,m,u,E,D⟩=>hc g s1 σ m J G Q u E D) A l
theorem ja(hc:CallR X (.type T) r)(hg:Gl X x)(B:X.mg x=none)(hv:bootBuiltins x=some (.type T))(w:PA X (e::c) t)(C:x ≠ "__name__" :=by decide)(i:(x==("__debug__":Str))=false:=by decide)
  (A:starEach (e::c) X.env=(false,eval e X.env)::starEach c X.env:=by rfl) (l:(backTo b (starEach c X.env)).any (·.1)=false:=by rfl):PE X (.Call (.Name x p) (e::c) [] b) (tCB r t):=by
 intro g s σ H Q I h;refine wpAny_Call_Name_kw (vD I hg B hv ?_ C i)
 exact Jb (thn (w b g s σ H _ I h) fun G s1 ⟨J,m,u,E,D⟩=>hc g s1 σ m J G Q u E D) A l
end
end L2
namespace HT
open PySem PyProof.Rows
section
open PySem.SeqAt
open PySem.AutoSeq1 (wpAny_loadPart')
open PySem.MeetsSeq PySem.MeetsSeq2 PySem.MeetsSeq3
end
section
variable{b:Program}{w:World}{A:Around}{E:Value->Shared->Prop}{s:Shared}
def sIx(n d:Nat):Option Int->Nat
 | none=>d
 | some v=>if v<0 then(v+(n:Int)).toNat else min v.toNat n
theorem sIx_none(n d:Nat):sIx n d none=d:=rfl
theorem sIx_nat(n d k:Nat):sIx n d (some (k:Int))=min k n:=by
 show(if(k:Int)<0 then((k:Int)+(n:Int)).toNat else min (k:Int).toNat n)=min k n
 rw[zo (by omega),xu]
theorem zgj(n d:Nat)(hd:d<=n)(o:Option Int):sIx n d o<=n:=by
 cases o with
 | none=>exact hd
 | some v=>
  show(if v<0 then(v+(n:Int)).toNat else min v.toNat n)<=n
  by_cases hv:v<0
  ·rw[zu hv];omega
  ·rw[zo hv];exact Vg _ _
theorem zbe(v:Int)(n d:Nat):(if v<0 then max (v+(n:Int)) 0 else min v (n:Int))=((sIx n d (some v):Nat):Int):=by
 show(if v<0 then max (v+(n:Int)) 0 else min v (n:Int))=(((if v<0 then(v+(n:Int)).toNat else min v.toNat n):Nat):Int)
 by_cases hv:v<0
 ·simp only[zu hv];omega
 ·simp only[zo hv];omega
theorem Y6(lo c:Option Int)(n:Nat):Builtin.Slice.sliceAdjust lo c 1 (n:Int)=(((sIx n 0 lo:Nat):Int),((sIx n n c:Nat):Int)):=by
 have h1:¬((1:Int)<0):=by omega
 unfold Builtin.Slice.sliceAdjust;simp only[h1,if_false];refine Prod.ext ?_ ?_
 ·cases lo with
  | none=>rfl
  | some v=>exact zbe v n 0
 ·cases c with
  | none=>rfl
  | some v=>exact zbe v n n
theorem Yk(i j:Nat):Builtin.Slice.slicePlaces (i:Int) (j:Int) 1=j-i:=by
 unfold Builtin.Slice.slicePlaces;have h1:(1:Int)>0:=by omega
 simp only[h1,if_true,Int.ediv_one];split<;>omega
theorem Qs{v:Value}{o:Option Int}{Q:Option Int->Shared->Prop}(p:IsPart v o)(h:Q o s):wpAny (model b w) A (Builtin.Slice.slicePartIndex v) Q E s:=by
 cases p with
 | none=>exact slicePart_none h
 | int i t=>exact slicePart_int h
theorem sliceApplied_gen{u:Addr}{l m:Value}{lo g:Option Int}{n:Nat}{Q:Int×Int×Nat->Shared->Prop}(hs:s.heap.IsSliceOf u l m .none)(C:IsPart l lo)(D:IsPart m g)
  (h:Q (((sIx n 0 lo:Nat):Int),1,sIx n n g-sIx n 0 lo) s):wpAny (model b w) A (Builtin.Slice.sliceApplied (.ref u) (pure (n:Int))) Q E s:=by
 obtain⟨os,i,B,c⟩:=id hs;unfold Builtin.Slice.sliceApplied Builtin.Slice.sliceFields;refine zm (zm (xU i c (x:=l) rfl (zm (xU i c (x:=m) rfl (zm (xU i c (x:=.none) rfl (zJ ?_)))))))
 refine zm (slicePart_none ?_)
 show wpAny _ _ (if((1:Int)==0)=true then _ else _) _ _ s
 rw[zo (by decide)]
 refine zm (Qs C (zm (Qs D (zm (zJ ?_)))))
 show wpAny _ _ (match Builtin.Slice.sliceAdjust lo g 1 (n:Int) with | (lo,g)=>pure (lo,(1:Int),Builtin.Slice.slicePlaces lo g 1)) _ _ s
 rw[Y6 lo g n];show wpAny _ _ (pure (((sIx n 0 lo:Nat):Int),(1:Int),Builtin.Slice.slicePlaces ((sIx n 0 lo:Nat):Int) ((sIx n n g:Nat):Int) 1)) _ _ s;rw[Yk];exact zJ h
theorem zc2(c:Array Value)(i k:Nat):((List.range k).filterMap fun(m:Nat)=>c[((i:Int)+(m:Int)*1).toNat]?).toArray=((c.toList.drop i).take k).toArray:=by
 have e:(fun(m:Nat)=>c[((i:Int)+(m:Int)*1).toNat]?)=fun m=>c[i+m]?:=by
  funext m
  have:((i:Int)+(m:Int)*1).toNat=i+m:=by omega
  rw[this]
 rw[e];have:=pick_run c i k;rw[List.filterMap_map] at this;have e2:((fun x=>c[x]?)∘fun x=>i+x)=fun m=>c[i+m]?:=rfl
 rw[e2] at this;rw[this]
theorem getItem_tuple_cut{t G:Addr}{c:Array Value}{I J:Value}{lo i:Option Int}{Q:Value->Shared->Prop}(l:IsTup s.heap t c)(hs:s.heap.IsSliceOf G I J .none)(O:IsPart I lo)(T:IsPart J i)
  (N:¬(sIx c.size 0 lo=0/\sIx c.size c.size i=c.size))
  (h:Q (.ref s.heap.objs.size) { s with heap:=s.heap.push { cls:=.type "tuple",data:=.seq ((c.toList.drop (sIx c.size 0 lo)).take (sIx c.size c.size i-sIx c.size 0 lo)).toArray } })
  (M:c.size<=sizeLine):wpAny (model b w) A (getItem (.ref t) (.ref G)) Q E s:=by
 have g:sizeOk (.seq ((c.toList.drop (sIx c.size 0 lo)).take (sIx c.size c.size i-sIx c.size 0 lo)).toArray):=by
  show((c.toList.drop (sIx c.size 0 lo)).take (sIx c.size c.size i-sIx c.size 0 lo)).toArray.size<=sizeLine;rw[z9,qP,ZV,ZX];omega
 have U:sIx c.size c.size i<=c.size:=zgj _ _ (zQ _) i;obtain⟨os,D,B,L⟩:=id hs;have u:s.TypeIs (.ref G) "slice" :=⟨os,D,B⟩;unfold getItem;try with_reducible refine vW ?_
 first| refine zm (zJ ?_) | skip
 refine zm (wpAny_sequenceKey l.typeIs (by decide) ?_)
 refine zm (yw (name:=Str.ofString "__getitem__") l.typeIs Y5
  (wD Y5 l.typeIs entry_tuple_getitem ?_ (args_tuple_getitem _ _)))
 show wpAny _ _ (Builtin.Tuple.tupleItemsOf (.ref t) >>= _) _ _ s;refine zm (tupleItemsOf_ l ?_)
 refine zm (Zz u ?_)
 rw[zu (by decide)]
 refine zm (sliceApplied_gen hs O T ?_)
 have C:¬((((sIx c.size 0 lo:Nat):Int)==0&&(1:Int)==1&&(sIx c.size c.size i-sIx c.size 0 lo)==c.size)=true):=by
  intro q;rw[j8,j8] at q;have Y:((sIx c.size 0 lo:Nat):Int)=0:=eq_of_beq q.1.1;have q2:sIx c.size c.size i-sIx c.size 0 lo=c.size:=eq_of_beq q.2;exact N ⟨by omega,by omega⟩
 show wpAny _ _ (if(((sIx c.size 0 lo:Nat):Int)==0&&(1:Int)==1&&(sIx c.size c.size i-sIx c.size 0 lo)==c.size)=true then _ else _) _ _ s
 rw[zo C,zc2];first
  | exact zm (m:=Builtin.Tuple.tupleExact _) (vo (zJ ⟨_,rfl,zJ h⟩) g)
  | exact zm (m:=Builtin.Tuple.tupleExact _) (vo (zm (zJ (zJ ⟨_,rfl,zJ h⟩))) g)
  | exact zm (zm (m:=Builtin.Tuple.tupleExact _) (vo (zJ (zJ ⟨_,rfl,zJ h⟩)) g))
  | exact zm (zm (m:=Builtin.Tuple.tupleExact _) (vo (zJ ⟨_,rfl,zJ h⟩) g))
end
end HT
namespace L2
open PySem PySem.Spec PyProof.Rows
abbrev TO:=St->Hp->(Option Int->Hp->Prop)->Prop
def PO(X:Cx)(e:Option Expr)(t:TO):Prop:=
 ∀(b:List (Addr×Obj)) (s:Shared) (σ:St) (H:Hp) (Q:Option Int->Hp->Prop),Inv X b σ H s->t σ H Q ->
  wpAny (model X.prog X.w) X.A (evalPart e X.env) (fun u g=>∃o c,Inv X b σ c g/\IsPart u o/\Q o c) X.xe s
def zd3:TO:=fun _ H Q=>Q none H
def zhz(t:TE):TO:=fun σ H Q=>t σ H fun x b=>IsI x b fun i b=>Q (some i) b
theorem YD{b:List Int}:∀{c:List Value},Vals (b.map V.int) c->IntsAre c b:=by
 induction b with
 | nil=>intro c r;rw[Jf] at r;cases r;exact .nil
 | cons n b g=>
  intro c r;rw[jL] at r;cases r with
  | cons i l=>
   obtain⟨t,e⟩:=i;subst e;exact .cons n t (g l)
section
variable{X:Cx}{e:Expr}{g:TE}{lo c:Option Expr}{w m:TO}{A B:Pos}
theorem wc:PO X none zd3:=by
 intro b s σ H Q I h;rw[evalPart_none];exact zJ ⟨none,H,I,.none,h⟩
theorem x6(h:PE X e g):PO X (some e) (zhz g):=by
 intro b s σ H Q I D;rw[evalPart_some];refine thn (h b s σ H _ I D) fun u s1 ⟨x,l,C,G,E⟩=>?_
 obtain⟨i,rfl,q⟩:=E;obtain⟨t,rfl⟩:=G;exact⟨some i,l,C,.int i t,q⟩
def SlR(X:Cx)(r:V->Option Int->Option Int->Hp->VK->Prop):Prop:=
 ∀(b:List (Addr×Obj)) (s:Shared) (σ:St) (H:Hp) (x:V) (v l u:Value) (lo c:Option Int) (i:Addr) (Q:VK),Inv X b σ H s->RelV x v->s.heap.IsSliceOf i l u .none->IsPart l lo->IsPart u c->r x lo c H Q ->
  ∃T id,typeLookup (.type T) "__getitem__" = pure (some (.builtin id))/\s.TypeIs v T/\wpAny (model X.prog X.w) X.A (getItem v (.ref i)) (EP X b σ Q) X.xe s
theorem SlR.or{r u:V->Option Int->Option Int->Hp->VK->Prop}(h:SlR X r)(J:SlR X u):SlR X (fun x lo c H Q=>r x lo c H Q\/u x lo c H Q):=by
 intro b s σ H x v E G lo c D Q I C hs i l q;rcases q with q | q
 ·exact h b s σ H x v E G lo c D Q I C hs i l q
 ·exact J b s σ H x v E G lo c D Q I C hs i l q
def tSl(r:V->Option Int->Option Int->Hp->VK->Prop)(g:TE)(w m:TO):TE:=fun σ H Q=>g σ H fun x b=>w σ b fun l i=>m σ i fun u s=>r x l u s Q
theorem xR{r:V->Option Int->Option Int->Hp->VK->Prop}(hr:SlR X r)(he:PE X e g)(hl:PO X lo w)(hu:PO X c m):PE X (.Subscript e (.Slice lo c none B) A) (tSl r g w m):=by
 intro i s σ H Q I h;refine Subscript_ (thn (he i s σ H _ I h) fun v s1 ⟨x,J,M,r1,q1⟩=>?_)
 refine wpAny_Slice (thn (hl i s1 σ J _ M q1) fun D s2 ⟨l,L,N,pl,q2⟩=>thn (hu i s2 σ L _ N q2) fun E C ⟨u,G,O,pu,q3⟩=>?_)
 rw[evalPart_none];refine zJ ?_
 have U:Inv X i σ G { C with heap:=C.heap.push { cls:=.type "slice",data:=.fields #[D,E,.none] } }:=O.kept (t':=C.toks) fun b ob q=>qG _ q
 obtain⟨T,id,Y,ht,hg⟩:=hr i { C with heap:=C.heap.push { cls:=.type "slice",data:=.fields #[D,E,.none] } } σ G x v D E l u C.heap.objs.size Q U r1 (Heap.IsSliceOf.new ..) pl pu q3;show wpAny (model X.prog X.w) X.A (subscriptTail e (.Slice lo c none B) v (.ref C.heap.objs.size)) (EP X i σ Q) X.xe { C with heap:=C.heap.push { cls:=.type "slice",data:=.fields #[D,E,.none] } };exact tail_any (ops:=[.ref C.heap.objs.size,v]) ht Y hg (by with_unfolding_all rfl)
def jE(b:List V)(lo c:Option Int):List V:=(b.drop (HT.sIx b.length 0 lo)).take (HT.sIx b.length b.length c-HT.sIx b.length 0 lo)
theorem ZN(b:List V)(lo c:Option Int):(jE b lo c).length<=b.length:=by
 unfold jE;rw[qP,ZV];omega
inductive zh1(K:W.Frag)(x:V)(lo:Option Int)(c:Option Int)(H:Hp)(Q:VK):Prop
 | mk (a b:_) (_:x=.ref a) (_:SqT K H a b) (_:¬(HT.sIx b.length 0 lo=0/\HT.sIx b.length b.length c=b.length)) (_:∀p,H p=none->Q (.ref p) (upd H p (.tup (jE b lo c)))):zh1 K x lo c H Q
theorem Yi:SlR X (zh1 X.K):=by
 intro E s σ H x v U Y lo c O Q I M hs J L h;obtain⟨a,l,rfl,hx,G,q⟩:=h;cases M;obtain⟨u,r,C,D⟩:=I.tuple hx;have i:u.toArray.size=l.length:=by rw[z9];exact r.length.symm
 refine⟨"tuple",_,Y5.lookup,C.typeIs,?_⟩
 refine HT.getItem_tuple_cut C hs J L (by rw[i];exact G) ?_ (by rw[i];exact D)
 rw[i];refine⟨.ref s.heap.objs.size,_,I.laid (t':=s.toks) (o:=.tup (jE l lo c)) (fun b N q=>qG _ q) (zQ _) ?_,rfl,q _ (I.hok.fresh (zQ _))⟩
 exact⟨jd (ZN l lo c) D,_,(r.drop (HT.sIx l.length 0 lo)).take (HT.sIx l.length l.length c-HT.sIx l.length 0 lo),⟨IsTup.new _ _,_,qJ _ rfl,rfl⟩⟩
end
def ixN(n:Nat)(i:Int):Option Nat:=if 0<=i then(if i<n then some i.toNat else none) else if -(n:Int)<=i then some (i+n).toNat else none
def atI{α:Type}(b:List α)(i:Int):Option α:=(ixN b.length i).bind fun j=>b[j]?
theorem zaY{n:Nat}{i:Int}{j:Nat}(h:ixN n i=some j):seqIndex? i n=some j/\j<n/\ -(n:Int)<=i/\i<n:=by
 unfold ixN at h;by_cases h0:0<=i
 ·rw[zu h0] at h
  by_cases h1:i<n
  ·rw[zu h1] at h
   have e:i.toNat=j:=jH h;exact⟨by rw[seqIndex_of h0 h1,e],by omega,by omega,h1⟩
  ·rw[zo h1] at h;cases h
 ·rw[zo h0] at h
  by_cases h1:-(n:Int)<=i
  ·rw[zu h1] at h
   have e:(i+n).toNat=j:=jH h;exact⟨by rw[seqIndex_neg (by omega) h1,e],by omega,h1,by omega⟩
  ·rw[zo h1] at h;cases h
theorem X5{α:Type}{b:List α}{i:Int}{v:α}(h:atI b i=some v):∃j,seqIndex? i b.length=some j/\b[j]? =some v/\j<b.length/\ -(b.length:Int)<=i/\i<b.length:=by
 unfold atI at h;cases e:ixN b.length i with
 | none=>rw[e] at h;cases h
 | some j=>
  rw[e] at h;obtain⟨h1,h2,c,g⟩:=zaY e;exact⟨j,h1,h,h2,c,g⟩
theorem zY{α:Type}{xs:List α}{j:Nat}{v:α}(h:xs[j]? =some v):atI xs (j:Int)=some v:=by
 have b:j<xs.length:=(zL.mp h).1;have e:ixN xs.length (j:Int)=some j:=by
  unfold ixN;rw[zu (by omega),zu (by omega)];simp
 unfold atI;rw[e];exact h
theorem zdK{α:Type}(b:List α)(v:α):atI (b++[v]) (-1)=some v:=by
 have c:(b++[v]).length=b.length+1:=by simp
 have e:ixN (b++[v]).length (-1)=some b.length:=by
  unfold ixN;rw[c,zo (by decide),zu (by omega)]
  congr 1
  omega
 unfold atI;rw[e];show(b++[v])[b.length]? =some v;simp
def zfm(b:Expr):Prop:=∀o i,subscripted b false o i=operate [o,i] (getItem o i)
def IxR(X:Cx)(r:R2):Prop:=
 ∀(g b:Expr) (c:List (Addr×Obj)) (s:Shared) (σ:St) (H:Hp) (x y:V) (v u:Value) (Q:VK),Inv X c σ H s->RelV x v->RelV y u->r x y H Q ->
  subscripted b false v u=operate [v,u] (getItem v u)->wpAny (model X.prog X.w) X.A (subscriptTail g b v u) (EP X c σ Q) X.xe s
def MtR(X:Cx)(id:String)(r:V->List V->Hp->VK->Prop):Prop:=
 ∀(b:List (Addr×Obj)) (s:Shared) (σ:St) (H:Hp) (x:V) (g:List V) (v:Value) (c:List Value) (Q:VK),Inv X b σ H s->RelV x v->Vals g c->r x g H Q ->
  wpAny (model X.prog X.w) X.A (call (.builtin id) (v::c)) (EP X b σ Q) X.xe s
section
variable{X:Cx}{a b:Expr}{E G:TE}{D:Pos}
theorem IxR.or{r w:R2}(h:IxR X r)(L:IxR X w):IxR X (fun x y H Q=>r x y H Q\/w x y H Q):=by
 intro i c l s σ H x y v u Q I A J q hs;rcases q with q | q
 ·exact h i c l s σ H x y v u Q I A J q hs
 ·exact L i c l s σ H x y v u Q I A J q hs
theorem MtR.or{id:String}{r l:V->List V->Hp->VK->Prop}(h:MtR X id r)(J:MtR X id l):MtR X id (fun x i H Q=>r x i H Q\/l x i H Q):=by
 intro c s σ H x i v A Q I w u q;rcases q with q | q
 ·exact h c s σ H x i v A Q I w u q
 ·exact J c s σ H x i v A Q I w u q
theorem zx{r:R2}(A:IxR X r)(w:PE X a E)(hb:PE X b G)(hs:zfm b):PE X (.Subscript a b D) (tOp r E G):=by
 intro c s σ H Q I h;exact Subscript_ (zhn w hb I h fun v u s2 x y i l J L q=>A a b c s2 σ i x y v u Q l J L q (hs _ _))
inductive zgr(K:W.Frag)(x:V)(y:V)(H:Hp)(Q:VK):Prop
 | mk (p c i v:_) (_:x=.ref p) (_:y=.int i) (_:SqL K H p c) (_:atI c i=some v) (_:Q v H):zgr K x y H Q
inductive zgq(K:W.Frag)(x:V)(y:V)(H:Hp)(Q:VK):Prop
 | mk (p c i v:_) (_:x=.ref p) (_:y=.int i) (_:SqT K H p c) (_:atI c i=some v) (_:Q v H):zgq K x y H Q
inductive zh5(x:V)(y:V)(H:Hp)(Q:VK):Prop
 | mk (z i c:_) (_:x=.str z) (_:y=.int i) (_:z.length<=sizeLine) (_:atI z.cps.toList i=some c) (_:Q (.str ⟨#[c]⟩) H):zh5  x y H Q
theorem qh:IxR X (zgr X.K):=by
 intro N M c s σ H x y v u Q I rx ry h hs;obtain⟨p,xs,i,z,rfl,rfl,hq,he,q⟩:=h;cases rx;obtain⟨t,rfl⟩:=ry;obtain⟨A,r,J,hz⟩:=I.list hq;obtain⟨j,h1,h2,h3,U,Y⟩:=X5 he;obtain⟨w,O,L⟩:=r.get h2;have hl:=r.length;have hn:=QL;have fin:EP X c σ Q w s:=⟨z,H,I,L,q⟩;by_cases h0:0<=i
 ·have l:i.toNat=j:=by
   rw[seqIndex_of h0 Y] at h1;exact jH h1
  exact item_listR J.isList h0 (by omega) (by rw[l];simpa using O) fin hs
 ·have l:(i+(A.toArray.size:Int)).toNat=j:=by
   rw[seqIndex_neg (by omega) U] at h1
   rw[z9,<- hl];exact jH h1
  exact subscriptTail_builtinR (x:=w) J.isList.typeIs slot_list_getitem.lookup
   (wpAny_getItem_list_neg (Q:=fun r s'=>r=w/\EP X c σ Q r s') J.isList (by omega) (by rw[z9]<;>omega) (by omega) (by rw[l];simpa using O) ⟨rfl,fin⟩) hs
theorem zI:IxR X (zgq X.K):=by
 intro J A c s σ H x y v u Q I Y ry h hs;obtain⟨p,xs,i,z,rfl,rfl,hq,N,q⟩:=h;cases Y;obtain⟨t,rfl⟩:=ry;obtain⟨U,r,L,hz⟩:=I.tuple hq;obtain⟨j,h1,h2,h3,h4,h5⟩:=X5 N;obtain⟨w,M,l⟩:=r.get h2;have O:=r.length;have hn:=QL;have fin:EP X c σ Q w s:=⟨z,H,I,l,q⟩;exact subscriptTail_builtinR (x:=w) L.typeIs slot_tuple_getitem.lookup
  (getItem_tuple (j:=j) (Q:=fun r s'=>r=w/\EP X c σ Q r s') L (by omega) (by omega) (by rw[z9,<- O];exact h1) (by simpa using M) ⟨rfl,fin⟩) hs
theorem zha:IxR X zh5:=by
 intro w l A s σ H x y v u Q I O U h hs;obtain⟨z,i,c,rfl,rfl,hz,M,q⟩:=h;obtain⟨t,rfl⟩:=O;obtain⟨t',rfl⟩:=U;obtain⟨j,h1,h2,Y,J,L⟩:=X5 M;have N:z.cps.toList.length=z.length:=by simp[Str.length]
 rw[N] at h1 J L;have hn:=QL;exact tail_any (typeIs_str s z t) slot_str_getitem.lookup (getItem_str (c:=c) (by
  have e1:decide (i< -(2^63:Int))=false:=jM (by omega)
  have e2:decide (i≥2^63)=false:=jM (by omega)
  rw[e1,e2,Bool.or_false]) (by rw[h1];simpa using h2) ⟨.str ⟨#[c]⟩,H,I.tok _,⟨_,rfl⟩,q⟩) hs
theorem Yx(c:List Value)(n j:Nat)(u:Value):Obj.mapSeq (·.setIfInBounds j u) { cls:=.type "list",data:=.seq c.toArray n }={ cls:=.type "list",data:=.seq (c.set j u).toArray n }:=by
 simp[Obj.mapSeq]
theorem Inv.lst{i:List (Addr×Obj)}{σ:St}{H:Hp}{s:Shared}{p:Addr}{l:List V}(I:Inv X i σ H s)(h:H p=some (.lst l)) :
  ∃(c:List Value) (n:Nat),Vals l c/\s.heap.get? p=some { cls:=.type "list",data:=.seq c.toArray n }/\l.length<=sizeLine:=by
 obtain⟨z,c,n,r,e⟩:=I.hok p _ h;exact⟨c,n,r,e,z⟩
theorem Inv.lstUpd{i:List (Addr×Obj)}{σ:St}{H:Hp}{s:Shared}{p:Addr}{N A:List V}{l c:List Value}{n w:Nat}{f:Obj->Obj}(I:Inv X i σ H s)(h:H p=some (.lst N))
  (L:s.heap.get? p=some { cls:=.type "list",data:=.seq l.toArray n }) (J:f { cls:=.type "list",data:=.seq l.toArray n }={ cls:=.type "list",data:=.seq c.toArray w }) (r:Vals A c) (M:A.length<=sizeLine) (t:Nat) :
  Inv X i σ (upd H p (.lst A)) { s with heap:=s.heap.update p f,toks:=t }:=by
 have e:(s.heap.update p f).get? p=some { cls:=.type "list",data:=.seq c.toArray w }:=by
  rw[Q6 f L (by rw[J]<;>rfl),J]
 refine I.write (x:=p) (e:=p) (by rw[h];trivial) (.inl rfl) (fun b u hb q=>(Xw _ _ (qz hb)).trans q) ⟨_,e⟩ ?_
 exact⟨M,c,w,r,e⟩
inductive zfQ(o:V)(i:V)(v:V)(H:Hp)(Q:Hp->Prop):Prop
 | mk (p c k j:_) (_:o=.ref p) (_:i=.int k) (_:H p=some (.lst c)) (_:ixN c.length k=some j) (_:Q (upd H p (.lst (c.set j v)))):zfQ  o i v H Q
theorem wJ:zhr X zfQ:=by
 intro l s σ H o i v ov iv u Q I Y U rv h;obtain⟨p,xs,k,j,rfl,rfl,hp,N,q⟩:=h;cases Y;obtain⟨t,rfl⟩:=U;obtain⟨c,n,r,A,O⟩:=I.lst hp;obtain⟨h1,h2,L,M⟩:=zaY N;have w:=r.length;have hn:=QL;have J:Inv X l σ (upd H p (.lst (xs.set j v))) { s with heap:=s.heap.update p (Obj.mapSeq (·.setIfInBounds j u)) }:=
  I.lstUpd hp A (Yx c n j u) (r.set rv j) (by rw[ZE];exact O) s.toks
 by_cases h0:0<=k
 ·have hk:k.toNat=j:=by
   rw[seqIndex_of h0 M] at h1;exact jH h1
  exact PySem.W.ki_setAt A h0 (by omega) (by rw[z9,<- w];exact M) (by rw[hk];exact⟨_,J,q⟩)
 ·have hk:(k+(c.toArray.size:Int)).toNat=j:=by
   rw[seqIndex_neg (by omega) L] at h1
   rw[z9,<- w];exact jH h1
  exact PySem.W.ki_setBack A (by omega) (by rw[z9,<- w];exact L) (by omega) (by rw[hk];exact⟨_,J,q⟩)
theorem XH(lo c:Option Int)(n:Nat):(sliceBounds lo c none n).1=((HT.sIx n 0 lo:Nat):Int)/\(sliceBounds lo c none n).2.1=((HT.sIx n n c:Nat):Int)/\(sliceBounds lo c none n).2.2=1:=by
 refine⟨?_,?_,rfl⟩
 ·cases lo with
  | none=>simp[sliceBounds,HT.sIx]
  | some i=>
   simp only[sliceBounds,HT.sIx,Option.getD_none,show(1:Int)>0 by decide,if_true]
   by_cases h:i<0
   ·simp only[h,if_true]<;>omega
   ·simp only[h,if_false]<;>omega
 ·cases c with
  | none=>simp[sliceBounds,HT.sIx]
  | some i=>
   simp only[sliceBounds,HT.sIx,Option.getD_none,show(1:Int)>0 by decide,if_true]
   by_cases h:i<0
   ·simp only[h,if_true]<;>omega
   ·simp only[h,if_false]<;>omega
theorem JB(c:List Value)(lo i:Option Int):slicePick c.toArray lo i none=((c.drop (HT.sIx c.length 0 lo)).take (HT.sIx c.length c.length i-HT.sIx c.length 0 lo)).toArray:=by
 obtain⟨h1,h2,l⟩:=XH lo i c.toArray.size;unfold slicePick;rw[h1,h2,l];simp only[sliceRange_one,pick_run,z9]<;>rfl
inductive zh3(K:W.Frag)(x:V)(lo:Option Int)(c:Option Int)(H:Hp)(Q:VK):Prop
 | mk (a i:_) (_:x=.ref a) (_:SqL K H a i) (_:∀p,H p=none->Q (.ref p) (upd H p (.lst (jE i lo c)))):zh3 K x lo c H Q
theorem ya:SlR X (zh3 X.K):=by
 intro w s σ H x v vl vu lo l U Q I N hs L M h;obtain⟨a,c,rfl,hx,q⟩:=h;cases N;obtain⟨J,r,u,A⟩:=I.list hx;have i:=r.length;refine⟨"list",_,slot_list_getitem.lookup,u.isList.typeIs,?_⟩
 refine wpAny_getItem_list_slice u.isList hs L M .none (by simp) ?_ (by rw[z9]<;>omega)
 rw[JB,<- i];refine⟨.ref s.heap.objs.size,_,I.laid (t':=s.toks) (o:=.lst (jE c lo l)) (fun b O q=>qG _ q) (zQ _) ?_,rfl,q _ (I.hok.fresh (zQ _))⟩
 exact⟨jd (ZN c lo l) A,_,0,(r.drop (HT.sIx c.length 0 lo)).take (HT.sIx c.length c.length l-HT.sIx c.length 0 lo),qJ _ rfl⟩
def jS:V->Bool
 | .non=>true
 | .bl _=>true
 | .int _=>true
 | .str _=>true
 | _=>false
def eqV:V->V->Bool
 | .non,.non=>true
 | .bl a,.bl b=>a==b
 | .bl a,.int b=>(if a then 1 else 0)==b
 | .int a,.bl b=>a==(if b then 1 else 0)
 | .int a,.int b=>a==b
 | .str a,.str b=>a==b
 | _,_=>false
theorem QV{A:Around}{s:Shared}{y x:V}{u v:Value}(w:RelV y u)(c:RelV x v)(H:jS y=true)(l:jS x=true):SeqAt.EqAt A s u v (eqV y x):=by
 cases y with
 | non=>
  cases w;cases x with
  | non=>cases c;exact YN _
  | bl b=>cases c;exact SeqAt.EqAt.none_bool b
  | int b=>obtain⟨t,rfl⟩:=c;exact SeqAt.EqAt.none_int b t
  | str b=>obtain⟨t,rfl⟩:=c;exact SeqAt.EqAt.none_str b t
  | _=>exact absurd (show false=true from l) qH
 | bl a=>
  cases w;cases x with
  | non=>cases c;exact SeqAt.EqAt.bool_none a
  | bl b=>cases c;exact SeqAt.EqAt.bool_bool a b
  | int b=>obtain⟨t,rfl⟩:=c;exact SeqAt.EqAt.bool_int a b t
  | str b=>obtain⟨t,rfl⟩:=c;exact SeqAt.EqAt.bool_str a b t
  | _=>exact absurd (show false=true from l) qH
 | int a=>
  obtain⟨i,rfl⟩:=w;cases x with
  | non=>cases c;exact SeqAt.EqAt.int_none a i
  | bl b=>cases c;exact SeqAt.EqAt.int_bool a i b
  | int b=>obtain⟨t,rfl⟩:=c;exact SeqAt.EqAt.int_int a i b t
  | str b=>obtain⟨t,rfl⟩:=c;exact SeqAt.EqAt.int_str a i b t
  | _=>exact absurd (show false=true from l) qH
 | str a=>
  obtain⟨i,rfl⟩:=w;cases x with
  | non=>cases c;exact SeqAt.EqAt.str_none a i
  | bl b=>cases c;exact SeqAt.EqAt.str_bool a i b
  | int b=>obtain⟨t,rfl⟩:=c;exact SeqAt.EqAt.str_int a i b t
  | str b=>obtain⟨t,rfl⟩:=c;exact SeqAt.EqAt.str_str a i b t
  | _=>exact absurd (show false=true from l) qH
 | _=>exact absurd (show false=true from H) qH
def eqU(x:V)(u:Value):Bool:=match u with
 | .none=>eqV .non x
 | .bool b=>eqV (.bl b) x
 | .int i _=>eqV (.int i) x
 | .str z _=>eqV (.str z) x
 | _=>false
theorem zdB{x y:V}{u:Value}(r:RelV y u)(f:jS y=true):eqU x u=eqV y x:=by
 cases y with
 | non=>cases r;rfl
 | bl b=>cases r;rfl
 | int i=>obtain⟨t,rfl⟩:=r;rfl
 | str z=>obtain⟨t,rfl⟩:=r;rfl
 | _=>exact absurd (show false=true from f) qH
theorem Zd{x:V}:∀{c:List V} {i:List Value},Vals c i->c.all jS=true->i.any (eqU x)=c.any fun y=>eqV y x
 | _,_,.nil,_=>rfl
 | y::c,u::i,.cons r t,f=>by
  rw[List.all_cons,j8] at f;rw[wx,wx,zdB r f.1,Zd t f.2]
theorem wQ{A:Around}{s:Shared}{x:V}{v:Value}(w:RelV x v)(l:jS x=true):∀{i:List V} {c:List Value},Vals i c->i.all jS=true->∀u∈c,SeqAt.EqAt A s u v (eqU x u)
 | _,_,.nil,_=>fun u hu=>by cases hu
 | y::i,u::c,.cons r t,f=>fun H hu=>by
  rw[List.all_cons,j8] at f;rcases qg.mp hu with rfl | hu
  ·rw[zdB r f.1];exact QV r w f.1 l
  ·exact wQ w l t f.2 H hu
def inV(x:V)(c:List V):Bool:=c.any fun y=>eqV y x
inductive rIn(K:W.Frag)(c:Bool)(x:V)(y:V)(H:Hp)(Q:VK):Prop
 | mk (p i:_) (_:y=.ref p) (_:(SqL K H p i\/SqT K H p i)) (_:jS x=true) (_:i.all jS=true) (_:Q (.bl (if c then !inV x i else inV x i)) H):rIn K c x y H Q
theorem jJ:OpR X (compareOp .In) (rIn X.K false):=by
 intro L s σ H x y v u Q I M O h;obtain⟨p,U,rfl,hq,J,i,q⟩:=h;cases O;rcases hq with hq | hq
 ·obtain⟨c,r,A,N⟩:=I.list hq
  refine SeqAt.in_listAt (eqU x) A.isList (fun w l=>wQ M J r i w (by simpa using l)) ⟨.bl _,H,I,rfl,?_⟩
  rw[show c.toArray.any (eqU x)=c.any (eqU x) by simp,Zd r i]
  exact q
 ·obtain⟨c,r,A,N⟩:=I.tuple hq
  refine SeqAt.in_tupleAt (eqU x) A (fun w l=>wQ M J r i w (by simpa using l)) ⟨.bl _,H,I,rfl,?_⟩
  rw[show c.toArray.any (eqU x)=c.any (eqU x) by simp,Zd r i]
  exact q
theorem wm:OpR X (compareOp .NotIn) (rIn X.K true):=by
 intro L s σ H x y v u Q I M O h;obtain⟨p,U,rfl,hq,J,i,q⟩:=h;cases O;rcases hq with hq | hq
 ·obtain⟨c,r,A,N⟩:=I.list hq
  refine SeqAt.notIn_listAt (eqU x) A.isList (fun w l=>wQ M J r i w (by simpa using l)) ⟨.bl _,H,I,rfl,?_⟩
  rw[show c.toArray.any (eqU x)=c.any (eqU x) by simp,Zd r i]
  exact q
 ·obtain⟨c,r,A,N⟩:=I.tuple hq
  refine SeqAt.notIn_tupleAt (eqU x) A (fun w l=>wQ M J r i w (by simpa using l)) ⟨.bl _,H,I,rfl,?_⟩
  rw[show c.toArray.any (eqU x)=c.any (eqU x) by simp,Zd r i]
  exact q
inductive vq(K:W.Frag)(i:List V)(H:Hp)(Q:VK):Prop
 | mk (p c:_) (_:i=[.ref p]) (_:(SqL K H p c\/SqT K H p c)) (_:Q (.int c.length) H):vq K i H Q
theorem zO:CallR X (.builtin "len") (vq X.K):=by
 intro A s σ H U O Q I r h;obtain⟨p,J,rfl,hq,q⟩:=h;obtain⟨u,rfl,M⟩:=vF r;cases M;have N:=QL;rcases hq with hq | hq
 ·obtain⟨i,w,l,L⟩:=I.list hq
  have c:=w.length;exact Calls.call_len_list l.isList (by simp only[z9]<;>omega) ⟨.int J.length,H,I.tok _,⟨s.toks+1,by rw[z9,c]⟩,q⟩
 ·obtain⟨i,w,l,L⟩:=I.tuple hq
  have c:=w.length;exact len_tuple l (by simp only[z9]<;>omega) ⟨.int J.length,H,I.tok _,⟨s.toks+1,by rw[z9,c]⟩,q⟩
theorem CallR.or{f:Value}{r l:List V->Hp->VK->Prop}(h:CallR X f r)(A:CallR X f l):CallR X f (fun i H Q=>r i H Q\/l i H Q):=by
 intro c s σ H i w Q I u q;rcases q with q | q
 ·exact h c s σ H i w Q I u q
 ·exact A c s σ H i w Q I u q
inductive w8(K:W.Frag)(i:List V)(H:Hp)(Q:VK):Prop
 | mk (p c:_) (_:i=[.ref p]) (_:(SqL K H p c\/SqT K H p c)) (_:∀l,H l=none->Q (.ref l) (upd H l (.lst c))):w8 K i H Q
theorem X1:CallR X (.type "list") (w8 X.K):=by
 intro M s σ H xs us Q I r h;obtain⟨p,U,rfl,hq,q⟩:=h;obtain⟨u,rfl,rx⟩:=vF r;cases rx;have fin:∀(c:List Value),Vals U c->U.length<=sizeLine->∀(i:Heap) (l:Nat),(∀b Y,s.heap.get? b=some Y->i.get? b=some Y) ->
   i.get? s.heap.objs.size=some { cls:=.type "list",dict:=none,data:=.seq c.toArray l,slots:=#[] }->EP X M σ Q (.ref s.heap.objs.size) { s with heap:=i }:=fun c w J i l L e=>
  ⟨.ref s.heap.objs.size,_,I.laid (t':=s.toks) L (zQ _) (show ObjOk X.prog X.w _ i _ (.lst U) from ⟨J,c,l,w,e⟩),rfl,q _ (I.hok.fresh (zQ _))⟩
 rcases hq with hq | hq
 ·obtain⟨c,w,O,J⟩:=I.list hq
  have A:=w.length;obtain⟨o,N,hc,n,hd⟩:=O.isList;exact call_list_seq p (.inl rfl) N hc hd (fun i l L e=>fin c w J i l L e) (by simp only[z9]<;>omega)
 ·obtain⟨c,w,O,J⟩:=I.tuple hq
  have A:=w.length;obtain⟨o,N,hc,n,hd⟩:=O;exact call_list_seq p (.inr rfl) N hc hd (fun i l L e=>fin c w J i l L e) (by simp only[z9]<;>omega)
inductive wF(K:W.Frag)(i:List V)(H:Hp)(Q:VK):Prop
 | mk (p c:_) (_:i=[.ref p]) (_:((SqL K H p c/\∀l,H l=none->Q (.ref l) (upd H l (.tup c)))\/(SqT K H p c/\Q (.ref p) H))):wF K i H Q
theorem j6:CallR X (.type "tuple") (wF X.K):=by
 intro c s σ H xs us Q I r h;obtain⟨p,N,rfl,h⟩:=h;obtain⟨u,rfl,Y⟩:=vF r;cases Y;rcases h with ⟨hq,q⟩ | ⟨hq,q⟩
 ·obtain⟨i,A,w,M⟩:=I.list hq
  have L:=A.length;refine call_tuple_list w.isList (fun l U=>?_) (by simp only[z9]<;>omega)
  have J:Inv X c σ H { s with heap:=l }:=I.kept (t':=s.toks) U;have O:Inv X c σ (upd H l.objs.size (.tup N)) { s with heap:=l.push { cls:=.type "tuple",data:=.seq i.toArray } }:=
   J.laid (t':=s.toks) (fun b o e=>qG _ e) (zQ _) (show ObjOk X.prog X.w _ _ _ (.tup N) from ⟨M,i,A,⟨IsTup.new _ _,_,qJ _ rfl,rfl⟩⟩)
  exact⟨.ref l.objs.size,_,O,rfl,q _ (J.hok.fresh (zQ _))⟩
 ·obtain⟨i,A,w,M⟩:=I.tuple hq
  exact call_tuple_same w ⟨.ref p,H,I,rfl,q⟩
def tyV(K:W.Frag)(T:String)(x:V)(H:Hp):Prop:=match x with
 | .str _=>T = "str"
 | .int _=>T = "int"
 | .ref p=>(T = "list" /\ ∃i,SqL K H p i)\/(T = "tuple" /\ ∃o,K.lookup p=some o/\o.cls=.type "tuple" /\ o.dict=none) \/
   (T = "dict" /\ ((∃c,H p=some (.dK c))\/∃c,H p=some (.dT c)))\/(T = "set" /\ ∃S n,H p=some (.set S n))
 | _=>False
theorem zf8{u:List (Addr×Obj)}{σ:St}{H:Hp}{s:Shared}{T:String}{x:V}{v:Value}(I:Inv X u σ H s)(r:RelV x v)(ty:tyV X.K T x H) :
  s.TypeIs v T/\∀a,v=.ref a->∃A,s.heap.get? a=some A/\A.dict=none:=by
 cases x with
 | str z=>
  obtain⟨t,rfl⟩:=r;cases(show T = "str" from ty)
  exact⟨typeIs_str s z t,fun _ e=>nomatch e⟩
 | int i=>
  obtain⟨t,rfl⟩:=r;cases(show T = "int" from ty)
  exact⟨typeIs_int s i t,fun _ e=>nomatch e⟩
 | ref p=>
  cases r;rcases ty with ⟨rfl,M,hq⟩ | ⟨rfl,o,hk,hc,hd⟩ | ⟨rfl,hk⟩ | ⟨rfl,S,n,hk⟩
  ·obtain⟨L,_,J,_⟩:=I.list hq
   refine⟨J.isList.typeIs,fun a e=>?_⟩
   cases e;obtain⟨o,n,e,c,hd,_⟩:=J;exact⟨o,e,hd⟩
  ·refine⟨⟨o,I.kIn p o hk,hc⟩,fun a e=>?_⟩
   cases e;exact⟨o,I.kIn _ o hk,hd⟩
  ·have z:∃o,s.heap.get? p=some o/\o.ExactDict:=by
    rcases hk with ⟨w,hk⟩ | ⟨w,hk⟩
    ·obtain⟨_,_,_,_,o,_,_,e,l,_⟩:=I.hok p _ hk
     exact⟨o,e,l⟩
    ·obtain⟨_,_,_,_,o,_,_,e,l,_⟩:=I.hok p _ hk
     exact⟨o,e,l⟩
   obtain⟨o,e,l⟩:=z;refine⟨⟨o,e,l.1⟩,fun a e2=>?_⟩
   cases e2;exact⟨o,e,l.2.1⟩
  ·obtain⟨o,_,_,_,e,l,_⟩:=I.hok p _ hk
   refine⟨⟨o,e,l.1⟩,fun a e2=>?_⟩
   cases e2;exact⟨o,e,l.2.1⟩
 | _=>exact False.elim ty
def tBM(K:W.Frag)(T:String)(r:V->List V->Hp->VK->Prop)(to:TE)(t:TA):TE:=fun σ H Q=>to σ H fun x c=>tyV K T x c/\t σ c fun l i=>r x l i Q
variable{o e:Expr}{C:List Expr}{to:TE}{t:TA}{m:Str}{B g:Pos}{T id:String}{r:V->List V->Hp->VK->Prop}
theorem jO(pa:PlainAttrs T)(A:Slot T m id)(J:typeOf (.builtin id)=pure (.type "method_descriptor"))(hm:MtR X id r)(ho:PE X o to)(ha:PA X (e::C) t)
  (l:attributeBase o m X.env (eval o X.env)=eval o X.env:=by rfl)
  (w:((backTo g (starEach (e::C) X.env)).all (fun x=>!x.1)&&(backToKw g (keywordEach [] X.env)).all (fun x=>x.1.isSome)
   && decide ((e::C).length+([]:List Keyword).length+(if([]:List Keyword).isEmpty then 0 else 1)<30))=true:=by rfl)
  (u:(B.endLine==g.line)=true:=by rfl) (hs:starEach (e::C) X.env=(false,eval e X.env)::starEach C X.env:=by rfl) (i:(backTo g (starEach C X.env)).any (·.1)=false:=by rfl) :
  PE X (.Call (.Attribute o m B) (e::C) [] g) (tBM X.K T r to t):=by
 intro c s σ H Q I h;refine wpAny_Call_method_late l w u rfl (thn (ho c s σ H _ I h) fun v s1 ⟨x,O,L,N,ty,q1⟩=>?_)
 obtain⟨h1,h2⟩:=zf8 L N ty;refine⟨T,id,pa,A,J,h1,h2,?_⟩
 have M:=ha g c s1 σ O _ L q1;rw[hs] at M ⊢;refine Vv (by show(false||(backTo g (starEach C X.env)).any (·.1))=false;rw[i]<;>rfl) (Vr ?_)
 exact thn M fun us s2 ⟨vs,U,Y,r2,q2⟩=>hm c s2 σ U x vs v us Q Y N r2 q2
end
def MtM(X:Cx)(id:String)(r:V->List V->Hp->VK->Prop):Prop:=
 ∀(b:List (Addr×Obj)) (s:Shared) (σ:St) (H:Hp) (x:V) (g:List V) (v:Value) (c:List Value) (Q:VK),Inv X b σ H s->RelV x v->Vals g c->r x g H Q ->
  wpAny (model X.prog X.w) X.A (call (.builtin id) (v::c)) (EP X b σ Q) X.xe s
theorem Vals.one:∀{x:V} {b:List Value},Vals [x] b->∃u,b=[u]/\RelV x u
 | _,_,.cons r .nil=>⟨_,rfl,r⟩
theorem Vals.two:∀{x y:V} {b:List Value},Vals [x,y] b->∃u v,b=[u,v]/\RelV x u/\RelV y v
 | _,_,_,.cons r (.cons q .nil)=>⟨_,_,rfl,r,q⟩
theorem Vals.zero:∀{b:List Value},Vals [] b->b=[]
 | _,.nil=>rfl
theorem Vals.dropLast{c:List V}{b:List Value}(h:Vals c b):Vals c.dropLast b.dropLast:=by
 induction h with
 | nil=>exact .nil
 | cons r t g=>
  cases t with
  | nil=>exact .nil
  | cons q i=>exact .cons r g
theorem Vals.eraseIdx:∀{c:List V} {b:List Value} (i:Nat),Vals c b->Vals (c.eraseIdx i) (b.eraseIdx i)
 | _,_,_,.nil=>.nil
 | _,_,0,.cons _ t=>t
 | _,_,i+1,.cons r t=>.cons r (Vals.eraseIdx i t)
theorem Vals.reverse{c:List V}{b:List Value}(h:Vals c b):Vals c.reverse b.reverse:=by
 induction h with
 | nil=>exact .nil
 | cons r t g=>rw[YT,YT];exact Vals.append g (.cons r .nil)
theorem Vals.rep{c:List V}{b:List Value}(h:Vals c b):∀k:Nat,Vals (List.replicate k c).flatten (List.replicate k b).flatten
 | 0=>.nil
 | k+1=>by
  rw[Jn,Jn,Vk,Vk];exact Vals.append h (Vals.rep h k)
theorem Xf(c:List Value):∀(k:Nat) (b:List Value),
  List.foldl (fun g i=>g++i) b.toArray (List.replicate k c.toArray)=(b++(List.replicate k c).flatten).toArray
 | 0,b=>by simp
 | k+1,b=>by
  have e:b.toArray++c.toArray=(b++c).toArray:=by simp
  have e2:(b++c)++(List.replicate k c).flatten=b++(List.replicate (k+1) c).flatten:=by
   rw[Jn,Vk,qx]
  rw[<- e2,<- Xf c k (b++c),<- e,Jn,List.foldl_cons]
section
variable{X:Cx}{c:List (Addr×Obj)}{σ:St}{H:Hp}{s:Shared}{l b:Addr}{i g m:List V}
theorem Inv.lset{w its':List Value}{n:Nat}{f:Array Value->Array Value}{D:Nat}(I:Inv X c σ H s)(A:H l=some (.lst i))
  (e:s.heap.get? l=some { cls:=.type "list",data:=.seq w.toArray n }) (B:f w.toArray=its'.toArray) (hv:Vals g its') (C:g.length<=sizeLine) :
  Inv X c σ (upd H l (.lst g)) { s with heap:=s.heap.update l (Obj.mapSeq f),toks:=D }:=by
 have q:=PySem.IsL.update e f;rw[B] at q;refine I.write (x:=l) (e:=l) (by rw[A];exact trivial) (.inl rfl) (fun E u hb hu=>(Xw s.heap (Obj.mapSeq f) (qz hb)).trans hu) ⟨_,q⟩ ?_
 exact⟨C,its',_,hv,q⟩
theorem Inv.lnew{u:List Value}{t':Nat}(I:Inv X c σ H s)(hv:Vals g u)(w:g.length<=sizeLine) :
  Inv X c σ (upd H s.heap.objs.size (.lst g)) { s with heap:=s.heap.push { cls:=.type "list",data:=.seq u.toArray },toks:=t' }:=
 I.laid (fun _ _ q=>qG _ q) (zQ _) ⟨w,u,0,hv,qJ _ rfl⟩
theorem Inv.fresh(I:Inv X c σ H s):H s.heap.objs.size=none:=I.hok.fresh (zQ _)
theorem Inv.lstM(I:Inv X c σ H s)(w:H l=some (.lst i)):i.length<=sizeLine/\∃(u:List Value) (n:Nat),Vals i u/\i.length=u.length/\s.heap.get? l=some { cls:=.type "list",data:=.seq u.toArray n }:=by
 obtain⟨z,u,n,r,e⟩:=I.hok l _ w;exact⟨z,u,n,r,r.length,e⟩
theorem Wp{n:Nat}(h:n<=sizeLine):Builtin.List.listTooLong n=false:=by
 unfold Builtin.List.listTooLong;exact jM (by omega)
end
section
variable{X:Cx}
inductive zaN(x:V)(c:List V)(H:Hp)(Q:VK):Prop
 | mk (l b y:_) (_:x=.ref l) (_:c=[y]) (_:H l=some (.lst b)) (_:b.length<sizeLine) (_:Q .non (upd H l (.lst (b++[y])))):zaN  x c H Q
theorem qF:MtM X "list.append" zaN:=by
 intro i s σ H x E v D Q I A w h;obtain⟨l,G,y,rfl,rfl,c,C,q⟩:=h;cases A;obtain⟨u,rfl,m⟩:=w.one;obtain⟨z,b,n,r,B,e⟩:=I.lstM c;refine call_meets F.slot_list_append ⟨_,e,rfl⟩ F.entry_list_append (F.args_list_append_2 _ _) (PySem.list_append l b.toArray n u (by rw[z9];omega)) ⟨e,?_⟩
 refine⟨.non,_,I.lset (its':=b++[u]) c e (by simp) (r.append (.cons m .nil)) ?_,rfl,q⟩
 rw[zW,List.length_singleton];omega
inductive zaL(x:V)(i:List V)(H:Hp)(Q:VK):Prop
 | mk (l b c g:_) (_:x=.ref l) (_:i=[.ref b]) (_:H l=some (.lst c)) (_:H b=some (.lst g)) (_:c.length+g.length<=sizeLine) (_:Q .non (upd H l (.lst (c++g)))):zaL  x i H Q
theorem J9:MtM X "list.extend" zaL:=by
 intro B s σ H x U v T Q I M L h;obtain⟨l,b,Y,zs,rfl,rfl,w,C,O,q⟩:=h;cases M;obtain⟨u,rfl,J⟩:=L.one;cases J;obtain⟨z,g,n,r,N,e⟩:=I.lstM w;obtain⟨z2,c,E,G,D,e2⟩:=I.lstM C;have m:g.toArray.size+c.toArray.size<=sizeLine:=by rw[z9,z9];omega
 have i:¬(!g.toArray.isEmpty&&Builtin.List.listTooLong (g.toArray.size+c.toArray.size))=true:=by
  rw[Wp m,Bool.and_false];exact qH
 refine call_meets F.slot_list_extend ⟨_,e,rfl⟩ F.entry_list_extend (F.args_list_extend_2 _ _)
  (AutoSeq1.list_extend_list_list_0 l g.toArray n b c.toArray E i (by rw[z9];omega) (by omega)) ⟨e,e2,?_⟩
 refine⟨.non,_,I.lset (its':=g++c) w e (by simp) (r.append G) ?_,rfl,q⟩
 rw[zW];omega
inductive zgs(x:V)(y:V)(H:Hp)(Q:VK):Prop
 | mk (l b c g:_) (_:x=.ref l) (_:y=.ref b) (_:H l=some (.lst c)) (_:H b=some (.lst g)) (_:c.length+g.length<=sizeLine) (_:∀p,H p=none->Q (.ref p) (upd H p (.lst (c++g)))):zgs  x y H Q
theorem jQ:OpR X (binaryOp .Add) zgs:=by
 intro i s σ H x y v u Q I D E h;obtain⟨l,b,N,T,rfl,rfl,A,w,J,q⟩:=h;cases D;cases E;obtain⟨z,g,n,r,G,e⟩:=I.lstM A;obtain⟨O,c,L,C,B,e2⟩:=I.lstM w;refine PySem.P.add_list e e2 ?_ (by rw[z9,z9];omega)
 have m:g.toArray++c.toArray=(g++c).toArray:=by simp
 rw[m];exact⟨.ref _,_,I.lnew (t':=s.toks) (r.append C) (by rw[zW];omega),rfl,q _ I.fresh⟩
inductive zh4(x:V)(y:V)(H:Hp)(Q:VK):Prop
 | mk (l k b:_) (_:x=.ref l) (_:y=.int k) (_:H l=some (.lst b)) (_:-(2^63)<=k) (_:k<2^63) (_:b.length*k.toNat<=sizeLine) (_:∀p,H p=none->Q (.ref p) (upd H p (.lst (List.replicate k.toNat b).flatten))):zh4  x y H Q
theorem ze0{α:Type}(b:List α)(k:Nat):(List.replicate k b).flatten.length=k*b.length:=by
 induction k with
 | zero=>simp
 | succ k c=>rw[Jn,Vk,zW,c,Nat.succ_mul,Nat.add_comm]
theorem zc7:OpR X (binaryOp .Mult) zh4:=by
 intro E s σ H x y v u Q I M N h;obtain⟨l,k,xs,rfl,rfl,J,h1,h2,D,q⟩:=h;cases M;obtain⟨t,rfl⟩:=N;obtain⟨z,b,n,r,L,e⟩:=I.lstM J;have w:b.toArray.size*k.toNat<=sizeLine:=by rw[z9,<- L];exact D
 have g:¬b.toArray.size*k.toNat>(2^63-1)/8:=by
  have:(sizeLine:Nat)<=(2^63-1)/8:=by decide
  omega
 have i:¬(!Builtin.List.listFitsIndex k)=true:=by
  rw[fitsIndex_both h1 h2];exact qH
 have c:¬Builtin.List.listTooLong (b.toArray.size*k.toNat)=true:=by
  rw[Wp w];exact qH
 have A:List.foldl (fun B C=>B++C) #[] (List.replicate (if b.toArray.isEmpty=true then 0 else k.toNat) b.toArray)=(List.replicate k.toNat b).flatten.toArray:=by
  have G:∀m:Nat,List.foldl (fun B C=>B++C) #[] (List.replicate m b.toArray)=(List.replicate m b).flatten.toArray:=fun m=>by
   have:=Xf b m [];rw[vX] at this;exact this
  rw[G];cases b with
  | nil=>simp
  | cons a Y=>rw[zo (by simp)]
 refine wpAny_binaryOp_repeat_ref (T:= "list") (U:= "int") (by decide) ⟨_,e,rfl⟩ (fun O=>typeIs_int O k t) noFill_list_mul F.fills_int_mul F.slot_int_rmul repeat_list F.slot_int_index.lookup
  (call_meets F.slot_int_rmul (typeIs_int s k t) F.entry_int_rmul (F.args_int_rmul_2 _ _) (int___rmul___int_list k t l b.toArray n)
   ⟨e,rfl,⟨_,e,rfl⟩,call_meets F.slot_list_mul ⟨_,e,rfl⟩ F.entry_list_mul (F.args_list_mul_2 _ _) (AutoListH.list___mul___list_int_3 l b.toArray n k t i g c) ⟨e,?_⟩⟩)
 rw[A];exact⟨.ref _,_,I.lnew (t':=s.toks) (r.rep k.toNat) (by rw[ze0,Nat.mul_comm];exact D),rfl,q _ I.fresh⟩
end
section
variable{b:Program}{w:World}{A:Around}{E:Value->Shared->Prop}{s:Shared}
end
section
variable{X:Cx}
end
end L2
namespace Att
open PySem PySem.W PySem.Calls PyProof.Rows
theorem Z7{P:Params}{h:Heap}:∀(c:List Int) (g:List Value),WellAll P h g (c.map WData.int)->IntsAre g c:=by
 intro c;induction c with
 | nil=>
  intro g w;rw[Jf] at w;cases w;exact .nil
 | cons n c i=>
  intro g w;rw[jL] at w;cases w with
  | cons a b=>
   cases a;exact .cons _ _ (i _ b)
theorem zbG{l:OpenLaw}{n:Nat}(D:l.most=some n){P:Params}{h:Heap}{args:List WData}{g:List Value}
  (c:l.row.toRowW.claim.pre args=true) (A:WellAll P h g args) :
  ∃a B b,g=[Value.ref a]/\args=[WData.list (b.map WData.int)]/\h.get? a=some { cls:=.type "list",data:=.seq B.toArray }/\IntsAre B b/\b.length<=n:=by
 have w:WShape.hasAll [] args [.list .int]=true:=(pre_splitW c).1;have hc:l.pre.holds [] { args:=args }=true:=(pre_splitW c).2;obtain⟨d,r,rfl,h1,h2⟩:=hasAllW_cons w;obtain rfl:=hasAllW_nil h2;obtain⟨I,rfl,C⟩:=hasW_list h1;obtain⟨b,rfl⟩:=items_int C;have m:b.length<=n:=by
  unfold OpenLaw.pre at hc;have s:(WTm.not (.lt (.lit (.int (n:Int))) (.len (.arg 0)))).holds [] { args:=[.list (b.map .int)] }=true:=by
   have s:=(holds_andW hc).1;rw[D] at s;exact s
  have u:=condW_of s (w_not (w_lt w_lit (w_len_list (w_arg rfl))));rw[zp] at u;refine Nat.le_of_not_lt fun q=>?_
  have G:(n:Int)<((b.length:Nat):Int):=by omega
  first
   | (rw[qk G] at u;exact absurd u (by decide))
   | (simp at u;omega)
 cases A with
 | cons w1 H=>
  cases H;cases w1 with
  | list E i=>exact⟨_,_,b,rfl,rfl,E,Z7 b _ i,m⟩
theorem zbI(l:OpenLaw)(args:List WData):l.row.toRowW.claim.post args (.bool true) args=true:=
 postW_of (r:=l.row.toRowW) (X:=(true==true))
  (show WShape.has [] (.bool true) .bool=true by first| rfl | decide | simp[WShape.has,WShape.arms,WShape.armsAll])
  (show(WTm.eq .res (.lit (.bool true))).value [] { args:=args,res:=some (.bool true),after:=args }=some (.bool (true==true)) from w_eq_bool (w_res rfl) w_lit) rfl
theorem attach_call{l:OpenLaw}{n:Nat}{q:Program}{b:List Str}{T:(Str->Option Value)->Heap->Prop}{U:World->Heap->Prop}{d:DefRec}
  (hn:l.most=some n) (J:d.params.defaults=[])
  (call:∀(w:World) (Q c:Shared) (D N:Str->Option Value) (s:Addr) (o:Obj) (O C g:Value) (a:Addr) (m:List Value) (E:List Int),
   Ground q b [] T w Q D N c.heap->U w c.heap ->
   c.heap.get? s=some o->o.data=.func (docDef d.name d.params d.body d.scope O C g)->c.heap.CodeRec C d.name->D d.name=some (.ref s) ->
   c.heap.get? a=some { cls:=.type "list",data:=.seq m.toArray }->IntsAre m E->E.length<=n->c.gens=#[] ->
   codeAny (model l.prog w) callerA (.call (.ref s) ⟨[.ref a],[]⟩) (fun r H=>r=.ok (.ret (.bool true))/\OldK c.heap H.heap/\H.os=c.os/\AllBare H.gens) c) :
  WalkO q b T U l.row.toRowW d [] (fun f m=>PySem.call f m):=by
 intro w Q c D N G Y s o O C g dV kV ho hd I hD L hg args aa as B a0 ac M ab;obtain rfl:dV=.none:=Dflts.none hD J;obtain rfl:kV=.none:=Dflts.noKw hD;obtain⟨a,m,E,rfl,rfl,A,i,u⟩:=zbG hn B M;refine enter_call (codeAny_mono (call w Q c D N s o O C g a m E G Y ho (fd_plain hd) I L A i u hg) fun r H hq=>?_)
 obtain⟨rfl,h2,h3,h4⟩:=hq;exact⟨.inl ⟨.bool true,.bool true,[],rfl,fun _=>rfl,.bool true,zbI l _,fun _=>⟨List.Pairwise.nil,fun _ hm=>(nomatch hm)⟩⟩,h2,h3,h4⟩
section
variable{b:Program}{w:World}{A:Around}{E:Value->Shared->Prop}{s:Shared}{K:Frag}
def ledger(h:Heap)(L d:Addr):List (Addr×Obj):=(List.range h.objs.size).filterMap fun a=>if a=L\/a=d then none else(h.get? a).map fun o=>(a,o)
end
end Att
namespace L2
open PySem PySem.Spec PyProof.Rows
theorem JF:∀{c:List Value} {b:List Int},IntsAre c b->Vals (b.map V.int) c
 | _,_,.nil=>.nil
 | _,_,.cons n t h=>.cons ⟨t,rfl⟩ (JF h)
def zfn(H:Hp):Prop:=∀b,H b=none\/∃o c,H b=some (.frz o (.lst c))
theorem WC{P:Program}{w:World}{K:W.Frag}{T mb:Str->Option Value}{CX:CXT}{k:Nat}{fa a:Addr}{fd:FuncData}{x:Str}{sp:Sp}{c:Shared}{D:List Value}{U:List Int}
  (KX:K.In c.heap) (M:c.heap.Ns mainGlobals T) (hb:c.heap.Ns builtinsNs mb) (aa:∀x:Str,x ≠ "__name__" -> mb x=bootBuiltins x) (L:c.heap.NoLimit) (hg:c.gens=#[])
  (ha:c.heap.get? a=some { cls:=.type "list",data:=.seq D.toArray }) (hi:IntsAre D U) (hl:U.length<=sizeLine) (hr:Room k callerA)
  (F:∀i:Heap,K.In i->i.Ns mainGlobals T->FnOk P w K T i CX k fa fd [x] sp) (C:∀(s:Shared) (u:Value),BindsTo s fd ⟨[u],[]⟩ [(x,u)])
  (ab:∀H:Hp,zfn H->SqL K H a (U.map V.int)->sp [.ref a] H (fun v _=>v=.bl true) fun _ _ _=>False)
  (a0:∀H e l,CX [] H c (fun _ _ _=>False) e l->False) :
  codeAny (model P w) callerA (.call (.ref fa) ⟨[.ref a],[]⟩) (fun r l=>r=.ok (.ret (.bool true))/\OldK c.heap l.heap/\l.os=c.os/\AllBare l.gens) c:=by
 have rv:=JF hi;have Q:=hi.length;have B:∀H:Hp,zfn H->SqL K H a (U.map V.int)->HOk P w H c.heap->(∀b,H b≠none->b=a)->(H a≠none->K.lookup a=none) ->
   codeAny (model P w) callerA (.call (.ref fa) ⟨[.ref a],[]⟩) (fun r l=>r=.ok (.ret (.bool true))/\OldK c.heap l.heap/\l.os=c.os/\AllBare l.gens) c:=by
  intro H hO hS N hA hK;have g:∀{b:Addr} {o:Obj},c.heap.get? b=some o->H b=none->(XT c.heap H).get? b=some o:=fun e n=>zdw e n
  have ac:∀{b:Addr} {o:Obj} {I:Array DictEntry} {G:Nat},c.heap.get? b=some o->o.data=.dict I G->H b=none:=fun {b o I G} e d=>by
   cases q:H b with
   | none=>rfl
   | some u=>
    have e':b=a:=hA b (by rw[q];simp)
    subst e';rw[ha] at e;cases e
    have d':Data.seq D.toArray _=Data.dict I G:=d;cases d'
  have A:∀{b:Addr} {m:Str->Option Value},c.heap.Ns b m->(XT c.heap H).Ns b m:=fun {b m} ⟨o,I,G,e,d,r⟩=>⟨o,I,G,g e (ac e d),d,r⟩
  have J:K.In (XT c.heap H):=fun b o e=>g (KX b o e) (by
   cases q:H b with
   | none=>rfl
   | some u=>
    have e':b=a:=hA b (by rw[q];simp)
    subst e';rw[hK (by rw[q];simp)] at e;cases e)
  have hM:Mod K T (XT c.heap H):=⟨J,A M,⟨mb,A hb,aa⟩,let ⟨mc,h1,h2⟩:=L;⟨mc,A h1,h2⟩⟩
  have e0:Env0 P w K T (XT c.heap H) callerA [] c H:=⟨rfl,hM,fun b o e=>zeV e,yK (zbZ _ _),trivial,fun b hb=>absurd (show b∈([]:List Addr) from hb) (by simp),N,.of_eq hg⟩
  refine codeAny_mono ((F _ J (A M)).run callerA [] c H ⟨[.ref a],[]⟩ [.ref a] [.ref a] _ _ hr e0 (C c (.ref a)) (.cons rfl .nil) (ab H hO hS)) fun r l h=>?_
  cases r with
  | error e=>exact(a0 H e l h).elim
  | ok fl=>
   cases fl with
   | next=>exact False.elim h
   | brk=>exact False.elim h
   | cont=>exact False.elim h
   | ret u=>
    obtain⟨v,H',os,E,un,O,r',q⟩:=h;have q':v=.bl true:=q;subst q';obtain rfl:u=Value.bool true:=r';refine⟨rfl,OldK.of_keep fun b o e=>?_,os,E⟩
    cases q:H b with
    | none=>exact un.keep b o e q (by intro z;exact absurd (show b∈([]:List Addr) from z) (by simp)) (by simp)
    | some u=>
     rcases hO b with z | ⟨ob,xs,z⟩
     ·rw[q] at z;cases z
     ·have z2:=un.frzs b ob _ z
      obtain⟨e1,_⟩:=N b _ z;obtain⟨e2,_⟩:=O b _ z2;rw[e] at e1;cases e1
      exact e2
 cases hk:K.lookup a with
 | some o=>
  have e:=KX a o hk;rw[ha] at e;cases e;refine B (fun _=>none) (fun _=>.inl rfl) (.inr ⟨_,D.toArray,_,hk,rfl,rfl,rfl,by rw[z9,Q];exact hl,by simpa using rv⟩) (fun b u z=>by have Y:(none:Option HO)=some u:=z;cases Y) (fun b z=>absurd rfl z) fun z=>absurd rfl z
 | none=>
  refine B (fun b=>if b=a then some (.frz { cls:=.type "list",data:=.seq D.toArray } (.lst (U.map V.int))) else none) (fun b=>?_) (.inl (.inr ⟨{ cls:=.type "list",data:=.seq D.toArray },zu rfl⟩)) (fun b u z=>?_) (fun b z=>?_) fun _=>hk
  ·by_cases hb:b=a
   ·exact .inr ⟨_,_,zu hb⟩
   ·exact .inl (zo hb)
  ·by_cases hb:b=a
   ·have Y:=(zu hb).symm.trans z
    cases Y;subst hb;exact⟨ha,by rw[zp];exact hl,D,_,rv,ha⟩
   ·have Y:=(zo hb).symm.trans z
    cases Y
  ·by_cases hb:b=a
   ·exact hb
   ·exact absurd (zo hb) z
abbrev KOf{K:W.Frag}{h:Heap}(_:K.In h):PySem.W.Frag:=K
theorem walk_of{l:PySem.W.OpenLaw}{n k:Nat}{q:Program}{i:List Str}{XP:(Str->Option Value)->Heap->Prop}{T:World->Heap->Prop}{d:DefRec}{K:Params->PySem.W.Frag}{O:World->CXT}{U:World->Sp}{x:Str}
  (hn:l.most=some n) (L:n<=sizeLine) (I:d.params.defaults=[]) (hr:Room k callerA)
  (hY:∀(w:World) (h:Heap),T w h->(K w.params).In h)
  (F:∀(w:World) (m:Str->Option Value) (B:Addr) (h:Heap),(K w.params).In h->h.Ns mainGlobals m->m d.name=some (.ref B) ->
   ∃D:FuncData,(∀(s:Shared) (u:Value),BindsTo s D ⟨[u],[]⟩ [(x,u)]) /\
    ∀b:Heap,(K w.params).In b->b.Ns mainGlobals m->FnOk l.prog w (K w.params) m b (O w) k B D [x] (U w))
  (M:∀(w:World) (H:Hp) (a:Addr) (C:List Int),C.length<=n->zfn H->SqL (K w.params) H a (C.map V.int)->U w [.ref a] H (fun v _=>v=.bl true) fun _ _ _=>False)
  (E:∀(w:World) (H:Hp) (s:Shared) (e:Value) (N:Shared),O w [] H s (fun _ _ _=>False) e N->False) :
  PySem.W.WalkO q i XP T l.row.toRowW d [] (fun f vs=>PySem.call f vs):=by
 refine Att.attach_call hn I fun w s₀ s₁ m mb B o pm cd a0 a vs C G Y ho hd aa J A g c hg=>?_
 have Q:=hY w _ Y;obtain⟨D,hb,hF⟩:=F w m B _ Q G.T.g J;exact WC Q G.T.g G.T.b G.T.builtins G.T.nolimit hg A g (jd c L) hr hF hb (fun H hO hS=>M w H a C c hO hS) fun H e N=>E w H s₁ e N
def Zb(s:Stmt):Arguments:=match s with
 | .FunctionDef _ a _ _ _ _ _ _ _ _=>a
 | _=>{ posonlyargs:=[],args:=[],vararg:=none,kwonlyargs:=[],kw_defaults:=[],kwarg:=none,defaults:=[] }
def xP(s:Stmt):List Stmt:=match s with
 | .FunctionDef _ _ b _ _ _ _ _ _ _=>b
 | _=>[]
def zr(s:Stmt):Scope:=match s with
 | .FunctionDef _ _ _ _ _ _ b _ _ _=>b
 | _=>{ kind:=.function,names:=[],isGenerator:=false,isCoroutine:=false }
abbrev CX0:CXT:=fun _ _ _ _ _ _=>False
abbrev E0:XK:=fun _ _ _=>False
theorem zh9{X:Cx}:Y8 CX0 X E0:=fun _ _ _ _ _ _ _ h=>h.elim
structure Fun(K:W.Frag)(x qual:Str)(st:Stmt)(f:Addr)(fd:FuncData):Prop where
 ex:∃(oc:Value) (od:Option Addr) (kV doc pm:Value) (an:Option Addr) (cdv ct:Value) (osl:Array (Option Value)),
  fd=PySem.W.fnOf x qual (Zb st) (xP st) (zr st) .none kV doc pm an cdv ct/\K.lookup f=some ⟨oc,od,.func fd,osl⟩/\PySem.W.codeIn K cdv qual=true
 kp:PySem.W.keepIn K (.ref f)=true
section
variable{P:Program}{w:World}{K:W.Frag}{c:Str->Option Value}{b:Heap}
theorem Fun.ok{x qual:Str}{st:Stmt}{f:Addr}{I:FuncData}{N D:List Str}{k:Nat}{G:Sp}(F:Fun K x qual st f I)(S:zD N D (zr st))(C:∀m H Q E,G m H Q E->m.length=D.length)
  (l:∀(i:Value) (A:Around) (g:List Env) (s:Shared) (H:Hp) (m:List V) (Q:VK) (E:XK),Room k (A.deeper (envOfC qual (zr st) s.heap.objs.size f i))->G m H Q E ->
   ∃t,PSs (JD CX0 P w K c b N qual (zr st) f i A g s H E).nox (xP st) t/\t { nx:=fun _ J=>Q .non J,rt:=Q } (ZK N m) H):FnOk P w K c b CX0 (k+1) f I D G:=by
 obtain⟨Y,od,kV,L,pm,U,i,ct,T,rfl,O,u⟩:=F.ex;refine zix O u S C fun A g s H m Q E M B=>?_
 obtain⟨t,h,q⟩:=l i A g s H m Q E M B;exact⟨t,h.nox,q⟩
theorem Fun.binds{x qual:Str}{st:Stmt}{f:Addr}{A:FuncData}{s:List Str}(F:Fun K x qual st f A)
  (h:∀(kV i m:Value) (l:Option Addr) (g ct:Value) (u:List Value),u.length=s.length->bindArgs (PySem.W.fnOf x qual (Zb st) (xP st) (zr st) .none kV i m l g ct) ⟨u,[]⟩=pure (s.zip u)):Binds K A s []:=by
 obtain⟨E,G,kV,i,m,l,g,ct,C,rfl,D,B⟩:=F.ex;exact .all (h kV i m l g ct)
end
theorem za2{A:Around}{k:Nat}(b:Room k A):A.units+1<cLine:=Vn (YU (by decide:1<=64) _) b.units
theorem zbE{n:Nat}(h:n<=1000):n<sizeLine:=Vn h (by decide)
section
variable{X:Cx}
theorem pv(i:Nat){x:Str}{c:Pos}(g:X.N[i]? =some x:=by rfl)(hv:Vis X.env.scope x:=by first| exact Or.inl rfl | exact Or.inr (Or.inl rfl) | exact Or.inr (Or.inr rfl))(hd:(x==("__debug__":Str))=false:=by decide)
  (b:(x==("__classdict__":Str))=false:=by decide):PE X (.Name x c) (zga i):=zgC g hv hd b
end
theorem jX{c A B:Prop}[Decidable c](h1:c->A)(h2:¬c->B):if c then A else B:=by
 by_cases h:c
 ·rw[zu h]
  exact h1 h
 ·rw[zo h]
  exact h2 h
def Same(H c:Hp):Prop:=∀b o,H b=some o->c b=some o
theorem Same.refl(H:Hp):Same H H:=fun _ _ h=>h
def u9:=@Same.refl
theorem Same.trans{H g i:Hp}(a:Same H g)(b:Same g i):Same H i:=fun c o h=>b c o (a c o h)
theorem Same.free{H b:Hp}(e:Same H b){l:Addr}(h:b l=Option.none):H l=Option.none:=by
 cases q:H l with
 | none=>rfl
 | some o=>
  rw[e l o q] at h;cases h
theorem Same.seq{K:W.Frag}{H b:Hp}{a:Addr}{c:List V}(e:Same H b)(h:SqL K H a c):SqL K b a c:=by
 rcases h with(h | ⟨o,h⟩) | h
 ·exact .inl (.inl (e _ _ h))
 ·exact .inl (.inr ⟨o,e _ _ h⟩)
 ·exact .inr h
end L2
namespace L2
inductive Ex1{b:Sort _}(P:b->Prop):Prop
 | mk (a1:b) (h:P a1):Ex1 P
inductive Ex2{b:Sort _}{c:Sort _}(P:b->c->Prop):Prop
 | mk (a1:b) (a2:c) (h:P a1 a2):Ex2 P
inductive Ex3{b:Sort _}{c:Sort _}{g:Sort _}(P:b->c->g->Prop):Prop
 | mk (a1:b) (a2:c) (a3:g) (h:P a1 a2 a3):Ex3 P
inductive Ex4{b:Sort _}{c:Sort _}{g:Sort _}{i:Sort _}(P:b->c->g->i->Prop):Prop
 | mk (a1:b) (a2:c) (a3:g) (a4:i) (h:P a1 a2 a3 a4):Ex4 P
inductive Ex5{b:Sort _}{c:Sort _}{g:Sort _}{i:Sort _}{l:Sort _}(P:b->c->g->i->l->Prop):Prop
 | mk (a1:b) (a2:c) (a3:g) (a4:i) (a5:l) (h:P a1 a2 a3 a4 a5):Ex5 P
inductive Ex6{b:Sort _}{c:Sort _}{g:Sort _}{i:Sort _}{l:Sort _}{m:Sort _}(P:b->c->g->i->l->m->Prop):Prop
 | mk (a1:b) (a2:c) (a3:g) (a4:i) (a5:l) (a6:m) (h:P a1 a2 a3 a4 a5 a6):Ex6 P
inductive Ex8{b:Sort _}{c:Sort _}{g:Sort _}{i:Sort _}{l:Sort _}{m:Sort _}{s:Sort _}{u:Sort _}(P:b->c->g->i->l->m->s->u->Prop):Prop
 | mk (a1:b) (a2:c) (a3:g) (a4:i) (a5:l) (a6:m) (a7:s) (a8:u) (h:P a1 a2 a3 a4 a5 a6 a7 a8):Ex8 P
inductive ziK{l:Sort _}{m:Sort _}{s:Sort _}{u:Sort _}{w:Sort _}{A:Sort _}{B:Sort _}{C:Sort _}{D:Sort _}{b:Sort _}{c:Sort _}(P:l->m->s->u->w->A->B->C->D->b->c->Prop):Prop
 | mk (a1:l) (a2:m) (a3:s) (a4:u) (a5:w) (a6:A) (a7:B) (a8:C) (a9:D) (g:b) (i:c) (h:P a1 a2 a3 a4 a5 a6 a7 a8 a9 g i):ziK P
inductive An2(b c:Prop):Prop
 | mk (h1:b) (h2:c):An2 b c
inductive An3(b c g:Prop):Prop
 | mk (h1:b) (h2:c) (i:g):An3 b c g
inductive An4(b c g i:Prop):Prop
 | mk (h1:b) (h2:c) (l:g) (m:i):An4 b c g i
inductive An5(b c g i l:Prop):Prop
 | mk (h1:b) (h2:c) (m:g) (s:i) (u:l):An5 b c g i l
inductive An6(b c g i l m:Prop):Prop
 | mk (h1:b) (h2:c) (s:g) (u:i) (w:l) (A:m):An6 b c g i l m
inductive An7(b c g i l m s:Prop):Prop
 | mk (h1:b) (h2:c) (u:g) (w:i) (A:l) (B:m) (C:s):An7 b c g i l m s
inductive An8(b c g i l m s u:Prop):Prop
 | mk (h1:b) (h2:c) (w:g) (A:i) (B:l) (C:m) (D:s) (E:u):An8 b c g i l m s u
inductive An9(b c g i l m s u w:Prop):Prop
 | mk (h1:b) (h2:c) (A:g) (B:i) (C:l) (D:m) (E:s) (G:u) (H:w):An9 b c g i l m s u w
inductive ziM(c g i l m s u w A b:Prop):Prop
 | mk (h1:c) (h2:g) (C:i) (D:l) (E:m) (G:s) (H:u) (I:w) (J:A) (B:b):ziM c g i l m s u w A b
theorem zin{α:Type _}{c:List α}(h:c.length=1):∃b,c=[b]:=
 match c,h with
 | [b],_=>⟨b,rfl⟩
theorem zim{α:Type _}{c:List α}(h:c.length=2):∃b a1,c=[b,a1]:=
 match c,h with
 | [b,a1],_=>⟨b,a1,rfl⟩
theorem zil{α:Type _}{c:List α}(h:c.length=3):∃b a1 a2,c=[b,a1,a2]:=
 match c,h with
 | [b,a1,a2],_=>⟨b,a1,a2,rfl⟩
theorem zik{α:Type _}{c:List α}(h:c.length=4):∃b a1 a2 a3,c=[b,a1,a2,a3]:=
 match c,h with
 | [b,a1,a2,a3],_=>⟨b,a1,a2,a3,rfl⟩
theorem zij{α:Type _}{c:List α}(h:c.length=5):∃b a1 a2 a3 a4,c=[b,a1,a2,a3,a4]:=
 match c,h with
 | [b,a1,a2,a3,a4],_=>⟨b,a1,a2,a3,a4,rfl⟩
theorem zii{α:Type _}{c:List α}(h:c.length=6):∃b a1 a2 a3 a4 a5,c=[b,a1,a2,a3,a4,a5]:=
 match c,h with
 | [b,a1,a2,a3,a4,a5],_=>⟨b,a1,a2,a3,a4,a5,rfl⟩
end L2
set_option maxHeartbeats 4000000
namespace L2
open PySem PySem.Spec PyProof.Rows
def jh(c:List (Str×Addr)):List (Str×NameKind)->List (Str×Addr)->List (Str×Addr)
 | [],b=>b
 | (n,k)::r,b=>jh c r (if(k==NameKind.free)=true then(n,(c.lookup n).getD 0)::b else b)
theorem zdH{env:Env}(names:List (Str×NameKind)):∀(b:List (Str×Addr)),(∀y∈names,y.2=NameKind.free->∃c,env.cells.lookup y.1=some c) ->
  (forIn names b fun(x:Str×NameKind) (i:List (Str×Addr))=>
   (if(x.2==NameKind.free)=true then(cellOf env x.1 >>= fun a=>(pure (ForInStep.yield ((x.1,a)::i)):Sem (ForInStep (List (Str×Addr))))) else pure (ForInStep.yield i)))=(pure (jh env.cells names b):Sem (List (Str×Addr))):=by
 induction names with
 | nil=>intro b _;rfl
 | cons y r l=>
  intro b h;obtain⟨n,k⟩:=y;rw[Ve];by_cases hk:(k==NameKind.free)=true
  ·obtain⟨c,hc⟩:=h (n,k) qI (by simpa using hk)
   have e1:cellOf env n=pure c:=by
    unfold cellOf;rw[show env.cells.lookup n=some c from hc]
   simp only[hk,if_true,e1,pure_bind];rw[l _ fun z g=>h z (jA _ g)]
   show _=pure (jh env.cells r (if(k==NameKind.free)=true then(n,(env.cells.lookup n).getD 0)::b else b))
   rw[zu hk,show env.cells.lookup n=some c from hc]
   all_goals rfl
  ·simp only[hk,pure_bind]
   simp only[ZH,if_false,pure_bind];rw[l _ fun z g=>h z (jA _ g)]
   show _=pure (jh env.cells r (if(k==NameKind.free)=true then(n,(env.cells.lookup n).getD 0)::b else b))
   rw[zo hk]
theorem zbd{b:Env}{scope:Scope}(h:∀y∈scope.names,y.2=NameKind.free->∃c,b.cells.lookup y.1=some c):closureFor scope b=pure (jh b.cells scope.names []):=by
 have e:=zdH (env:=b) scope.names [] h;unfold closureFor;refine Eq.trans ?_ (Eq.trans (congrArg (fun m=>m >>= fun g=>(pure g:Sem (List (Str×Addr)))) e) ?_)
 ·rfl
 ·simp
theorem ww{i:List (Str×Addr)}{x:Str}:∀(names:List (Str×NameKind)) (b:List (Str×Addr)),(jh i names b).lookup x=(if(names.any fun y=>y.2==NameKind.free&&x==y.1)=true then some ((i.lookup x).getD 0) else b.lookup x)
 | [],b=>by simp[jh]
 | (n,k)::r,b=>by
  unfold jh;rw[ww r];by_cases c:(r.any fun y=>y.2==NameKind.free&&x==y.1)=true
  ·rw[zu c,zu (by rw[wx,c,Bool.or_true])]
  ·rw[zo c]
   by_cases hk:(k==NameKind.free)=true
   ·rw[zu hk]
    by_cases hx:(x==n)=true
    ·rw[zu (by rw[wx];simp only[hk,hx,Bool.and_self,Bool.true_or])]
     have e:x=n:=by simpa using hx
     subst e;simp[jI]
    ·rw[zo (by rw[wx];simp only[hk,hx,Bool.and_false,Vb];exact c)]
     have g:(x==n)=false:=by simpa using hx
     simp[jI,g]
   ·rw[zo hk,zo (by rw[wx];simp only[hk,Bool.false_and,Vb];exact c)]
abbrev zZ(X:Cx)(b:List Str)(scope:Scope)(C:Addr)(s:Shared)(H:Hp)(ex:List Addr):Cx where
 prog:=X.prog
 w:=X.w
 K:=X.K
 mg:=X.mg
 base:=X.base
 A:=X.A
 N:=b
 s₀:=s
 H₀:=H
 env:=compEnvC scope (jh X.env.cells scope.names []) C X.env
 outer:=X.stack
 stack:=X.stack
 ex:=ex
 fn:=fun _=>false
 calm:=X.calm
 pn:=[]
 xe:=fun _ _=>False
abbrev vv(g:List Expr)(b:Env):Sem Bool:=
 forIn g true fun(c:Expr) (r:Bool)=>if r=true then(isTrue c b (eval c b) >>= fun ok=>(pure (ForInStep.yield ok):Sem (ForInStep Bool))) else pure (ForInStep.yield r)
theorem WU{b:Program}{w:World}{A:Around}{R:Result->Shared->Prop}{s:Shared}{i N l:Expr}{B:List Expr}{scope:Scope}{D:Pos}{H g:Value}{c:Env}(J:Nat->Shared->Prop)
  (G:∀n s,J n s->wpAny (model b w) A (pyNext H) (fun r s1=>match r with
   | none=>R (.ok .next) s1
   | some v=>wpAny (model b w) A (letOwnedTupleGo N H v) (fun _ s2=>wpAny (model b w) A (assign N c v) (fun _ U=>
     wpAny (model b w) A (vv B c) (fun ok I=>
      if ok=true then wpAny (model b w) A (eval i c) (fun x L=>
       wpAny (model b w) A (call (.builtin "list.append") [g,x]) (fun _ M=>∃m,m<n/\J m M) (fun _ _=>False) L) (fun _ _=>False) I
      else ∃m,m<n/\J m I) (fun _ _=>False) U) (fun _ _=>False) s2) (fun _ _=>False) s1) (fun _ _=>False) s)
  (n:Nat) (h:J n s):codeAny (model b w) A (.compLoop (.ListComp i [⟨N,l,B,0⟩] scope D) 0 H g c) R s:=by
 have C:∀{α:Type} {t:Sem α} {Q:α->Shared->Prop} {E:Value->Shared->Prop} {s:Shared},wpAny (model b w) A t Q (fun _ _=>False) s->wpAny (model b w) A t Q E s:=fun x=>qW x (fun _ _ q=>q) fun _ _ q=>q.elim
 refine codeAny_loop rfl J (fun k u hJ=>?_) n h
 show wpAny _ A ((compTurn (.ListComp i [⟨N,l,B,0⟩] scope D) 0 H g c).onRaise (fun x=>do noteFrame x c;theTreesLotGoes x)) _ _ u
 refine wpAny_noted ?_
 rw[compTurn_list];refine zm (yo (zm (C (qW (G k u hJ) (fun r s1 h1=>?_) fun _ _ q=>q))))
 cases r with
 | none=>exact zJ h1
 | some v=>
  refine zm (C (qW h1 (fun _ s2 h2=>zm (C (qW h2 (fun _ U Y=>zm (C (qW Y (fun ok I T=>?_) fun _ _ q=>q))) fun _ _ q=>q))) fun _ _ q=>q))
  cases ok with
  | false=>exact zJ ⟨rfl,T⟩
  | true=>
   have O:wpAny (model b w) A (eval i c) (fun x L=>wpAny (model b w) A (call (.builtin "list.append") [g,x]) (fun _ M=>∃m,m<k/\J m M) (fun _ _=>False) L) (fun _ _=>False) I:=T
   refine zm (zm (C (qW O (fun x L h5=>zm (C (qW h5 (fun _ M h6=>zJ (zJ ⟨rfl,h6⟩)) fun _ _ q=>q))) fun _ _ q=>q)))
def PF(X:Cx)(c:List Expr)(t:TT):Prop:=
 ∀(b:List (Addr×Obj)) (s:Shared) (σ:St) (H:Hp) (Q:Bool->Hp->Prop),Inv X b σ H s->t σ H Q->wpAny (model X.prog X.w) X.A (vv c X.env) (TP X b σ Q) X.xe s
def ziz:TT:=fun _ H Q=>Q true H
theorem jk{X:Cx}:PF X [] ziz:=fun b s σ H Q I h=>zJ ⟨H,I,h⟩
theorem vC{X:Cx}{c:Expr}{t:TT}(hc:PT X c t):PF X [c] t:=by
 intro b s σ H Q I h;unfold vv;simp only[Ve,YK,if_true];refine zm (zm (thn (hc b s σ H Q I h) fun ok s1 q=>zJ (zJ q)))
theorem za3{P:Program}{w:World}{H:Hp}{h g:Heap}{C:Addr}(x:HOk P w H h)(i:H C=none)(k:∀b o,b≠C->h.get? b=some o->g.get? b=some o):HOk P w H g:=fun b u e=>by
 refine(x b u e).stay (fun c v hc q=>k c v ?_ q) (fun _ q=>q) fun _ _ q=>q
 rcases hc with z | z
 ·rw[z];exact zg e i
 ·exact zg z i
theorem Xd{P:Program}{w:World}{H:Hp}{h:Heap}{a:Addr}{o:HO}(x:HOk P w H h)(i:H a=none)(g:ObjOk P w (upd H a o) h a o):HOk P w (upd H a o) h:=fun b u e=>by
 by_cases hb:b=a
 ·subst hb;rw[zb] at e;cases e;exact g
 ·rw[zj hb] at e
  exact(x b u e).stay (fun c v _ q=>q) (fun c q=>by rw[zj (zg q i)];exact q) fun c l q=>by rw[zj (zg q i)];exact q
theorem VH{m c:List Addr}{H l:Hp}{h s:Heap}{a:Addr}{o:HO}(u:Un m c H l h s)(w:a∈c)(g:H a=none):Un m c H (upd l a o) h s where
 keep:=u.keep
 slot:=u.slot
 free:=fun b i q n hx=>by
  have hb:b≠a:=fun z=>hx (by rw[z];exact w)
  rw[zj hb];exact u.free b i q n hx
 there:=u.there
 tups:=fun b B q=>by rw[zj (zg q g)];exact u.tups b B q
 frzs:=fun b i v q=>by rw[zj (zg q g)];exact u.frzs b i v q
 tbls:=fun b A q=>by rw[zj (zg q g)];exact u.tbls b A q
theorem zck{l i:List Addr}{H g:Hp}{h h1 h2:Heap}{C:Addr}(u:Un l i H g h h1)(c:h.objs.size<=C)(k:∀b o,b≠C->h1.get? b=some o->h2.get? b=some o):Un l i H g h h2 where
 keep:=fun b o q n hb hx=>k b o (qw (jY (zN q) c)) (u.keep b o q n hb hx)
 slot:=fun b o q n hb hx=>let ⟨s,e⟩:=u.slot b o q n hb hx;⟨s,k b _ (qw (jY (zN q) c)) e⟩
 free:=u.free
 there:=fun b o q hx=>let ⟨m,e⟩:=u.there b o q hx;⟨m,k b _ (qw (jY (zN q) c)) e⟩
 tups:=u.tups
 frzs:=u.frzs
 tbls:=u.tbls
def ZR(sn on:List (Str×NameKind))(N b:List Str)(c:List Nat):Bool:=
 sn.all (fun y=>y.2 != .cell&&(y.2 != .local||sn.lookup y.1==some .local)&&(y.2 != .free||(on.lookup y.1==some .cell||on.lookup y.1==some .free)))&&b.length==c.length
  && (b.zip c).all fun p=>sn.lookup p.1==some .free&&N[p.2]? ==some p.1
structure zf3(sn on:List (Str×NameKind))(N fr:List Str)(js:List Nat):Prop where
 cell:∀y∈sn,y.2≠NameKind.cell
 loc:∀y∈sn,y.2=NameKind.local->sn.lookup y.1=some .local
 free:∀y∈sn,y.2=NameKind.free->on.lookup y.1=some .cell\/on.lookup y.1=some .free
 len:fr.length=js.length
 fr:∀(k:Nat) (x:Str),fr[k]? =some x->sn.lookup x=some .free/\∃j:Nat,js[k]? =some j/\N[j]? =some x
theorem zdJ{sn on:List (Str×NameKind)}{N c:List Str}{b:List Nat}(h:ZR sn on N c b=true):zf3 sn on N c b:=by
 unfold ZR at h;rw[j8,j8,xB,xB] at h;obtain⟨⟨h1,h2⟩,m⟩:=h;have g:c.length=b.length:=by simpa using h2
 refine⟨fun y hy=>?_,fun y hy e=>?_,fun y hy e=>?_,g,fun k x e=>?_⟩
 ·have:=h1 y hy
  simp only[j8,bne_iff_ne] at this;exact this.1.1
 ·have:=h1 y hy
  simp only[j8,Jh,bne_iff_ne,xr] at this;exact this.1.2.resolve_left fun z=>z e
 ·have:=h1 y hy
  simp only[j8,Jh,bne_iff_ne,xr] at this;exact this.2.resolve_left fun z=>z e
 ·have hk:k<c.length:=(zL.mp e).1
  have l:k<b.length:=by omega
  have s:(x,b[k])∈c.zip b:=by
   refine je (i:=k) ?_
   rw[zdM];exact⟨e,by simp[l]⟩
  have:=m _ s;simp only[j8,xr] at this;exact⟨this.1,b[k],by simp[l],this.2⟩
def upS(n:Nat)(b:List Nat)(σ:St):St:=List.replicate n none++b.map fun j=>(σ[j]?).join
def tLC(T:TI)(n:Nat)(B:List Nat)(g:TG)(O:TT)(M:TE):TE:=fun σ H Q=>T σ H fun J G=>
 ∃W:Nat->Nat->List V->Hp->Prop,(∃m,W 0 m [] G)/\∀i m l c,W i m l c ->
  (J.stop i c/\l.length<=sizeLine/\∀D,c D=none->Q (.ref D) (upd c D (.lst l))) \/
  (J.go i c/\∃N:List V->Hp->Prop,(∀E u,N E u->∃C,C<m/\W (i+1) C E u)/\∀x w,J.yld i c x w->g x (upS n B σ) w fun s I=>s.drop n=(upS n B σ).drop n/\O s I fun b A=>
   if b=true then M s A fun y L=>l.length<sizeLine/\N (l++[y]) L else N l A)
theorem wK{b:Env}{x:Str}{g:NameKind}:∀{names:List (Str×NameKind)},(names.map fun(n,k)=>if(k==NameKind.free&&b.scope.kind==.function&&b.kindOf n==some .cell) then(n,NameKind.cell) else(n,k)).lookup x=some g ->
  ∃k,names.lookup x=some k/\(g=k\/(k=.free/\g=.cell))
 | [],h=>by simp at h
 | (n,k)::r,h=>by
  by_cases hx:(x==n)=true
  ·refine⟨k,by simp[jI,hx],?_⟩
   have h:List.lookup x ((if(k==NameKind.free&&b.scope.kind==.function&&b.kindOf n==some .cell)=true then(n,NameKind.cell) else(n,k))::_)=some g:=h
   by_cases hc:(k==NameKind.free&&b.scope.kind==.function&&b.kindOf n==some .cell)=true
   ·rw[zu hc,jI,hx] at h
    simp only[j8,xr] at hc;exact .inr ⟨hc.1.1,(jH h).symm⟩
   ·rw[zo hc,jI,hx] at h
    exact .inl (jH h).symm
  ·have c:(x==n)=false:=by simpa using hx
   have h:List.lookup x ((if(k==NameKind.free&&b.scope.kind==.function&&b.kindOf n==some .cell)=true then(n,NameKind.cell) else(n,k))::_)=some g:=h
   have h2:(r.map fun(n,k)=>if(k==NameKind.free&&b.scope.kind==.function&&b.kindOf n==some .cell) then(n,NameKind.cell) else(n,k)).lookup x=some g:=by
    by_cases hc:(k==NameKind.free&&b.scope.kind==.function&&b.kindOf n==some .cell)=true
    ·rw[zu hc,jI,c] at h;exact h
    ·rw[zo hc,jI,c] at h;exact h
   obtain⟨i,e,z⟩:=wK h2;exact⟨i,by rw[jI,c];exact e,z⟩
theorem yB{env:Env}{x:Str}:∀{names:List (Str×NameKind)},names.lookup x=some .free->∃b,(names.map fun(n,k)=>if(k==NameKind.free&&env.scope.kind==.function&&env.kindOf n==some .cell) then(n,NameKind.cell) else(n,k)).lookup x=some b/\(b=.cell\/b=.free)
 | [],h=>by simp at h
 | (n,k)::r,h=>by
  by_cases hx:(x==n)=true
  ·rw[jI,hx] at h
   cases(jH h);show ∃b,List.lookup x ((if(NameKind.free==NameKind.free&&env.scope.kind==.function&&env.kindOf n==some .cell)=true then(n,NameKind.cell) else(n,NameKind.free))::_)=some b/\_
   by_cases hc:(NameKind.free==NameKind.free&&env.scope.kind==.function&&env.kindOf n==some .cell)=true
   ·rw[zu hc];exact⟨.cell,by simp[jI,hx],.inl rfl⟩
   ·rw[zo hc];exact⟨.free,by simp[jI,hx],.inr rfl⟩
  ·have c:(x==n)=false:=by simpa using hx
   rw[jI,c] at h;obtain⟨b,e,z⟩:=yB (env:=env) (names:=r) h;refine⟨b,?_,z⟩
   show List.lookup x ((if(k==NameKind.free&&env.scope.kind==.function&&env.kindOf n==some .cell)=true then(n,NameKind.cell) else(n,k))::_)=some b
   by_cases hc:(k==NameKind.free&&env.scope.kind==.function&&env.kindOf n==some .cell)=true
   ·rw[zu hc,jI,c];exact e
   ·rw[zo hc,jI,c];exact e
theorem qM{b:List (Str×Addr)}{names:List (Str×NameKind)}{x:Str}{c:Addr}(h:(jh b names []).lookup x=some c)(l:∀y∈names,y.2=NameKind.free->∃c,b.lookup y.1=some c):b.lookup x=some c:=by
 rw[ww] at h;by_cases g:(names.any fun y=>y.2==NameKind.free&&x==y.1)=true
 ·rw[zu g] at h
  obtain⟨y,hy,e⟩:=vZ.mp g;simp only[j8,xr] at e;obtain⟨m,i⟩:=l y hy e.1;rw[<- e.2] at i;rw[i] at h ⊢;exact h
 ·rw[zo g] at h
  cases h
theorem yg{b:List (Str×Addr)}{names:List (Str×NameKind)}{x:Str}(h:names.lookup x=some .free):(jh b names []).lookup x=some ((b.lookup x).getD 0):=by
 rw[ww,zu];exact vZ.mpr ⟨(x,.free),yr h,by simp⟩
theorem yT{n:Nat}{b:List Nat}{σ:St}{i:Nat}{v:V}(h:(upS n b σ)[i]? =some (some v)):n<=i/\((upS n b σ).drop n)[i-n]? =some (some v)/\∃j:Nat,b[i-n]? =some j/\σ[j]? =some (some v):=by
 unfold upS at h ⊢;by_cases l:i<n
 ·rw[j9 (by simpa using l),List.getElem?_replicate] at h
  split at h<;>cases h
 ·have e:(List.replicate n (none:Option V)++b.map fun j=>(σ[j]?).join).drop n=b.map fun j=>(σ[j]?).join:=by
   rw[List.drop_append_of_le_length (by simp)];simp
  rw[xa (by simpa using l),yu] at h
  refine⟨by omega,by rw[e];exact h,?_⟩
  rw[zU] at h;cases c:b[i-n]? with
  | none=>rw[c] at h;cases h
  | some j=>
   rw[c] at h;have h:(σ[j]?).join=some v:=jH h;refine⟨j,rfl,?_⟩
   cases g:σ[j]? with
   | none=>rw[g] at h;cases h
   | some o=>rw[g] at h;exact congrArg some h
theorem zac{n:Nat}{b:List Nat}{σ:St}:(upS n b σ).length=n+b.length:=by unfold upS;simp
section
variable{X:Cx}{A G w:Expr}{E:List Expr}{scope:Scope}{L:Pos}{U:TI}{g:TG}{O:TT}{M:TE}
theorem zca{N:List (Addr×Obj)}{σ:St}{H:Hp}{s:Shared}{fp:List Addr}(own fr:List Str)(js:List Nat)(I:Inv X N σ H s)(B:zf3 scope.names X.env.scope.names X.N fr js)(hk:scope.kind=.function)
  (f2:∀b∈fp,xw X N H b) (fl:∀b∈fp,b<s.heap.objs.size) {D C:Addr} (hD:D=s.heap.objs.size) {T h1:Heap} (e3:T=s.heap.push { cls:=.type "list",dict:=none,data:=.seq ([]:List Value).toArray }) (hC:C=T.objs.size)
  {m:Str->Option Value} (ae:h1.Ns C m) (k4:∀b o,T.get? b=some o->h1.get? b=some o) {t4:Nat} :
  Inv (zZ X (own++fr) scope C { s with heap:=T } H (D::fp)) [] (upS own.length js σ) H { s with heap:=h1,toks:=t4 }:=by
 have k3:∀b o,s.heap.get? b=some o->T.get? b=some o:=fun b o e=>by rw[e3];exact qG _ e
 have I3:Inv X N σ H { s with heap:=T }:=I.kept (t':=s.toks) k3;have hz:T.objs.size=s.heap.objs.size+1:=by rw[e3,j7]
 have J:∀y∈scope.names,y.2=NameKind.free->∃c,X.env.cells.lookup y.1=some c:=fun y hy e=>I.ok.has y.1 (B.free y hy e)
 have Q:∀x c,X.env.cells.lookup x=some c->c<s.heap.objs.size:=fun x c e=>by
  obtain⟨v,q⟩:=I.cell x c e;exact q.lt
 refine⟨⟨I.ok.mod,hk,I.ok.glob,I.ok.blt,yK hC.symm,fun x y c e1 e2=>?_,fun x hx=>?_,fun x c hf=>(nomatch hf),fun hc=>I.ok.hd hc,I.ok.frames,.inl rfl,fun b hb=>?_,I3.bs,jd I.ok.bsz I3.sz,fun b o e hb=>?_,fun b hb hf=>?_,I3.stack,I3.stkFree⟩,
  rfl,I.bare,Un.kept k4,⟨m,ae,fun i x v e1 e2 af=>?_⟩,fun x c e=>?_,?_,fun x c e=>?_,fun p hp=>absurd (show p∈([]:List (Addr×Obj)) from hp) (by simp),I3.hok.kept k4,?_⟩
 ·exact I.ok.inj x y c (qM e1 J) (qM e2 J)
 ·obtain⟨k,e,z⟩:∃k,scope.names.lookup x=some k/\(k=.free):=by
   rcases hx with hx | hx
   ·obtain⟨k,e,z⟩:=wK hx
    rcases z with z | z
    ·subst z;exact absurd rfl (B.cell _ (yr e))
    ·exact⟨k,e,z.1⟩
   ·obtain⟨k,e,z⟩:=wK hx
    rcases z with z | z
    ·subst z;exact⟨_,e,rfl⟩
    ·exact⟨k,e,z.1⟩
  subst z;exact⟨_,yg e⟩
 ·rcases qg.mp hb with z | hb
  ·subst z
   refine⟨by rw[hD,hC,hz];exact qw (ZU _),fun x c e=>?_⟩
   have:=Q x c (qM e J);rw[hD];exact qw this
  ·refine⟨by rw[hC,hz];exact qw (Zh (fl b hb)),fun x c e=>?_⟩
   exact(f2 b hb).2.2.2.2.1 x c (qM e J)
 ·rcases qg.mp hb with z | hb
  ·have:=zN (I.bk b o e)
   rw[z,hD] at this;exact vz _ this
  ·rcases(f2 b hb).2.2.2.1 with z | z
   ·exact I.ok.noex b o e z
   ·exact absurd (jY (zN (I.ok.bs b o e).1) z) (vz _)
 ·have aa:=qg.mp (I.stkSub b hf)
  rcases qg.mp hb with z | hb
  ·rcases aa with y | y
   ·have:=I.lt
    rw[<- y,z,hD] at this;exact vz _ this
   ·exact I.nofs (a:=b) (by rw[z,hD];exact zQ _) y
  ·rcases aa with y | y
   ·exact(f2 b hb).2.1 y
   ·exact(f2 b hb).2.2.1 y
 ·obtain⟨hn,_,j,ej,es⟩:=yT e2
  have ex:fr[i-own.length]? =some x:=by rw[xa hn] at e1;exact e1
  obtain⟨Y,j',a0,eN⟩:=B.fr _ x ex;have:j'=j:=by rw[ej] at a0;exact(jH a0).symm
  subst this;have ab:=B.free _ (yr Y) rfl;obtain⟨m0,_,hl⟩:=I.loc;obtain⟨u,r,l⟩:=hl j' x v eN es (by rcases ab with z | z;exact .inr (.inl z);exact .inr (.inr z))
  refine⟨u,r,.inr ?_⟩
  rcases l with ⟨kl,_⟩ | ⟨_,c,ec,o,eo,ed⟩
  ·have ac:X.env.scope.names.lookup x=some .local:=kl
   rcases ab with z | z
   ·exact absurd (z.symm.trans ac) (by decide)
   ·exact absurd (z.symm.trans ac) (by decide)
  ·obtain⟨k',e',z⟩:=yB (env:=X.env) Y
   have eq:(jh X.env.cells scope.names []).lookup x=some c:=by rw[yg Y,ec];rfl
   refine⟨?_,c,eq,o,k4 c o (k3 c o eo),ed⟩
   rcases z with z | z
   ·subst z;exact .inl e'
   ·subst z;exact .inr e'
 ·obtain⟨v,o,eo,ed⟩:=I.cell x c (qM e J)
  exact⟨v,o,k4 c o (k3 c o eo),ed⟩
 ·exact I3.hok.fresh (yK hC.symm)
 ·exact I.freeC x c (qM e J)
 ·rw[zac,<- B.len]
  show _=(own++fr).length;rw[zW]
inductive LcJ(Y:Cx)(D:Addr)(B:Nat->Heap->Prop)(u:List Addr)(c:List (Addr×Obj))(σ:St)(W:Nat->Nat->List V->Hp->Prop)(n:Nat)(s:Shared):Prop
 | mk (i:Nat) (C:List V) (l:List Value) (m:Hp) (z:Nat) (_:Inv Y c σ m s) (_:B i s.heap) (_:∀b∈u,m b=none) (_:m D=none) (_:s.heap.get? D=some { cls:=.type "list",data:=.seq l.toArray z }) (_:Vals C l) (_:W i n C m):LcJ Y D B u c σ W n s
inductive LcE(Y:Cx)(D:Addr)(b:List (Addr×Obj))(σ:St)(N:List V->Hp->Prop)(s:Shared):Prop
 | mk (l:List V) (c:List Value) (i:Hp) (z:Nat) (_:Inv Y b σ i s) (_:i D=none) (_:s.heap.get? D=some { cls:=.type "list",data:=.seq c.toArray z }) (_:Vals l c) (_:N l i):LcE Y D b σ N s
theorem zaW{Y:Cx}{D it:Addr}{B:List Addr}{tn:Nat->Heap->Prop}{J:It}{c:List (Addr×Obj)}{σ4:St}{Kp:St->Prop}{W:Nat->Nat->List V->Hp->Prop}{N:List V->Hp->Prop}{n:Nat}{I:Shared}
  (hc:Y.calm=true) (hx:Y.xe=fun _ _=>False) (hg:PG Y G g) (hf:PF Y E O) (he:PE Y A M) (T:Zk Y.prog Y.w Y.K G J B it tn)
  (fD:∀s:Hp,s D=none->xw Y c s D) (f2:∀b∈B,∀s:Hp,s b=none->xw Y c s b) (nD:∀b∈B,D≠b) (bk:∀σ9 s s',Inv Y c σ9 s s'->Kp σ9->Inv Y c σ4 s s')
  (an:∀i m zs H7,W i m zs H7->(J.stop i H7/\N zs H7)\/(J.go i H7/\∃N2:List V->Hp->Prop,(∀zs s,N2 zs s->∃m',m'<m/\W (i+1) m' zs s)/\∀x H8,J.yld i H7 x H8->g x σ4 H8 fun σ9 H9=>Kp σ9/\O σ9 H9 fun b Q=>
    if b=true then M σ9 Q fun y ao=>zs.length<sizeLine/\N2 (zs++[y]) ao else N2 zs Q)) (j:LcJ Y D tn B c σ4 W n I) :
  wpAny (model Y.prog Y.w) Y.A (pyNext (.ref it)) (fun r s1=>match r with
   | none=>LcE Y D c σ4 N s1
   | some v=>wpAny (model Y.prog Y.w) Y.A (letOwnedTupleGo G (.ref it) v) (fun _ s2=>wpAny (model Y.prog Y.w) Y.A (assign G Y.env v) (fun _ s3=>
     wpAny (model Y.prog Y.w) Y.A (vv E Y.env) (fun ok s4=>
      if ok=true then wpAny (model Y.prog Y.w) Y.A (eval A Y.env) (fun x I=>
       wpAny (model Y.prog Y.w) Y.A (call (.builtin "list.append") [.ref D,x]) (fun _ s6=>∃m,m<n/\LcJ Y D tn B c σ4 W m s6) (fun _ _=>False) I) (fun _ _=>False) s4
      else ∃m,m<n/\LcJ Y D tn B c σ4 W m s4) (fun _ _=>False) s3) (fun _ _=>False) s2) (fun _ _=>False) s1) (fun _ _=>False) I:=by
 unfold PG at hg;unfold PF at hf;unfold PE at he
 rw[hx] at hg hf he;obtain⟨i,ys,C,H5,z5,I5,am,ai,ar,al,aa,w5⟩:=j;have ah:=I5.pinned (fp:=[D]) (fun b hb=>by rw[zR.mp hb];exact fD _ ar) (fun b hb=>by rw[zR.mp hb];exact⟨_,al,fun v q=>nomatch q⟩)
 have mD:(D,({ cls:=.type "list",data:=.seq C.toArray z5 }:Obj))∈c++qL [D] I.heap:=qE _ (jm (zR.mpr rfl) al);have af:∀{s:Hp},(∀b∈B,s b=none)->∀b∈B,xw Y (c++qL [D] I.heap) s b:=fun hn b hb=>by
  obtain⟨a1,a2,a3,a4,a5,a6⟩:=f2 b hb _ (hn b hb);refine⟨a1,a2,a3,a4,a5,fun p hp=>?_⟩
  rcases zP.mp hp with q | q
  ·exact a6 p (qm _ q)
  ·rcases zP.mp q with q | q
   ·exact a6 p (qE _ q)
   ·rw[zR.mp (vN q).1];exact nD b hb
 rcases an i n ys H5 w5 with ⟨stop,q⟩ | ⟨go,N2,hN,step⟩
 ·refine thn (T.done Y rfl rfl rfl hc i _ I _ H5 _ ah (af ai) am stop) fun r s6 ⟨hr,I6⟩=>?_
  subst hr;obtain⟨o6,aw,_⟩:=I6.pin (D,_) (qE _ mD);exact⟨ys,C,H5,z5,I6.unpinned,aw,o6,aa,q⟩
 ·refine thn (T.item Y rfl rfl rfl hc i _ I _ H5 _ ah (af ai) am go) fun r s6 ⟨u,hr,h6⟩=>?_
  subst hr;refine thn h6 fun _ s7 ⟨x,H7,I7,r7,y7,ab,aq⟩=>?_
  refine thn (hg _ s7 _ H7 x u _ (I7.pinned (af aq) (T.obj _ _ ab)) r7 (step x H7 y7)) fun _ s8 ⟨σ8,H8,I8,as,q8⟩=>?_
  refine thn (hf _ s8 σ8 H8 _ I8 q8) fun ok s9 ⟨H9,I9,q9⟩=>?_
  have ag:=qE Y.pn (qm (qL B s7.heap) mD);have mF:∀b∈B,∀o,s7.heap.get? b=some o->(b,o)∈Y.pn++((c++qL [D] I.heap)++qL B s7.heap):=fun b hb o e=>qE _ (qE _ (jm hb e))
  generalize hP:(c++qL [D] I.heap)++qL B s7.heap=P at I9 ag mF he;have ae:∀{s:Hp} {s':Shared},Inv Y P σ8 s s'->Inv Y c σ4 s s':=fun {s s'} J=>by subst hP;exact bk _ _ _ (J.unpinned).unpinned as
  have aj:∀{s:Hp} {s':Shared},Inv Y P σ8 s s'->∀b∈B,s b=none:=fun {s s'} J b hb=>by
   obtain⟨o,e,_⟩:=T.obj _ _ ab b hb;exact(J.pin (b,o) (mF b hb o e)).2.1
  cases ok with
  | false=>
   obtain⟨m',hm,w'⟩:=hN _ _ (show N2 ys H9 by simpa using q9)
   obtain⟨o9,ax,_⟩:=I9.pin (D,_) ag;exact⟨m',hm,i+1,ys,C,H9,z5,ae I9,T.keep _ _ _ ab fun b hb o e=>(I9.pin (b,o) (mF b hb o e)).1,aj I9,ax,o9,aa,w'⟩
  | true=>
   refine thn (he _ s9 σ8 H9 (fun y H6=>ys.length<sizeLine/\N2 (ys++[y]) H6) I9 (by simpa using q9)) fun yv b0 ⟨y,Q,a0,az,au,ba⟩=>?_
   obtain⟨m',hm,w'⟩:=hN _ _ ba;obtain⟨ay,H,_⟩:=a0.pin (D,_) ag;refine wpAny_list_append_plain (l:=D) (items:=C.toArray) (hsz:=by rw[z9,<- aa.length];exact ZA au) ⟨_,ay⟩ fun bc ak ac=>?_
   obtain⟨bb,ap⟩:=ak;obtain⟨d0,d1,d2,d3,d4,d5⟩:=fD _ H;refine⟨m',hm,i+1,ys++[y],C++[yv],Q,bb,?_,T.keep _ _ _ ab fun b hb o e=>ac.extBut b o (qz (nD b hb)) (a0.pin (b,o) (mF b hb o e)).1,aj a0,H,?_,aa.append (.cons az .nil),w'⟩
   ·exact(ae a0).turned (t':=b0.toks) (it:=D) (fun b o hb e=>ac.extBut b o hb e) H d1 d3 d4 d5
   ·rw[ap];simp
theorem zdG{use:Option (Value->Sem Unit)}{Qx:Value->Shared->Prop}{cp:Pos}{rest:List Comprehension}{i:List (Addr×Obj)}{s:Shared}{σ:St}{H:Hp}{Q:VK}{Tl:It->(Nat->Nat->List V->Hp->Prop)->Prop}(own fr:List Str)(js:List Nat)(hk:scope.kind=.function)(hb:ZR scope.names X.env.scope.names X.N fr js=true)(hi:PI X G w U)
  (hs:∀x,foldedSetIterable w X.env x=pure x) (I:Inv X i σ H s) (h:U σ H fun J H1=>∃W:Nat->Nat->List V->Hp->Prop,(∃m,W 0 m [] H1)/\Tl J W)
  (ah:∀(C D it:Addr) (l:List Addr) (tn:Nat->Heap->Prop) (J:It) (W:Nat->Nat->List V->Hp->Prop) (u:Hp) (s3 s4:Shared) (m0:Nat) (R:Result->Shared->Prop),(∀b∈D::l,∀H':Hp,H' b=none->xw (zZ X (own++fr) scope C s3 u (D::l)) [] H' b)->(∀b∈l,D≠b) ->
   Zk X.prog X.w X.K G J l it tn->Tl J W->LcJ (zZ X (own++fr) scope C s3 u (D::l)) D tn l [] (upS own.length js σ) W m0 s4 ->
   (∀Y,LcE (zZ X (own++fr) scope C s3 u (D::l)) D [] (upS own.length js σ) (fun ys H5=>ys.length<=sizeLine/\∀D,H5 D=none->Q (.ref D) (upd H5 D (.lst ys))) Y->R (.ok .next) Y) ->
   codeAny (model X.prog X.w) X.A (.compLoop (.ListComp A (⟨G,w,E,0⟩::rest) scope L) 0 (.ref it) (.ref D) (compEnvC scope (jh X.env.cells scope.names []) C X.env)) R s4)
  (fin:∀(Y:Shared) (D C:Addr) (H6:Hp) (m:Str->Option Value),Y.heap.Ns C m->(∀h7:Heap,(∀b o,b≠C->Y.heap.get? b=some o->h7.get? b=some o)->Inv X i σ H6 { Y with heap:=h7 })->xw X i H6 C->Q (.ref D) H6->compPost (model X.prog X.w) X.A X.xe use Qx (.ref D) C (.ok .next) Y) :
  wpAny (model X.prog X.w) X.A (comprehension (.ListComp A (⟨G,w,E,0⟩::rest) scope L) scope X.env cp (newList []) false (eval w X.env) use) Qx X.xe s:=by
 have B:=zdJ hb;have a0:∀y∈scope.names,y.2=NameKind.free->∃c,X.env.cells.lookup y.1=some c:=fun y hy e=>I.ok.has y.1 (B.free y hy e)
 refine wpAny_comprehension_free rfl hs (zbd a0) hk (fun y hy e=>B.loc y hy e) (thn (hi i s σ H _ I h) fun v s1 h1=>thn h1 fun aq s2 h2=>?_)
 obtain⟨it,l,tn,J,u,e,I2,T,ae,f2,W,⟨m0,w0⟩,tl⟩:=h2;subst e;have fl:∀b∈l,b<s2.heap.objs.size:=fun b hb=>let ⟨o,e,_⟩:=T.obj _ _ ae b hb;zN e
 refine vo (wpAny_newFunctionEnv B.cell (by intro y hy;simp at hy) (fun h1 ab ac=>?_) hk)
 dsimp only at ab ac ⊢;generalize e3:s2.heap.push { cls:=.type "list",dict:=none,data:=.seq ([]:List Value).toArray }=N at ab ac ⊢;have k3:∀b o,s2.heap.get? b=some o->N.get? b=some o:=fun b o e=>by rw[<- e3];exact qG _ e
 have k4:∀b o,N.get? b=some o->h1.get? b=some o:=fun b o e=>ac.extBut b o (qw (zN e)) (qG _ e)
 have I4:Inv (zZ X (own++fr) scope N.objs.size { s2 with heap:=N } u (s2.heap.objs.size::l)) [] (upS own.length js σ) u { s2 with heap:=h1,toks:=s2.toks+([]:List (Str×Value)).length }:=
  zca own fr js I2 B hk f2 fl rfl e3.symm rfl ab k4
 have I3:Inv X i σ u { s2 with heap:=N }:=I2.kept (t':=s2.toks) k3;have hz:N.objs.size=s2.heap.objs.size+1:=by rw[<- e3,j7]
 have aa:s2.heap.objs.size≠N.objs.size:=by rw[hz];exact qw (ZU _)
 have af:h1.get? s2.heap.objs.size=some { cls:=.type "list",data:=.seq ([]:List Value).toArray }:=k4 _ _ (by rw[<- e3];exact qJ _ rfl)
 have ak:=(I3.fpOk (b:=N.objs.size) (zQ _) (I3.hok.fresh (zQ _))).2;have dN:u s2.heap.objs.size=none:=I2.hok.fresh (zQ _);have dO:=I2.fpOk (b:=s2.heap.objs.size) (zQ _) dN;have fD:∀b∈l,s2.heap.objs.size≠b:=fun b hb=>vn (fl b hb)
 generalize s2.heap.objs.size=D at *
 generalize eC:N.objs.size=C at *
 have hx:∀b,xw X i u b->∀x c,(jh X.env.cells scope.names []).lookup x=some c->c≠b:=fun b hb x c e=>hb.2.2.2.2.1 x c (qM e a0)
 have ao:∀b∈D::l,b∉frs X.stack:=I4.ok.exfs;have nC:∀b∈D::l,b≠C:=fun b hb=>by
  rcases qg.mp hb with z | hb
  ·rw[z];exact aa
  ·exact(I4.ok.exf b (jA _ hb)).1
 have all:∀b∈D::l,xw X i u b:=fun b hb=>by
  rcases qg.mp hb with z | hb
  ·rw[z];exact dO
  ·exact f2 b hb
 have aj:∀b∈D::l,∀H':Hp,H' b=none->xw (zZ X (own++fr) scope C { s2 with heap:=N } u (D::l)) [] H' b:=fun b hb H' hn=>
  ⟨hn,nC b hb,ao b hb,.inl hb,fun x c e=>hx b (all b hb) x c e,fun p h=>absurd h (by simp)⟩
 have go:∀s4:Shared,s4={ s2 with heap:=h1,toks:=s2.toks+([]:List (Str×Value)).length } ->
   codeAny (model X.prog X.w) X.A (.compLoop (.ListComp A (⟨G,w,E,0⟩::rest) scope L) 0 (.ref it) (.ref D) (compEnvC scope (jh X.env.cells scope.names []) C X.env)) (compPost (model X.prog X.w) X.A X.xe use Qx (.ref D) C) s4:=by
  intro s4 e4;subst e4;refine ah C D it l tn J W u _ _ m0 _ aj fD T tl ⟨0,[],[],u,0,I4,T.keep _ _ _ ae fun b hb o e=>k4 b o (k3 b o e),fun b hb=>(f2 b hb).1,dN,af,.nil,w0⟩ fun Y h6=>?_
  obtain⟨ys,an,H5,z5,I6,ai,o6,ap,ag,q⟩:=h6;obtain⟨m6,am,_⟩:=I6.loc;have al:upd H5 D (.lst ys) C=none:=by rw[zj (qz aa)];exact I6.free
  refine fin Y D C (upd H5 D (.lst ys)) m6 am (fun h7 k7=>?_) ⟨al,ak⟩ (q D ai)
  refine I3.call' (s':={ Y with heap:=h7 }) (ch:=D::l) I6.os (VH (zck I6.base (yK eC) k7) qI dN) (Xd (za3 I6.hok I6.free k7) ai ⟨ag,an,z5,ap,k7 D _ aa o6⟩) I6.bare fun b hb=>?_
  obtain⟨_,g1,_,g3,g4,g5⟩:=all b hb;exact⟨g3,g1,g4,g5⟩
 exact codeAny_compStart_list (go _ rfl) (T.self X.A 0 _ _ _ (T.keep _ _ _ ae fun b hb o e=>k4 b o (k3 b o e)) (go _ rfl))
theorem VG{Y:Cx}{b:List (Addr×Obj)}{n:Nat}{c:List Nat}{σ m:St}{i:Hp}{l:Shared}(s:(upS n c σ).length=Y.N.length)(J:Inv Y b m i l)(hd:m.drop n=(upS n c σ).drop n):Inv Y b (upS n c σ) i l:=by
 refine J.weak (s.trans J.len.symm) fun k v e=>?_
 obtain⟨u,e1,_⟩:=yT e;rw[<- hd,Vm] at e1;rw[<- e1];congr 1
 omega
theorem zaX{C D it:Addr}{c:List Addr}{tn:Nat->Heap->Prop}{J:It}{W:Nat->Nat->List V->Hp->Prop}{H2:Hp}{s3 s4:Shared}{m0 n:Nat}{R:Result->Shared->Prop}{Q:List Nat}{σ:St}{l:List Str}{N:List V->Hp->Prop}(hc:X.calm=true)
  (hg:∀C s H ex,PG (zZ X l scope C s H ex) G g) (hf:∀C s H ex,PF (zZ X l scope C s H ex) E O) (he:∀C s H ex,PE (zZ X l scope C s H ex) A M) (aa:∀b∈D::c,∀B:Hp,B b=none->xw (zZ X l scope C s3 H2 (D::c)) [] B b) (fD:∀b∈c,D≠b) (T:Zk X.prog X.w X.K G J c it tn)
  (ab:∀i m u H7,W i m u H7->(J.stop i H7/\N u H7)\/(J.go i H7/\∃N2:List V->Hp->Prop,(∀u B,N2 u B->∃m',m'<m/\W (i+1) m' u B)/\∀x H8,J.yld i H7 x H8->g x (upS n Q σ) H8 fun σ9 H9=>σ9.drop n=(upS n Q σ).drop n/\O σ9 H9 fun b a0=>
    if b=true then M σ9 a0 fun y ac=>u.length<sizeLine/\N2 (u++[y]) ac else N2 u a0))
  (j:LcJ (zZ X l scope C s3 H2 (D::c)) D tn c [] (upS n Q σ) W m0 s4) (fin:∀s6,LcE (zZ X l scope C s3 H2 (D::c)) D [] (upS n Q σ) N s6->R (.ok .next) s6) :
  codeAny (model X.prog X.w) X.A (.compLoop (.ListComp A [⟨G,w,E,0⟩] scope L) 0 (.ref it) (.ref D) (compEnvC scope (jh X.env.cells scope.names []) C X.env)) R s4:=by
 have hl:=(let ⟨_,_,_,_,_,I,_,_,_,_,_,_⟩:=j;I.len:(upS n Q σ).length=l.length)
 refine WU (LcJ (zZ X l scope C s3 H2 (D::c)) D tn c [] (upS n Q σ) W) (fun k s5 j=>qW (zaW (Y:=zZ X l scope C s3 H2 (D::c)) hc rfl (hg _ _ _ _) (hf _ _ _ _) (he _ _ _ _) T (aa D qI) (fun b hb=>aa b (jA _ hb)) fD (fun σ9 B s' J hd=>VG hl J hd) ab j) (fun r s6 h6=>?_) fun _ _ q=>q) m0 j
 cases r with
 | some v=>exact h6
 | none=>exact fin s6 h6
theorem zfU(own i:List Str)(u:List Nat)(hc:X.calm=true)(hk:scope.kind=.function)(hb:ZR scope.names X.env.scope.names X.N i u=true)(hi:PI X G w U)
  (hg:∀C s H c,PG (zZ X (own++i) scope C s H c) G g) (hf:∀C s H c,PF (zZ X (own++i) scope C s H c) E O) (he:∀C s H c,PE (zZ X (own++i) scope C s H c) A M)
  (hs:∀x,foldedSetIterable w X.env x=pure x:=by intro _;rfl):PE X (.ListComp A [⟨G,w,E,0⟩] scope L) (tLC U own.length u g O M):=by
 intro B s σ H Q I h;rw[eval_ListComp];exact zdG (rest:=[]) own i u hk hb hi hs I h (fun C D it fp tn J W H2 s3 s4 m0 R a b T tl j fin=>zaX hc hg hf he a b T tl j fin) fun s6 D C N m hn all _ q=>⟨m,hn,fun Y l=>⟨.ref D,N,all Y fun b o hb e=>l.extBut b o hb e,rfl,q⟩⟩
end
section
variable{X:Cx}{g:List (Addr×Obj)}{σ:St}{H:Hp}{s:Shared}
theorem XS{ch:List Addr}{h':Heap}{t':Nat}{T:Addr}{w:List V}{its:List Value}(I:Inv X g σ H s)(l:∀b∈ch,xw X g H b)(A:s.heap.objs.size<=T)
  (k:∀b o,b∉ch->s.heap.get? b=some o->h'.get? b=some o) (M:w.length<=sizeLine) (U:Vals w its) (Q:TupX h' T its.toArray) :
  Inv X g σ (upd H T (.tup w)) { s with heap:=h',toks:=t' }:=by
 have i:H T=none:=I.hok.fresh A;have ne:∀b o,s.heap.get? b=some o->b≠T:=fun b o e=>qw (jY (zN e) A)
 have B:∀b u,H b=some u->b∉ch:=fun b u e hb=>by rw[(l b hb).1] at e;cases e
 refine I.step (g':=s.gens) (d':=s.drawn) (ch:=ch) (fun b hb=>?_) (fun b o _ _ hc e _=>k b o hc e) (fun b o _ _ hc e _=>⟨o.slots,k b o hc e⟩) (fun b o _ e n=>by rw[zj (ne b o e)];exact n) (fun b o hc e=>⟨o,k b o hc e⟩)
  (fun b Y e=>by rw[zj (zg e i)];exact e) (fun b o u e=>by rw[zj (zg e i)];exact e) (fun b ps e=>⟨#[],by rw[zj (zg e i),e];simp⟩) (fun m N=>?_) (fun b u e=>?_) I.bare
 ·obtain⟨_,E,_,G,J,L⟩:=l b hb
  exact⟨G,E,J,L⟩
 ·obtain⟨o,D,C,O,r⟩:=N
  exact⟨o,D,C,k _ o (fun z=>(l _ z).2.1 rfl) O,r⟩
 ·by_cases hb:b=T
  ·subst hb
   rw[zb] at e;cases e;exact⟨M,its,U,Q⟩
  ·rw[zj hb] at e
   refine(I.hok b u e).stay (fun c v hc q=>k c v ?_ q) (fun c q=>by rw[zj (zg q i)];exact q) fun c Y q=>by rw[zj (zg q i)];exact q
   rcases hc with z | z
   ·rw[z];exact B b u e
   ·exact B c _ z
end
def Ite(K:W.Frag)(a:Addr):It:=
 ⟨fun i H=>∃b x,SqL K H a b/\b[i]? =some x,fun i H x c=>∃T y,x=.ref T/\H T=none/\c=upd H T (.tup [.int i,y])/\∀b,SqL K H a b->b[i]? =some y,fun i H=>∃b,SqL K H a b/\b.length<=i⟩
theorem zbC{P:Program}{w:World}{K:W.Frag}{M:List Expr}{kk:Nat}{aj:Pos}(a e m:Addr)(G:e≠m) :
  Zk P w K (.Tuple M kk aj) (Ite K a) [e,m] e (fun i h=>(∃C,IsEnum h e m i C)/\h.IsListIter m a i) where
 mem:=by simp
 obj:=fun i h st b hb=>by
  obtain⟨⟨C,g⟩,⟨o,ho,c,d⟩⟩:=st;rcases qg.mp hb with z | z
  ·subst z;exact⟨_,g,fun v q=>nomatch q⟩
  ·rw[zR.mp z];exact⟨o,ho,fun v q=>by rw[d] at q;cases q⟩
 keep:=fun i h h' st k=>by
  obtain⟨⟨C,g⟩,hi⟩:=st;exact⟨⟨C,k e (by simp) _ g⟩,hi.at fun o q=>k m (by simp) o q⟩
 item:=by
  intro X hP hw hK hc i U s σ H E I hf st hg;subst hP hw hK;obtain⟨⟨C,g⟩,l⟩:=st;obtain⟨xs,x,hq,hx⟩:=hg;obtain⟨B,rv,p,hz⟩:=I.list hq;obtain⟨u,hu,ru⟩:=rv.get hx;have L:=p.isList;have N:a≠m:=fun z=>by
   obtain⟨o,e1,c1,_⟩:=L;obtain⟨o',e2,c2,_⟩:=l;rw[z,e2] at e1;cases e1;rw[c2] at c1;exact absurd (w4 c1) (by decide)
  have aa:e≠a:=fun z=>by
   obtain⟨o,e1,c1,_⟩:=L;rw[<- z,g] at e1;cases e1;exact absurd (w4 c1) (by decide)
  have D:=Draws.list (prog:=X.prog) (w:=X.w) (A:=X.A.in1) (I.ok.hd hc) m a N B.toArray;have hi:i<B.toArray.size:=by
   have h1:=(zL.mp hu).1;simpa using h1
  refine wpAny_pyNext_enum_itemD D g ⟨l,L⟩ hi G (by simp[G,aa]) fun x' h' tk a0 O Q Y am hk=>?_
  have ex:x'=u:=by
   have h2:B[i]? =some x':=by simpa using a0
   rw[hu] at h2;exact(jH h2).symm
  subst ex;refine⟨_,rfl,wpAny_letOwnedTupleGo_enum O fun h2 af J=>?_⟩
  have eT:s.heap.objs.size≠e:=vn (zN g);have k2:∀b o,b∉[e,m]->s.heap.get? b=some o->h2.get? b=some o:=fun b o hb q=>by
   have n1:b≠e:=fun z=>hb (by simp[z])
   have n2:b≠m:=fun z=>hb (by simp[z])
   exact(J.2 b n1).trans (hk b o n1 n2 q)
  have ai:h2.IsListIter m a (i+1):=Q.1.extBut J.extBut (qz G);refine⟨.ref s.heap.objs.size,upd H s.heap.objs.size (.tup [.int i,x]),?_,rfl,⟨_,x,rfl,I.hok.fresh (zQ _),rfl,fun ys hy=>by rw[I.list_inj hy hq];exact hx⟩,⟨⟨_,by simpa using af⟩,ai⟩,fun b hb=>?_⟩
  ·refine XS (s:=s) (h':=h2) (t':=tk+1) (its:=[.int i tk,x']) I hf (zQ _) k2 (by rw[sizeLine_eq];exact(by decide:2<=16777216)) (.cons ⟨tk,rfl⟩ (.cons ru .nil)) (TupX.by ((J.2 _ eT).trans Y))
  ·have ab:b<s.heap.objs.size:=by
    rcases qg.mp hb with z | z
    ·rw[z];exact zN g
    ·rw[zR.mp z]
     obtain⟨o',e',_⟩:=l;exact zN e'
   rw[zj (qw ab)];exact(hf b hb).1
 done:=by
  intro X hP hw hK hc i U s σ H E I hf st hg;subst hP hw hK;obtain⟨⟨C,g⟩,l⟩:=st;obtain⟨xs,hq,hx⟩:=hg;obtain⟨B,rv,p,hz⟩:=I.list hq;have L:=p.isList;have N:a≠m:=fun z=>by
   obtain⟨o,e1,c1,_⟩:=L;obtain⟨o',e2,c2,_⟩:=l;rw[z,e2] at e1;cases e1;rw[c2] at c1;exact absurd (w4 c1) (by decide)
  obtain⟨f0,f1,f2,f3,f4,f5⟩:=hf m (by simp)
  have ag:B.toArray.size<=i:=by
   have:=rv.length;simp only[z9];omega
  have Y:s.TypeIs (.ref e) "enumerate" :=⟨_,g,rfl⟩;unfold pyNext;refine zm (yL (yw (name:=Str.ofString "__next__") Y Vu (wD Vu Y F.entry_enumerate_next ?_ (F.args_enumerate_next_1 _))))
  show wpAny _ _ (field (.ref e) 2 >>= _) _ _ _;refine zm (xU g rfl (x:=.ref m) rfl (zm (wpAny_nextOf_list_end (I.ok.hd hc) l L (by simpa using ag) fun h' x ae ah=>?_)))
  obtain⟨o,ho,ac⟩:=ah;refine zm (ZT (T:= "StopIteration") (b:=true) ⟨o,ho,ac⟩ isSubtype_stop ?_)
  exact zJ ⟨rfl,I.turned (t':=s.toks) (fun b o hb q=>ae b o hb q) f0 f1 f3 f4 f5⟩
 self:=fun _ _ _ _ _ st h=>let ⟨⟨_,g⟩,_⟩:=st;wpAny_pyIter_enum g h
section
variable{X:Cx}
def ziu(K:W.Frag)(c:TA):TI:=fun σ H R=>c σ H fun g b=>∃a,g=[.ref a]/\(∃i,SqL K b a i)/\R (Ite K a) b
theorem zep{l:Expr}{C:TA}{p m tp:Pos}{g:List Expr}{O:Nat}(hg:Gl X "enumerate")(L:X.mg "enumerate" = none)(G:PA X [l] C)(hs:starEach [l] X.env=[(false,eval l X.env)]:=by rfl) :
  PI X (.Tuple g O tp) (.Call (.Name "enumerate" p) [l] [] m) (ziu X.K C):=by
 intro c s σ H R I h;refine Call_ (vD I hg L boot_enumerate (Jb (thn (G m c s σ H _ I h) fun us s1 ⟨vs,A,w,U,T⟩=>?_) hs rfl))
 obtain⟨a,e,⟨xs,hq⟩,q⟩:=T;subst e;obtain⟨u,rfl,Y⟩:=vF U;cases Y;obtain⟨N,rv,Q,hz⟩:=w.list hq;refine call_enumerate_list Q.isList fun E B J M hk=>wpAny_pyIter_enum B ?_
 have D:Inv X c σ A { s1 with heap:=E }:=w.kept (t':=s1.toks) hk;refine⟨s1.heap.objs.size+1,[s1.heap.objs.size+1,s1.heap.objs.size],_,_,A,rfl,D,zbC a _ _ (Nat.succ_ne_self _),⟨⟨_,B⟩,J⟩,fun b hb=>?_,q⟩
 have i:s1.heap.objs.size<=b:=by
  rcases qg.mp hb with z | z
  ·rw[z];exact wZ _
  ·rw[zR.mp z];exact zQ _
 exact w.fpOk i (w.hok.fresh i)
theorem zdy{K:W.Frag}{a:Addr}{xs:List V}{g:TG}{A:TS}{D:VC}{σ:St}{H:Hp}(Pv:Nat->St->Hp->Prop)(h0:Pv 0 σ H)(E:∀i σ H,i<=xs.length->Pv i σ H->SqL K H a xs)
  (hs:∀i x σ H T,xs[i]? =some x->Pv i σ H->H T=none->g (.ref T) σ (upd H T (.tup [.int i,x])) fun u l=>A { D with nx:=Pv (i+1),ct:=Pv (i+1),bk:=D.nx } u l) (hd:∀σ H,Pv xs.length σ H->D.nx σ H) :
  ∃W:Nat->Nat->St->Hp->Prop,(∃m,W 0 m σ H)/\∀i m σ H,W i m σ H ->
   ((Ite K a).stop i H/\D.nx σ H)\/((Ite K a).go i H/\∃N:St->Hp->Prop,(∀s b,N s b->∃w,w<m/\W (i+1) w s b)/\∀x b,(Ite K a).yld i H x b->g x σ b fun u l=>A { D with nx:=N,ct:=N,bk:=D.nx } u l):=by
 refine⟨fun i m σ H=>m=xs.length-i/\i<=xs.length/\Pv i σ H,⟨xs.length,by simp,qX _,h0⟩,?_⟩
 rintro i m σ H ⟨rfl,C,p⟩;have q:=E i σ H C p;by_cases c:i<xs.length
 ·refine .inr ⟨⟨xs,xs[i],q,by simp[c]⟩,Pv (i+1),fun s b G=>⟨xs.length-(i+1),by omega,rfl,c,G⟩,fun x b y=>?_⟩
  obtain⟨T,z,e1,B,e2,y⟩:=y;subst e1 e2;exact hs i z σ H T (y xs q) p B
 ·have e:i=xs.length:=by omega
  subst e;exact .inl ⟨⟨xs,q,zQ _⟩,hd σ H p⟩
inductive Z5(K:W.Frag)(c:List V)(H:Hp)(Q:VK):Prop
 | mk (p:Addr) (b:List Bool) (_:c=[.ref p]) (_:SqL K H p (b.map V.bl)) (_:Q (.bl (b.all id)) H):Z5 K c H Q
theorem vS(hc:X.calm=true):CallR X (.builtin "all") (Z5 X.K):=by
 intro M s σ H xs us Q I r h;obtain⟨p,c,rfl,hq,q⟩:=h;obtain⟨u,rfl,G⟩:=vF r;cases G;obtain⟨g,J,pl,hz⟩:=I.list hq;have D:=pl.isList;have E:p≠s.heap.objs.size:=by
  obtain⟨o,e,_⟩:=D;exact qw (zN e)
 refine call_all_walk (wpAny_pyIter_list D ?_)
 refine⟨s.heap.objs.size,_,_,_,_,_,fun i=>c.getD i true,rfl,Jc (prog:=X.prog) (w:=X.w) (A:=X.A.in1) (I.ok.hd hc) _ p E g.toArray,⟨⟨_,qJ _ rfl,rfl,rfl⟩,D.push _⟩,?_,fun Y tk hk=>?_⟩
 ·intro i v s' O E' C hQ
  have C:g.toArray[i]? =some v:=C;have e1:g[i]? =some v:=by simpa using C
  have l:i<c.length:=by
   have h1:=(zL.mp e1).1;have h2:=J.length;rw[zp] at h2;omega
  have e2:(c.map V.bl)[i]? =some (.bl c[i]):=by simp[l]
  obtain⟨u',L,G⟩:=J.get e2;rw[e1] at L;cases L;cases G;have T:c.getD i true=c[i]:=by simp[l]
  have m:O (c.getD i true) s':=hQ;rw[T] at m;exact yq m
 ·have k:∀b o,s.heap.get? b=some o->Y.get? b=some o:=fun b o e=>hk b o (by simp;exact qw (zN e)) (qG _ e)
  have U:(List.range g.toArray.size).all (fun i=>c.getD i true)=c.all id:=by
   have B:g.toArray.size=c.length:=by
    have:=J.length;rw[zp] at this;simp only[z9];omega
   rw[B,wB,xB,xB];constructor
   ·intro h b hb
    obtain⟨i,l,rfl⟩:=Jp.mp hb;have:=h i (x5.mpr l);simpa [l] using this
   ·intro h i l
    have l:=x5.mp l;have:=h c[i] (vY l);simpa [l] using this
  exact⟨.bl (c.all id),H,I.kept k,by rw[U];rfl,q⟩
end
def SqK(K:W.Frag)(c:Bool)(H:Hp)(a:Addr)(b:List V):Prop:=match c with
 | true=>SqL K H a b
 | false=>SqT K H a b
def SeqK(c:Bool)(h:Heap)(a:Addr)(b:Array Value):Prop:=match c with
 | true=>h.IsList a b
 | false=>h.IsTuple a b
def ItrK(c:Bool)(h:Heap)(b a:Addr)(i:Nat):Prop:=match c with
 | true=>h.IsListIter b a i
 | false=>h.IsTupleIter b a i
theorem SeqK.at{kd:Bool}{h c:Heap}{a:Addr}{b:Array Value}(x:SeqK kd h a b)(k:∀o,h.get? a=some o->c.get? a=some o):SeqK kd c a b:=by
 cases kd with
 | true=>exact Heap.IsList.at x k
 | false=>obtain⟨o,e,r⟩:=(show h.IsTuple a b from x);exact⟨o,k o e,r⟩
theorem ItrK.at{kd:Bool}{h c:Heap}{b a:Addr}{i:Nat}(x:ItrK kd h b a i)(k:∀o,h.get? b=some o->c.get? b=some o):ItrK kd c b a i:=by
 cases kd with
 | true=>exact Heap.IsListIter.at x k
 | false=>obtain⟨o,e,r⟩:=(show h.IsTupleIter b a i from x);exact⟨o,k o e,r⟩
theorem ItrK.obj{g:Bool}{h:Heap}{b a:Addr}{i:Nat}(x:ItrK g h b a i):∃o,h.get? b=some o/\(o.cls=.type "list_iterator" \/ o.cls=.type "tuple_iterator")/\∀v,o.data≠.cell v:=by
 cases g with
 | true=>obtain⟨o,e,c,d⟩:=(show h.IsListIter b a i from x);exact⟨o,e,.inl c,fun v q=>by rw[d] at q;cases q⟩
 | false=>obtain⟨o,e,c,d⟩:=(show h.IsTupleIter b a i from x);exact⟨o,e,.inr c,fun v q=>by rw[d] at q;cases q⟩
theorem SeqK.cls{g:Bool}{h:Heap}{a:Addr}{b:Array Value}(x:SeqK g h a b):∃o,h.get? a=some o/\(o.cls=.type "list" \/ o.cls=.type "tuple")/\∃n,o.data=.seq b n:=by
 cases g with
 | true=>obtain⟨o,e,c,n,d⟩:=(show h.IsList a b from x);exact⟨o,e,.inl c,n,d⟩
 | false=>obtain⟨o,e,c,n,d⟩:=(show h.IsTuple a b from x);exact⟨o,e,.inr c,n,d⟩
section
variable{l:Program}{w:World}{A:Around}{E:Value->Shared->Prop}{s:Shared}
theorem wq{kd:Bool}{c a:Addr}{i:Nat}{g:Array Value}{x:Value}{Q:Value->Shared->Prop}(G:ItrK kd s.heap c a i)(H:SeqK kd s.heap a g)(hx:g[i]? =some x)
  (D:∀u,ItrK kd u c a (i+1)->Heap.SameBut c s.heap u->Q x { s with heap:=u }):wpAny (model l w) A (Builtin.SmallTypes.nextOf (.ref c)) Q E s:=by
 cases kd with
 | true=>exact wpAny_nextOf_list_item G H hx D
 | false=>
  have b:s.heap.IsTupleIter c a i:=G;obtain⟨o,m,hc,hd⟩:=id b;obtain⟨J,C,_,nl,B⟩:=(show s.heap.IsTuple a g from H)
  unfold Builtin.SmallTypes.nextOf;refine zm (yw (name:=Str.ofString "__next__") b.typeIs Vz (wD Vz b.typeIs zdT ?_ (zdV _)))
  show wpAny _ _ (field (.ref c) 0 >>= _) _ _ _;refine zm (xU m hd (x:=.ref a) rfl ?_)
  show wpAny _ _ (if(Value.ref a==Value.none)=true then _ else _) _ _ _;rw[zo (show ¬((Value.ref a==Value.none)=true) from qH)]
  show wpAny _ _ (field (.ref c) 1 >>= _) _ _ _;refine zm (xU m hd (x:=.int i 0) rfl ?_)
  show wpAny _ _ (seqItems? (.ref a) >>= _) _ _ _;refine zm (wA C B ?_);simp only[xu,hx]
  refine zm (wpAny_setField m hd (by simp) (zJ ⟨x,rfl,zJ (D _ (show Heap.IsTupleIter _ _ _ _ from ?_) (Jm ..))⟩))
  refine⟨_,Q6 _ m (YY (Jl hd _)),(YS ..).trans hc,?_⟩;rw[Jl hd];simp[rawInt]
theorem ye{kd:Bool}{g a:Addr}{i:Nat}{c:Array Value}{Q:Value->Shared->Prop}(C:A.handled=none)(I:ItrK kd s.heap g a i)(J:SeqK kd s.heap a c)(hx:c[i]? =none)
  (H:∀u e,Heap.ExtBut g s.heap u->(∃o,u.get? e=some o/\o.cls=.type "StopIteration")->E (.ref e) { s with heap:=u }):wpAny (model l w) A (Builtin.SmallTypes.nextOf (.ref g)) Q E s:=by
 cases kd with
 | true=>exact wpAny_nextOf_list_end C I J hx H
 | false=>
  have b:s.heap.IsTupleIter g a i:=I;obtain⟨o,D,hc,hd⟩:=id b;obtain⟨M,G,_,nl,B⟩:=(show s.heap.IsTuple a c from J)
  unfold Builtin.SmallTypes.nextOf;refine zm (yw (name:=Str.ofString "__next__") b.typeIs Vz (wD Vz b.typeIs zdT ?_ (zdV _)))
  show wpAny _ _ (field (.ref g) 0 >>= _) _ _ _;refine zm (xU D hd (x:=.ref a) rfl ?_)
  show wpAny _ _ (if(Value.ref a==Value.none)=true then _ else _) _ _ _;rw[zo (show ¬((Value.ref a==Value.none)=true) from qH)]
  show wpAny _ _ (field (.ref g) 1 >>= _) _ _ _;refine zm (xU D hd (x:=.int i 0) rfl ?_)
  show wpAny _ _ (seqItems? (.ref a) >>= _) _ _ _;refine zm (wA G B ?_);simp only[xu,hx]
  refine zm (xY (zm (wpAny_setField D hd (by simp) ?_)));show wpAny _ _ (newExc (.type "StopIteration") [] >>= _) _ _ _
  refine zm ?_;simp only[newExc,newTuple];refine zm (vo ?_ (by size_fits))
  refine zm (m:=firstArgMember _ _) (Zy (a:=Value.none) (by first| rfl | (simp only[firstArgMember];rfl)) (vo ?_ (by size_fits)))
  simp only[raiseNew];refine zm (wpAny_handled ?_);first| rw[show A.in1.handled=none from C] | rw[C]
  exact zm (zJ (wpAny_throw (H _ _ (((Jm ..).extBut.push _).push _) ⟨_,qJ _ rfl,rfl⟩)))
structure Xy(k1 k2:Bool)(h:Heap)(z TI TO i1 i2 a1 a2:Addr)(i:Nat):Prop where
 zz:IsZip h z TI TO .none
 ti:IsPair h TI (.ref i1) (.ref i2)
 to:∃a b,IsPair h TO a b
 r1:ItrK k1 h i1 a1 i
 r2:ItrK k2 h i2 a2 i
structure zbj(z TI TO i1 i2:Addr):Prop where
 a:TI≠z
 b:TO≠z
 c:i1≠z
 d:i2≠z
 e:TI≠TO
 f:TI≠i1
 g:TI≠i2
 h:TO≠i1
 i:TO≠i2
 j:i1≠i2
theorem zbk{k1 k2:Bool}{z TI TO u H a1 a2:Addr}{i:Nat}{xs ys:Array Value}{x y:Value}{Q:Option Value->Shared->Prop}(N:zbj z TI TO u H)(Z:Xy k1 k2 s.heap z TI TO u H a1 a2 i)
  (l1:SeqK k1 s.heap a1 xs) (l2:SeqK k2 s.heap a2 ys) (m1:∀b∈[z,TO,u,H],a1≠b) (m2:∀b∈[z,TO,u,H],a2≠b) (hx:xs[i]? =some x) (hy:ys[i]? =some y)
  (hQ:∀I,IsZip I z TI TO (rawInt s.heap.objs.size)->IsPair I TI (.ref u) (.ref H)->(∃a b,IsPair I TO a b)->ItrK k1 I u a1 (i+1)->ItrK k2 I H a2 (i+1)->IsPair I s.heap.objs.size x y->I.objs.size=s.heap.objs.size+1 ->
   (∀c o,c∉[z,TO,u,H]->s.heap.get? c=some o->I.get? c=some o)->Q (some (.ref s.heap.objs.size)) { s with heap:=I }):wpAny (model l w) A (pyNext (.ref z)) Q E s:=by
 obtain⟨hz,ae,⟨a,b,ai⟩,h1,h2⟩:=Z;have hT:s.TypeIs (.ref z) "zip" :=⟨_,hz,rfl⟩;unfold pyNext;refine zm (yL (yw (name:=Str.ofString "__next__") hT Vd (wD Vd hT F.entry_zip_next ?_ (F.args_zip_next_1 _))))
 show wpAny _ _ (field (.ref z) 2 >>= _) _ _ _;refine zm (xU hz rfl (x:=.bool false) rfl ?_)
 show wpAny _ _ (field (.ref z) 3 >>= _) _ _ _;refine zm (xU hz rfl (x:=.ref TI) rfl (zm (wA ae rfl ?_)))
 show wpAny _ _ (Builtin.SmallTypes.ownedTupleIsFree (.ref z) >>= _) _ _ _;refine zm ?_
 unfold Builtin.SmallTypes.ownedTupleIsFree;refine zm (xU hz rfl (x:=.none) rfl (zJ ?_));simp only[if_true]
 refine zm (xY (zm (xU hz rfl (x:=.ref TO) rfl (zm (ZG hz (by simp) fun g1 aa C=>?_)))))
 replace aa:IsZip g1 z TI TO .ellipsis:=aa
 refine zm ?_;simp only[List.zipIdx_cons,List.zipIdx_nil,Ve,YK]
 refine zm (zm (wpAny_onRaise ?_));show wpAny _ _ (Builtin.SmallTypes.nextOf (.ref u) >>= _) _ _ _
 refine zm (wq (h1.at fun o e=>C.extBut _ o N.c e) (l1.at fun o e=>C.extBut _ o (m1 z (by simp)) e) hx fun g2 ag J=>zJ ?_)
 have O:IsPair g2 TO a b:=J.extBut _ _ N.h (C.extBut _ _ N.b ai);refine zm (wA O rfl (zm (wpAny_updateSeq_pair O fun g3 B L=>?_)))
 replace B:IsPair g3 TO x b:=B
 refine zm (yJ (zJ ?_));refine zm (zm (wpAny_onRaise ?_));show wpAny _ _ (Builtin.SmallTypes.nextOf (.ref H) >>= _) _ _ _
 have U:∀c o,c∉[z,TO,u]->s.heap.get? c=some o->g3.get? c=some o:=fun c o hc e=>L.extBut _ o (fun q=>hc (by simp[q])) (J.extBut _ o (fun q=>hc (by simp[q])) (C.extBut _ o (fun q=>hc (by simp[q])) e))
 refine zm (wq (h2.at fun o e=>U _ o (by simp[N.d,qz N.i,qz N.j]) e) (l2.at fun o e=>U _ o (by simp[m2 z (by simp),m2 TO (by simp),m2 u (by simp)]) e) hy fun g4 ah D=>zJ ?_)
 have T:IsPair g4 TO x b:=D.extBut _ _ N.i B;refine zm (wA T rfl (zm (wpAny_updateSeq_pair T fun g m G=>?_)))
 replace m:IsPair g TO x y:=m
 refine zm (yJ (zJ (zJ (zm (wA m rfl (zm (wpAny_newTuple ?_)))))))
 have zs:g.objs.size=s.heap.objs.size:=by rw[G.1,D.1,L.1,J.1,C.1]
 have af:IsZip g z TI TO .ellipsis:=G.extBut _ _ (qz N.b) (D.extBut _ _ (qz N.d) (L.extBut _ _ (qz N.b) (J.extBut _ _ (qz N.c) aa)));have k5:∀c o,c∉[z,TO,u,H]->s.heap.get? c=some o->g.get? c=some o:=fun c o hc e=>G.extBut _ o (fun q=>hc (by simp[q])) (D.extBut _ o (fun q=>hc (by simp[q])) (U c o (fun q=>hc (by simp at q ⊢;rcases q with q | q | q<;>simp[q])) e))
 have r1:ItrK k1 g u a1 (i+1):=ag.at fun o e=>G.extBut _ o (qz N.h) (D.extBut _ o N.j (L.extBut _ o (qz N.h) e))
 have r2:ItrK k2 g H a2 (i+1):=ah.at fun o e=>G.extBut _ o (qz N.i) e
 have zl:z<g.objs.size:=zN af;show wpAny _ _ (Builtin.SmallTypes.ownedTupleHandOut (.ref z) (.ref g.objs.size) >>= _) _ _ _;refine zm ?_;unfold Builtin.SmallTypes.ownedTupleHandOut
 have aj:IsZip (g.push { cls:=.type "tuple",data:=.seq #[x,y] }) z TI TO .ellipsis:=qG _ af;refine zm (ZG aj (by simp) fun g7 ab Y=>?_)
 replace ab:IsZip g7 z TI TO (rawInt g.objs.size):=ab
 refine ZG ab (by simp) fun g8 M a0=>?_
 replace M:IsZip g8 z TI TO (rawInt g.objs.size):=M
 have up:∀c o,c≠z->g.get? c=some o->g8.get? c=some o:=fun c o c1 e=>a0.extBut _ o c1 (Y.extBut _ o c1 (qG _ e))
 have ac:IsPair g8 g.objs.size x y:=a0.extBut _ _ (vn zl) (Y.extBut _ _ (vn zl) (qJ _ rfl));have z8:g8.objs.size=g.objs.size+1:=by rw[a0.1,Y.1,j7]
 rw[zs] at M ac z8;refine zJ ⟨_,rfl,zJ ?_⟩;show Q (some (.ref g.objs.size)) _;rw[zs]
 exact hQ g8 M (up _ _ N.a (k5 _ _ (by simp[N.a,N.e,N.f,N.g]) ae)) ⟨_,_,up _ _ N.b m⟩ (r1.at fun o e=>up _ o N.c e) (r2.at fun o e=>up _ o N.d e) ac z8 fun c o hc e=>up c o (fun q=>hc (by simp[q])) (k5 c o hc e)
theorem zcg{k1 k2:Bool}{z TI TO H M a1 a2:Addr}{i:Nat}{xs ys:Array Value}{Q:Option Value->Shared->Prop}(hh:A.handled=none)(N:zbj z TI TO H M)(Z:Xy k1 k2 s.heap z TI TO H M a1 a2 i)
  (l1:SeqK k1 s.heap a1 xs) (l2:SeqK k2 s.heap a2 ys) (m1:∀b∈[z,TO,H,M],a1≠b) (m2:∀b∈[z,TO,H,M],a2≠b) (O:xs[i]? =none\/ys[i]? =none)
  (hQ:∀h',(∀c o,c∉[z,TO,H,M]->s.heap.get? c=some o->h'.get? c=some o)->Q none { s with heap:=h' }):wpAny (model l w) A (pyNext (.ref z)) Q E s:=by
 obtain⟨L,ab,⟨a,b,ac⟩,h1,h2⟩:=Z;have hT:s.TypeIs (.ref z) "zip" :=⟨_,L,rfl⟩;unfold pyNext;refine zm (yL (yw (name:=Str.ofString "__next__") hT Vd (wD Vd hT F.entry_zip_next ?_ (F.args_zip_next_1 _))))
 show wpAny _ _ (field (.ref z) 2 >>= _) _ _ _;refine zm (xU L rfl (x:=.bool false) rfl ?_)
 show wpAny _ _ (field (.ref z) 3 >>= _) _ _ _;refine zm (xU L rfl (x:=.ref TI) rfl (zm (wA ab rfl ?_)))
 show wpAny _ _ (Builtin.SmallTypes.ownedTupleIsFree (.ref z) >>= _) _ _ _;refine zm ?_
 unfold Builtin.SmallTypes.ownedTupleIsFree;refine zm (xU L rfl (x:=.none) rfl (zJ ?_));simp only[if_true]
 refine zm (xY (zm (xU L rfl (x:=.ref TO) rfl (zm (ZG L (by simp) fun g1 D m=>?_)))))
 replace D:IsZip g1 z TI TO .ellipsis:=D
 refine zm ?_;simp only[List.zipIdx_cons,List.zipIdx_nil,Ve,YK]
 refine zm (zm (wpAny_onRaise ?_));show wpAny _ _ (Builtin.SmallTypes.nextOf (.ref H) >>= _) _ _ _
 cases hx:xs[i]? with
 | none=>
  refine zm (ye hh (h1.at fun o e=>m.extBut _ o N.c e) (l1.at fun o e=>m.extBut _ o (m1 z (by simp)) e) hx fun g2 e u he=>?_)
  obtain⟨oe,g,B⟩:=he;have a0:IsZip g2 z TI TO .ellipsis:=u _ _ (qz N.c) D;have J:e≠z:=fun q=>by subst q;rw[a0] at g;cases g;exact absurd (w4 B) (by decide)
  refine ZG a0 (by simp) fun g3 ah C=>?_
  refine zm (ZT (T:= "StopIteration") (b:=true) ⟨oe,C.extBut _ _ J g,B⟩ isSubtype_stop (zJ (hQ _ fun c o hc q=>?_)))
  exact C.extBut _ o (fun q=>hc (by simp[q])) (u _ o (fun q=>hc (by simp[q])) (m.extBut _ o (fun q=>hc (by simp[q])) q))
 | some x=>
  have hy:ys[i]? =none:=by rcases O with q | q;rw[hx] at q;cases q;exact q
  refine zm (wq (h1.at fun o e=>m.extBut _ o N.c e) (l1.at fun o e=>m.extBut _ o (m1 z (by simp)) e) hx fun g2 ag u=>zJ ?_)
  have G:IsPair g2 TO a b:=u.extBut _ _ N.h (m.extBut _ _ N.b ac);refine zm (wA G rfl (zm (wpAny_updateSeq_pair G fun g3 ae C=>?_)))
  have I:∀c o,c∉[z,TO,H]->s.heap.get? c=some o->g3.get? c=some o:=fun c o hc e=>C.extBut _ o (fun q=>hc (by simp[q])) (u.extBut _ o (fun q=>hc (by simp[q])) (m.extBut _ o (fun q=>hc (by simp[q])) e))
  refine zm (yJ (zJ ?_));refine zm (zm (wpAny_onRaise ?_));show wpAny _ _ (Builtin.SmallTypes.nextOf (.ref M) >>= _) _ _ _
  refine zm (ye hh (h2.at fun o e=>I _ o (by simp[N.d,qz N.i,qz N.j]) e) (l2.at fun o e=>I _ o (by simp[m2 z (by simp),m2 TO (by simp),m2 H (by simp)]) e) hy fun g4 e U he=>?_)
  obtain⟨oe,g,B⟩:=he;have aa:IsZip g4 z TI TO .ellipsis:=U _ _ (qz N.d) (C.extBut _ _ (qz N.b) (u.extBut _ _ (qz N.c) D));have J:e≠z:=fun q=>by subst q;rw[aa] at g;cases g;exact absurd (w4 B) (by decide)
  refine ZG aa (by simp) fun g5 ai Y=>?_
  refine zm (ZT (T:= "StopIteration") (b:=true) ⟨oe,Y.extBut _ _ J g,B⟩ isSubtype_stop (zJ (hQ _ fun c o hc q=>?_)))
  exact Y.extBut _ o (fun q=>hc (by simp[q])) (U _ o (fun q=>hc (by simp[q])) (I c o (fun q=>hc (by simp at q ⊢;rcases q with q | q | q<;>simp[q])) q))
abbrev zh(h:Heap)(b c:Obj):Heap:=((((h.push b).push c).push { cls:=.type "tuple",data:=.seq #[.ref h.objs.size,.ref (h.push b).objs.size] }).push { cls:=.type "tuple",data:=.seq #[.none,.none] }).push
 { cls:=.type "zip",data:=.fields #[.none,.bool false,.bool false,.ref ((h.push b).push c).objs.size,.ref (((h.push b).push c).push { cls:=.type "tuple",data:=.seq #[.ref h.objs.size,.ref (h.push b).objs.size] }).objs.size] }
theorem zhu{C D:Bool}{a1 a2:Addr}{h:Heap}{b i:Obj}(M:∀g:Heap,g.get? h.objs.size=some b->ItrK C g h.objs.size a1 0)(N:∀(g:Heap) (n:Addr),g.get? n=some i->ItrK D g n a2 0)(J:b.isFreed=false)(L:i.isFreed=false) :
  Xy C D (zh h b i) (h.objs.size+4) (h.objs.size+2) (h.objs.size+3) h.objs.size (h.objs.size+1) a1 a2 0/\(∀c o,h.get? c=some o->(zh h b i).get? c=some o)/\(zh h b i).objs.size=h.objs.size+5:=by
 have m:(h.push b).objs.size=h.objs.size+1:=j7 ..;have u:((h.push b).push i).objs.size=h.objs.size+2:=by rw[j7,m]
 have B:(((h.push b).push i).push { cls:=.type "tuple",data:=.seq #[.ref h.objs.size,.ref (h.push b).objs.size] }).objs.size=h.objs.size+3:=by rw[j7,u]
 have I:((((h.push b).push i).push { cls:=.type "tuple",data:=.seq #[.ref h.objs.size,.ref (h.push b).objs.size] }).push { cls:=.type "tuple",data:=.seq #[.none,.none] }).objs.size=h.objs.size+4:=by rw[j7,B]
 have H:(zh h b i).get? (h.objs.size+4)=some _:=I▸qJ _ rfl;have T:(zh h b i).get? (h.objs.size+3)=some _:=B▸qG _ (qJ _ rfl);have G:(zh h b i).get? (h.objs.size+2)=some _:=u▸qG _ (qG _ (qJ _ rfl));have Q:(zh h b i).get? (h.objs.size+1)=some i:=m▸qG _ (qG _ (qG _ (qJ _ L)));have O:(zh h b i).get? h.objs.size=some b:=qG _ (qG _ (qG _ (qG _ (qJ _ J))));rw[u,B] at H;rw[m] at G;exact⟨⟨H,G,⟨_,_,T⟩,M _ O,N _ _ Q⟩,fun c o e=>qG _ (qG _ (qG _ (qG _ (qG _ e)))),by rw[j7,I]⟩
theorem zcf{k1 k2:Bool}{a1 a2:Addr}{xs ys:Array Value} :
  PySem.Meets (Builtin.«zip.__new__» ⟨[.type "zip",.ref a1,.ref a2],[]⟩) (fun _ R s=>SeqK k1 s.heap a1 xs/\SeqK k2 s.heap a2 ys /\
   ∀H,Xy k1 k2 H (s.heap.objs.size+4) (s.heap.objs.size+2) (s.heap.objs.size+3) s.heap.objs.size (s.heap.objs.size+1) a1 a2 0->(∀c o,s.heap.get? c=some o->H.get? c=some o)->H.objs.size=s.heap.objs.size+5->R (.ok (.ret (.ref (s.heap.objs.size+4)))) { s with heap:=H }):=
 .of_wp fun l w A R s hq=>by
  obtain⟨hp,g,d,m,os⟩:=s;obtain⟨G,b,M⟩:=hq;have I:=sub_zip;have fin:∀{i u:Obj},(∀g:Heap,g.get? hp.objs.size=some i->ItrK k1 g hp.objs.size a1 0)->(∀(g:Heap) (n:Addr),g.get? n=some u->ItrK k2 g n a2 0)->i.isFreed=false->u.isFreed=false ->
    R (.ok (.ret (.ref ((((hp.push i).push u).push { cls:=.type "tuple",data:=.seq #[.ref hp.objs.size,.ref (hp.push i).objs.size] }).push { cls:=.type "tuple",data:=.seq #[.none,.none] }).objs.size))) ⟨zh hp i u,g,d,m,os⟩:=fun {i u} N O J L=>by
   obtain⟨A,B,C⟩:=zhu N O J L;have e:((((hp.push i).push u).push { cls:=.type "tuple",data:=.seq #[.ref hp.objs.size,.ref (hp.push i).objs.size] }).push { cls:=.type "tuple",data:=.seq #[.none,.none] }).objs.size=hp.objs.size+4:=by
    rw[j7,j7,j7,j7]
   rw[e];exact M _ A B C
  cases k1 with
  | true=>
   have D:Heap.IsList (Shared.heap ⟨hp,g,d,m,os⟩) a1 xs:=G;cases k2 with
   | true=>
    have L2:Heap.IsList (Shared.heap ⟨hp.push { cls:=.type "list_iterator",data:=.fields #[.ref a1,.int 0 0] },g,d,m,os⟩) a2 ys:=Heap.IsList.push b _;wp_walk using wpAny_pyIter_list D,wpAny_pyIter_list L2
    exact⟨_,rfl,fin (fun g e=>⟨_,e,rfl,rfl⟩) (fun g n e=>⟨_,e,rfl,rfl⟩) rfl rfl⟩
   | false=>
    have L2:Heap.IsTuple (Shared.heap ⟨hp.push { cls:=.type "list_iterator",data:=.fields #[.ref a1,.int 0 0] },g,d,m,os⟩) a2 ys:=Heap.IsTuple.push b _;wp_walk using wpAny_pyIter_list D,wpAny_pyIter_tuple L2
    exact⟨_,rfl,fin (fun g e=>⟨_,e,rfl,rfl⟩) (fun g n e=>⟨_,e,rfl,rfl⟩) rfl rfl⟩
  | false=>
   have D:Heap.IsTuple (Shared.heap ⟨hp,g,d,m,os⟩) a1 xs:=G;cases k2 with
   | true=>
    have L2:Heap.IsList (Shared.heap ⟨hp.push { cls:=.type "tuple_iterator",data:=.fields #[.ref a1,.int 0 0] },g,d,m,os⟩) a2 ys:=Heap.IsList.push b _;wp_walk using wpAny_pyIter_tuple D,wpAny_pyIter_list L2
    exact⟨_,rfl,fin (fun g e=>⟨_,e,rfl,rfl⟩) (fun g n e=>⟨_,e,rfl,rfl⟩) rfl rfl⟩
   | false=>
    have L2:Heap.IsTuple (Shared.heap ⟨hp.push { cls:=.type "tuple_iterator",data:=.fields #[.ref a1,.int 0 0] },g,d,m,os⟩) a2 ys:=Heap.IsTuple.push b _;wp_walk using wpAny_pyIter_tuple D,wpAny_pyIter_tuple L2
    exact⟨_,rfl,fin (fun g e=>⟨_,e,rfl,rfl⟩) (fun g n e=>⟨_,e,rfl,rfl⟩) rfl rfl⟩
theorem zb6{g i:Bool}{a1 a2:Addr}{u B:Array Value}{Q:Value->Shared->Prop}(h1:SeqK g s.heap a1 u)(h2:SeqK i s.heap a2 B)
  (h:∀b,Xy g i b (s.heap.objs.size+4) (s.heap.objs.size+2) (s.heap.objs.size+3) s.heap.objs.size (s.heap.objs.size+1) a1 a2 0->(∀c o,s.heap.get? c=some o->b.get? c=some o)->b.objs.size=s.heap.objs.size+5 ->
   Q (.ref (s.heap.objs.size+4)) { s with heap:=b }):wpAny (model l w) A (call (.type "zip") [.ref a1,.ref a2]) Q E s:=by
 refine callType_new F.called_zip (by decide) (F.typeCall_zip_2 _ _) (F.newCall_zip_2 _ _) (fun m=>F.args_object_init_3 m _ _) F.entry_zip_new (zcf (k1:=g) (k2:=i) (xs:=u) (ys:=B)) ⟨h1,h2,fun b Z k z=>?_⟩
 exact⟨⟨_,Z.zz,rfl⟩,h b Z k z⟩
end
theorem Inv.seqK{X:Cx}{c:List (Addr×Obj)}{σ:St}{H:Hp}{s:Shared}{g:Bool}{a:Addr}{i:List V}(I:Inv X c σ H s)(h:SqK X.K g H a i):∃b:List Value,Vals i b/\SeqK g s.heap a b.toArray/\i.length<=sizeLine:=by
 cases g with
 | true=>obtain⟨b,r,p,z⟩:=I.list h;exact⟨b,r,p.isList,z⟩
 | false=>obtain⟨b,r,p,z⟩:=I.tuple h;exact⟨b,r,p,z⟩
theorem Inv.seqK_inj{X:Cx}{b:List (Addr×Obj)}{σ:St}{H:Hp}{s:Shared}{c:Bool}{a:Addr}{i l:List V}(I:Inv X b σ H s)(h:SqK X.K c H a i)(g:SqK X.K c H a l):i=l:=by
 cases c with
 | true=>exact I.list_inj h g
 | false=>exact I.tuple_inj h g
theorem SqK.ne_fp{X:Cx}{c:List (Addr×Obj)}{σ:St}{H:Hp}{s:Shared}{l:Bool}{a b:Addr}{g:List V}(I:Inv X c σ H s)(h:SqK X.K l H a g)(f:xw X c H b):a≠b:=fun z=>by
 have m:∀o,X.K.lookup a=some o->False:=fun o e=>by
  have i:=I.mod.kin a o e;rcases f.2.2.2.1 with q | q
  ·exact I.ok.noex a o i (by rw[z];exact q)
  ·have:=zN (I.ok.bs a o i).1
   rw[z] at this;exact vz _ (jY this q)
 cases l with
 | true=>
  rcases(show SqL X.K H a g from h) with(q | ⟨o,q⟩) | ⟨o,_,_,q,_⟩
  ·rw[z,f.1] at q;cases q
  ·rw[z,f.1] at q;cases q
  ·exact m o q
 | false=>
  rcases(show SqT X.K H a g from h) with(q | ⟨o,q⟩) | ⟨o,_,_,q,_⟩
  ·rw[z,f.1] at q;cases q
  ·rw[z,f.1] at q;cases q
  ·exact m o q
def Itz(K:W.Frag)(g l:Bool)(a1 a2:Addr):It:=
 ⟨fun i H=>∃b c x y,SqK K g H a1 b/\SqK K l H a2 c/\b[i]? =some x/\c[i]? =some y,
  fun i H x m=>∃T u v,x=.ref T/\H T=none/\m=upd H T (.tup [u,v])/\(∀b,SqK K g H a1 b->b[i]? =some u)/\∀c,SqK K l H a2 c->c[i]? =some v,
  fun i H=>∃b c,SqK K g H a1 b/\SqK K l H a2 c/\(b.length<=i\/c.length<=i)⟩
theorem zcl{P:Program}{w:World}{K:W.Frag}{M:List Expr}{kk:Nat}{ag:Pos}{k1 k2:Bool}{a1 a2 z TI TO C D:Addr}(N:zbj z TI TO C D) :
  Zk P w K (.Tuple M kk ag) (Itz K k1 k2 a1 a2) [z,TI,TO,C,D] z (fun i h=>Xy k1 k2 h z TI TO C D a1 a2 i) where
 mem:=by simp
 obj:=fun i h Z b hb=>by
  obtain⟨a,U,q⟩:=Z.to;have e1:=Z.r1.obj;have e2:=Z.r2.obj;simp only[qg,wC,or_false] at hb;rcases hb with r | r | r | r | r
  ·subst r;exact⟨_,Z.zz,fun v q=>nomatch q⟩
  ·subst r;exact⟨_,Z.ti,fun v q=>nomatch q⟩
  ·subst r;exact⟨_,q,fun v q=>nomatch q⟩
  ·subst r;obtain⟨o,e,_,d⟩:=e1;exact⟨o,e,d⟩
  ·subst r;obtain⟨o,e,_,d⟩:=e2;exact⟨o,e,d⟩
 keep:=fun i h L Z k=>by
  obtain⟨a,U,q⟩:=Z.to;exact⟨k _ (by simp) _ Z.zz,k _ (by simp) _ Z.ti,⟨a,U,k _ (by simp) _ q⟩,Z.r1.at fun o e=>k _ (by simp) o e,Z.r2.at fun o e=>k _ (by simp) o e⟩
 item:=by
  intro X hP hw Y hc i T s σ H E I B Z hg;subst hP hw Y;obtain⟨xs,ys,x,y,g,l,hx,hy⟩:=hg;obtain⟨O,G,p1,ae⟩:=I.seqK g;obtain⟨Q,J,p2,af⟩:=I.seqK l;obtain⟨u1,ab,ah⟩:=G.get hx;obtain⟨u2,ac,ai⟩:=J.get hy;have sub:∀b∈[z,TO,C,D],b∈[z,TI,TO,C,D]:=fun b hb=>by
   simp only[qg,wC,or_false] at hb ⊢;rcases hb with r | r | r | r<;>simp[r]
  refine zbk N Z p1 p2 (fun b hb=>g.ne_fp I (B b (sub b hb))) (fun b hb=>l.ne_fp I (B b (sub b hb))) (by simpa using ab) (by simpa using ac) fun h1 zz ti to r1 r2 hT ak hk=>?_
  refine⟨_,rfl,wpAny_letOwnedTupleGo_zip zz fun h2 aj A=>?_⟩
  have zl:z<s.heap.objs.size:=zN Z.zz;obtain⟨ta,tb,to⟩:=to;refine⟨.ref s.heap.objs.size,upd H s.heap.objs.size (.tup [x,y]),?_,rfl,⟨_,x,y,rfl,I.hok.fresh (zQ _),rfl,fun am L=>by rw[I.seqK_inj L g];exact hx,fun an L=>by rw[I.seqK_inj L l];exact hy⟩,
   ⟨aj,A.extBut _ _ N.a ti,⟨ta,tb,A.extBut _ _ N.b to⟩,r1.at fun o e=>A.extBut _ o N.c e,r2.at fun o e=>A.extBut _ o N.d e⟩,fun b hb=>?_⟩
  ·exact XS (s:=s) (h':=h2) (t':=s.toks) (ch:=[z,TO,C,D]) (its:=[u1,u2]) I (fun b hb=>B b (sub b hb)) (zQ _) (fun b o hb e=>A.extBut _ o (fun q=>hb (by simp[q])) (hk b o hb e)) (by rw[sizeLine_eq];exact(by decide:2<=16777216)) (.cons ah (.cons ai .nil))
    (TupX.by (A.extBut _ _ (vn zl) hT))
  ·have a0:b<s.heap.objs.size:=by
    have e1:=Z.r1.obj;have e2:=Z.r2.obj;obtain⟨a,U,q⟩:=Z.to;simp only[qg,wC,or_false] at hb;rcases hb with r | r | r | r | r
    ·subst r;exact zl
    ·subst r;exact zN Z.ti
    ·subst r;exact zN q
    ·subst r;obtain⟨o,e,_⟩:=e1;exact zN e
    ·subst r;obtain⟨o,e,_⟩:=e2;exact zN e
   rw[zj (qw a0)];exact(B b hb).1
 done:=by
  intro X hP hw Y hc i T s σ H E I B Z hg;subst hP hw Y;obtain⟨xs,ys,g,l,aa⟩:=hg;obtain⟨O,G,p1,ae⟩:=I.seqK g;obtain⟨Q,J,p2,af⟩:=I.seqK l;have sub:∀b∈[z,TO,C,D],b∈[z,TI,TO,C,D]:=fun b hb=>by
   simp only[qg,wC,or_false] at hb ⊢;rcases hb with r | r | r | r<;>simp[r]
  have tr:∀b u,H b=some u->b∉[z,TO,C,D]:=fun b u e hb=>by rw[(B b (sub b hb)).1] at e;cases e
  refine zcg (I.ok.hd hc) N Z p1 p2 (fun b hb=>g.ne_fp I (B b (sub b hb))) (fun b hb=>l.ne_fp I (B b (sub b hb))) ?_ fun L hk=>⟨rfl,?_⟩
  ·have l1:=G.length
   have l2:=J.length;rcases aa with q | q
   ·exact .inl (by simp;omega)
   ·exact .inr (by simp;omega)
  ·refine I.step (g':=s.gens) (d':=s.drawn) (t':=s.toks) (ch:=[z,TO,C,D]) (fun b hb=>?_) (fun b o _ _ hc e _=>hk b o hc e) (fun b o _ _ hc e _=>⟨o.slots,hk b o hc e⟩) (fun _ _ _ _ n=>n) (fun b o hc e=>⟨o,hk b o hc e⟩)
    (fun _ _ e=>e) (fun _ _ _ e=>e) (fun b ps e=>⟨#[],by rw[e];simp⟩) (fun m hm=>?_) (fun b u e=>?_) I.bare
   ·obtain⟨_,g1,_,g3,g4,g5⟩:=B b (sub b hb)
    exact⟨g3,g1,g4,g5⟩
   ·obtain⟨o,es,ep,ho,r⟩:=hm
    exact⟨o,es,ep,hk _ o (fun z=>(B _ (sub _ z)).2.1 rfl) ho,r⟩
   ·refine(I.hok b u e).stay (fun c v hc q=>hk c v ?_ q) (fun _ q=>q) fun _ _ q=>q
    rcases hc with z | z
    ·rw[z];exact tr b u e
    ·exact tr c _ z
 self:=fun _ _ _ _ _ Z h=>wpAny_pyIter_zip Z.zz h
section
variable{X:Cx}
def zi2(K:W.Frag)(i:TA):TI:=fun σ H R=>i σ H fun l b=>∃c g a1 a2,l=[.ref a1,.ref a2]/\(∃m,SqK K c b a1 m)/\(∃s,SqK K g b a2 s)/\R (Itz K c g a1 a2) b
theorem Yl{l m:Expr}{M:TA}{p B tp:Pos}{i:List Expr}{kk:Nat}(hg:Gl X "zip")(U:X.mg "zip" = none)(T:PA X [l,m] M)(hs:starEach [l,m] X.env=[(false,eval l X.env),(false,eval m X.env)]:=by rfl)(A:starEach [m] X.env=[(false,eval m X.env)]:=by rfl) :
  PI X (.Tuple i kk tp) (.Call (.Name "zip" p) [l,m] [] B) (zi2 X.K M):=by
 intro c s σ H R I h;refine Call_ (vD I hg U boot_zip (Jb (thn (T B c s σ H _ I h) fun us s1 ⟨vs,G,g,r1,q1⟩=>?_) (by rw[hs,A]) (by rw[A];rfl)))
 obtain⟨k1,k2,a1,a2,e,⟨xs,C⟩,⟨ys,D⟩,q⟩:=q1;subst e;obtain⟨u,u',rfl,ru,E⟩:=ZI r1;cases ru;cases E;obtain⟨J,ab,p1,a0⟩:=g.seqK C;obtain⟨L,ac,p2,aa⟩:=g.seqK D;refine zb6 p1 p2 fun Q Z hk Y=>wpAny_pyIter_zip Z.zz ?_
 have O:Inv X c σ G { s1 with heap:=Q }:=g.kept (t':=s1.toks) hk;have N:zbj (s1.heap.objs.size+4) (s1.heap.objs.size+2) (s1.heap.objs.size+3) s1.heap.objs.size (s1.heap.objs.size+1):=by
  constructor<;>(intro e;have e':(_:Nat)=_:=e;omega)
 refine⟨s1.heap.objs.size+4,_,_,_,G,rfl,O,zcl N,Z,fun b hb=>?_,q⟩
 have w:s1.heap.objs.size<=b:=by
  simp only[qg,wC,or_false] at hb;rcases hb with r | r | r | r | r<;>(rw[r];first| exact Nat.le_add_right _ _ | exact zQ _)
 exact g.fpOk w (g.hok.fresh w)
end
def TyN(K:W.Frag)(H:Hp)(x:V)(T:String):Prop:=match x with
 | .non=>T = "NoneType"
 | .bl _=>T = "bool"
 | .int _=>T = "int"
 | .str _=>T = "str"
 | .ref a=>(T = "list" /\ ∃b,SqL K H a b)\/(T = "tuple" /\ ∃b,SqT K H a b)
 | _=>False
def yV(T C:String):Bool:=T==C||(T == "bool" && C == "int")
def XD:List String:=["NoneType","bool","int","str","list","tuple"]
def X0:List String:=["bool","int","str","list","tuple","dict"]
theorem ze4{K:W.Frag}:∀T∈XD,∀C∈X0,PySem.W.kitOne K (.type T) (.type C)=some (yV T C):=by
 intro T c C b;simp only[XD,X0,qg,wC,or_false] at c b;rcases c with rfl | rfl | rfl | rfl | rfl | rfl<;>rcases b with rfl | rfl | rfl | rfl | rfl | rfl<;>kernel_rfl
theorem TyN.mem{K:W.Frag}{H:Hp}{x:V}{T:String}(h:TyN K H x T):T∈XD:=by
 cases x with
 | non=>cases(show T=_ from h);decide
 | bl _=>cases(show T=_ from h);decide
 | int _=>cases(show T=_ from h);decide
 | str _=>cases(show T=_ from h);decide
 | ref a=>rcases(show _\/_ from h) with ⟨e,_⟩ | ⟨e,_⟩<;>(subst e;decide)
 | _=>exact(show False from h).elim
section
variable{X:Cx}{b:List (Addr×Obj)}{σ:St}{H:Hp}{s:Shared}
theorem ze3{x:V}{u:Value}{T:String}(I:Inv X b σ H s)(c:RelV x u)(ty:TyN X.K H x T):∃P:Heap->Prop,P s.heap/\PySem.W.KitX X.K u (.type T) P/\u≠.builtin "__main__.__loader__#opaque" :=by
 cases x with
 | non=>cases(show u=Value.none from c);cases(show T=_ from ty);exact⟨_,True.intro,PySem.W.kitx_none,fun z=>nomatch z⟩
 | bl y=>cases(show u=Value.bool y from c);cases(show T=_ from ty);exact⟨_,True.intro,PySem.W.kitx_bool,fun z=>nomatch z⟩
 | int i=>obtain⟨t,q⟩:=(show ∃t,u=Value.int i t from c);cases q;cases(show T=_ from ty);exact⟨_,True.intro,PySem.W.kitx_int,fun z=>nomatch z⟩
 | str y=>obtain⟨t,q⟩:=(show ∃t,u=Value.str y t from c);cases q;cases(show T=_ from ty);exact⟨_,True.intro,PySem.W.kitx_str,fun z=>nomatch z⟩
 | ref a=>
  cases(show u=Value.ref a from c)
  rcases(show _\/_ from ty) with ⟨e,l,hx⟩ | ⟨e,l,hx⟩
  ·subst e
   obtain⟨g,r,⟨o,n,e1,e2,_⟩,_⟩:=I.list hx;exact⟨_,⟨o,e1,e2⟩,PySem.W.kitx_list,fun z=>nomatch z⟩
  ·subst e
   obtain⟨g,r,⟨o,e1,e2,_⟩,_⟩:=I.tuple hx;exact⟨_,⟨o,e1,e2⟩,PySem.W.kitx_tuple,fun z=>nomatch z⟩
 | _=>exact(show False from ty).elim
end
section
variable{X:Cx}
inductive Jx(K:W.Frag)(b:List V)(H:Hp)(Q:VK):Prop
 | mk (x T C:_) (_:b=[x,.ty C]) (_:TyN K H x T) (_:C∈X0) (_:Q (.bl (yV T C)) H):Jx K b H Q
theorem xT:CallR X (.builtin "isinstance") (Jx X.K):=by
 intro c s σ H D B Q I r h;obtain⟨x,T,C,rfl,ty,g,q⟩:=h;obtain⟨u,A,rfl,m,b⟩:=ZI r;cases(show A=Value.type C from b)
 obtain⟨P,i,Z,l⟩:=ze3 I m ty;exact PySem.W.kia_one Z I.kIn i (ze4 T ty.mem C g) l fun w=>⟨.bl _,H,I.tok w,rfl,q⟩
end
inductive Dat where
 | non | bl (b:Bool) | int (i:Int) | str (x:Str) | lst (c:List Dat) | tup (c:List Dat)
mutual
def Rep(K:W.Frag)(H:Hp):Dat->V->Prop
 | .non,v=>v=.non
 | .bl b,v=>v=.bl b
 | .int i,v=>v=.int i
 | .str x,v=>v=.str x
 | .lst g,v=>∃a c,v=.ref a/\SqL K H a c/\Reps K H g c
 | .tup g,v=>∃a c,v=.ref a/\SqT K H a c/\Reps K H g c
def Reps(K:W.Frag)(H:Hp):List Dat->List V->Prop
 | [],b=>b=[]
 | d::c,b=>∃x r,b=x::r/\Rep K H d x/\Reps K H c r
end
mutual
def Dat.dp:Dat->Nat
 | .lst b=>Dat.dps b+1
 | .tup b=>Dat.dps b+1
 | _=>0
def Dat.dps:List Dat->Nat
 | []=>0
 | d::b=>max d.dp (Dat.dps b)
end
theorem Same.sqT{K:W.Frag}{H b:Hp}{a:Addr}{c:List V}(e:Same H b)(h:SqT K H a c):SqT K b a c:=by
 rcases h with(h | ⟨o,h⟩) | h
 ·exact .inl (.inl (e _ _ h))
 ·exact .inl (.inr ⟨o,e _ _ h⟩)
 ·exact .inr h
mutual
theorem Rep.same{K:W.Frag}{H g:Hp}(e:Same H g):∀{d:Dat} {v:V},Rep K H d v->Rep K g d v
 | .non,_,h=>h
 | .bl _,_,h=>h
 | .int _,_,h=>h
 | .str _,_,h=>h
 | .lst _,_,h=>by
  obtain⟨a,c,e1,e2,b⟩:=h;exact⟨a,c,e1,e.seq e2,Reps.same e b⟩
 | .tup _,_,h=>by
  obtain⟨a,c,e1,e2,b⟩:=h;exact⟨a,c,e1,e.sqT e2,Reps.same e b⟩
theorem Reps.same{K:W.Frag}{H b:Hp}(e:Same H b):∀{c:List Dat} {g:List V},Reps K H c g->Reps K b c g
 | [],_,h=>h
 | _::_,_,h=>by
  obtain⟨x,r,e1,e2,i⟩:=h;exact⟨x,r,e1,Rep.same e e2,Reps.same e i⟩
end
theorem Reps.len{K:W.Frag}{H:Hp}:∀{b:List Dat} {xs:List V},Reps K H b xs->xs.length=b.length
 | [],_,h=>by rw[show _=_ from h];rfl
 | _::_,_,h=>by
  obtain⟨x,r,e1,e2,c⟩:=h;rw[e1,jU,jU,Reps.len c]
theorem Reps.get{K:W.Frag}{H:Hp}:∀{b:List Dat} {c:List V} {i:Nat} {x:V},Reps K H b c->c[i]? =some x->∃d,b[i]? =some d/\Rep K H d x
 | [],_,_,_,h,e=>by rw[show _=_ from h] at e;simp at e
 | d::b,_,i,x,h,e=>by
  obtain⟨y,r,e1,e2,l⟩:=h;subst e1;cases i with
  | zero=>simp at e;subst e;exact⟨d,rfl,e2⟩
  | succ i=>
   obtain⟨g,m,s⟩:=Reps.get (i:=i) l (by simpa using e)
   exact⟨g,by simpa using m,s⟩
theorem zc{H:Hp}{a:Addr}{o:HO}(h:H a=none):Same H (upd H a o):=fun b u e=>by rw[zj (zg e h)];exact e
def zb4:List V->List V->Bool
 | [],[]=>true
 | x::b,y::c=>eqV x y&&zb4 b c
 | _,_=>false
theorem QU:∀(b c:List V),(((List.range (min b.length c.length)).all fun j=>eqV (b.getD j .non) (c.getD j .non))&&(b.length==c.length))=zb4 b c
 | [],[]=>rfl
 | [],y::c=>by simp[zb4]
 | x::b,[]=>by simp[zb4]
 | x::b,y::c=>by
  have g:=QU b c;have e1:min (x::b).length (y::c).length=min b.length c.length+1:=by simp only[jU];omega
  rw[e1,List.range_succ_eq_map,List.all_cons,Je];unfold zb4;rw[<- g,Bool.and_assoc];congr 1
  have e2:((x::b).length==(y::c).length)=(b.length==c.length):=by
   rw[wB];simp
  rw[e2];congr 1
section
variable{X:Cx}
end
structure Dfn(P:Program)(w:World)(K:W.Frag)(mg:Str->Option Value)(base:Heap)(x:Str)(k:Nat)(ps:List Str)(sp:Sp):Prop where
 ex:∃f fd,FnOk P w K mg base CX0 k f fd ps sp/\mg x=some (.ref f)/\PySem.W.keepIn K (.ref f)=true/\Binds K fd ps []
theorem Dfn.imp{P:Program}{w:World}{K:W.Frag}{g:Str->Option Value}{b:Heap}{x:Str}{k:Nat}{i:List Str}{l c:Sp}(D:Dfn P w K g b x k i l)(h:∀m H Q E,c m H Q E->l m H Q E):Dfn P w K g b x k i c:=by
 obtain⟨f,s,F,r⟩:=D.ex;exact⟨f,s,F.imp h,r⟩
section
variable{X:Cx}{x:Str}{k:Nat}{i:List Str}{g:Sp}{p c:Pos}{e:Expr}{b:List Expr}{t:TA}
theorem zi(D:Dfn X.prog X.w X.K X.mg X.base x k i g)(u:Room k X.A)(hg:Gl X x)(m:PA X (e::b) t)(hd:(x==("__debug__":Str))=false:=by decide)
  (hs:starEach (e::b) X.env=(false,eval e X.env)::starEach b X.env:=by rfl) (l:(backTo c (starEach b X.env)).any (·.1)=false:=by rfl):PE X (.Call (.Name x p) (e::b) [] c) (zfq g [] E0 t):=by
 obtain⟨f,w,F,s,hk,hb⟩:=D.ex;exact zeu F u hg s hk hb .nil zh9 m hd hs l
end
theorem ifT{b:Bool}{A B:Prop}(h:b=true)(q:A):if b=true then A else B:=by rw[zu h];exact q
theorem ifF{b:Bool}{A B:Prop}(h:b=false)(q:B):if b=true then A else B:=by rw[zo (by rw[h];exact qH)];exact q
theorem Yy{K:W.Frag}{k1 k2:Bool}{a1 a2:Addr}{xs ys:List V}{g:TG}{O:TT}{M:TE}{A:St}{n:Nat}{R:List V->Hp->Prop}{H:Hp}(Pv:Nat->List V->Hp->Prop)(h0:Pv 0 [] H)
  (h1:∀i c H,Pv i c H->SqK K k1 H a1 xs/\SqK K k2 H a2 ys)
  (hs:∀i x y c H T,xs[i]? =some x->ys[i]? =some y->Pv i c H->H T=none->g (.ref T) A (upd H T (.tup [x,y])) fun s D=>s.drop n=A.drop n/\O s D fun b w=>
   if b=true then M s w fun v E=>c.length<sizeLine/\Pv (i+1) (c++[v]) E else Pv (i+1) c w)
  (hd:∀c H,Pv (min xs.length ys.length) c H->c.length<=sizeLine/\R c H) :
  ∃W:Nat->Nat->List V->Hp->Prop,(∃m,W 0 m [] H)/\∀i m c l,W i m c l ->
   ((Itz K k1 k2 a1 a2).stop i l/\c.length<=sizeLine/\R c l) \/
   ((Itz K k1 k2 a1 a2).go i l/\∃N:List V->Hp->Prop,(∀c B,N c B->∃L,L<m/\W (i+1) L c B)/\∀x C,(Itz K k1 k2 a1 a2).yld i l x C->g x A C fun s D=>s.drop n=A.drop n/\O s D fun b w=>
    if b=true then M s w fun y E=>c.length<sizeLine/\N (c++[y]) E else N c w):=by
 refine⟨fun i m c l=>m=min xs.length ys.length-i/\i<=min xs.length ys.length/\Pv i c l,⟨_,rfl,qX _,h0⟩,?_⟩
 rintro i m c l ⟨rfl,hi,p⟩;obtain⟨I,J⟩:=h1 i c l p;by_cases G:i<min xs.length ys.length
 ·have U:i<xs.length:=by omega
  have Y:i<ys.length:=by omega
  refine .inr ⟨⟨xs,ys,xs[i],ys[i],I,J,by simp[U],by simp[Y]⟩,Pv (i+1),fun a0 B p'=>⟨_,by omega,rfl,G,p'⟩,fun x C y=>?_⟩
  obtain⟨T,u,v,e1,Q,e2,y1,y2⟩:=y;subst e1 e2;exact hs i u v c l T (y1 xs I) (y2 ys J) p Q
 ·have e:i=min xs.length ys.length:=by omega
  subst e;obtain⟨z1,z2⟩:=hd c l p;exact .inl ⟨⟨xs,ys,I,J,by omega⟩,z1,z2⟩
theorem y6{lo:Int}{N n:Nat}{g:TG}{J:TT}{I:TE}{A:St}{R:List V->Hp->Prop}{H:Hp}(Pv:Nat->List V->Hp->Prop)(h0:Pv 0 [] H)
  (hs:∀i c H,i<N->Pv i c H->g (.int (lo+i)) A H fun u D=>u.drop n=A.drop n/\J u D fun b w=>if b=true then I u w fun v E=>c.length<sizeLine/\Pv (i+1) (c++[v]) E else Pv (i+1) c w)
  (hd:∀c H,Pv N c H->c.length<=sizeLine/\R c H) :
  ∃W:Nat->Nat->List V->Hp->Prop,(∃m,W 0 m [] H)/\∀i m c l,W i m c l ->
   ((Itr lo N).stop i l/\c.length<=sizeLine/\R c l) \/
   ((Itr lo N).go i l/\∃M:List V->Hp->Prop,(∀c B,M c B->∃G,G<m/\W (i+1) G c B)/\∀x C,(Itr lo N).yld i l x C->g x A C fun u D=>u.drop n=A.drop n/\J u D fun b w=>
    if b=true then I u w fun y E=>c.length<sizeLine/\M (c++[y]) E else M c w):=by
 refine⟨fun i m c l=>m=N-i/\i<=N/\Pv i c l,⟨_,rfl,qX _,h0⟩,?_⟩
 rintro i m c l ⟨rfl,U,p⟩;by_cases s:i<N
 ·refine .inr ⟨s,Pv (i+1),fun T B L=>⟨_,by omega,rfl,s,L⟩,fun x C y=>?_⟩
  obtain⟨e1,e2⟩:=y;subst e1 e2;exact hs i c _ s p
 ·have e:i=N:=by omega
  subst e;obtain⟨O,Q⟩:=hd c l p;exact .inl ⟨zQ _,O,Q⟩
def wX(sn on:List (Str×NameKind))(N own b:List Str)(c:List Nat):Bool:=
 ZR sn on N b c&&own.all (fun x=>sn.lookup x==some .local)&&decide (own++b).Nodup
theorem vV{sn on:List (Str×NameKind)}{N own b:List Str}{c:List Nat}(h:wX sn on N own b c=true):ZR sn on N b c=true/\(∀x∈own,sn.lookup x=some .local)/\(own++b).Nodup:=by
 unfold wX at h;rw[j8,j8,xB] at h;exact⟨h.1.1,fun x hx=>by simpa using h.1.2 x hx,qQ h.2⟩
section
variable{X:Cx}{c b:Expr}{g:List Expr}{scope:Scope}{l m D E:Pos}{A:TI}{w:TT}{u:TE}{x y:Str}{B:Nat}
theorem wd{G:List Str}{C:Addr}{s:Shared}{H:Hp}{I:List Addr}{i:Nat}(J:scope.names.lookup x=some .local)(M:G.Nodup)(L:G[i]? =some x):PG (zZ X G scope C s H I) (.Name x m) (vm i):=
 zA (X:=zZ X G scope C s H I) M L (.inl (lookup_relabel_local J)) (.inr (lookup_relabel_local J))
theorem jZ(G:List Str)(I:List Nat)(hc:X.calm=true)(hk:scope.kind=.function)(hb:wX scope.names X.env.scope.names X.N [x] G I=true)(N:PI X (.Name x m) b A)
  (M:∀C s H i,PF (zZ X ([x]++G) scope C s H i) g w) (L:∀C s H i,PE (zZ X ([x]++G) scope C s H i) c u)
  (hs:∀x,foldedSetIterable b X.env x=pure x:=by intro _;rfl):PE X (.ListComp c [⟨.Name x m,b,g,0⟩] scope l) (tLC A 1 I (vm 0) w u):=by
 obtain⟨h1,h2,J⟩:=vV hb;exact zfU [x] G I hc hk h1 N (fun C s H i=>wd (h2 x (by simp)) J rfl) M L hs
theorem wj(G:List Str)(I:List Nat)(hc:X.calm=true)(hk:scope.kind=.function)(hb:wX scope.names X.env.scope.names X.N [x,y] G I=true)(N:PI X (.Tuple [.Name x m,.Name y D] B E) b A)
  (M:∀C s H i,PF (zZ X ([x,y]++G) scope C s H i) g w) (L:∀C s H i,PE (zZ X ([x,y]++G) scope C s H i) c u)
  (hs:∀x,foldedSetIterable b X.env x=pure x:=by intro _;rfl):PE X (.ListComp c [⟨.Tuple [.Name x m,.Name y D] B E,b,g,0⟩] scope l) (tLC A 2 I (zb0 X.K 2 (yk (vm 0) (yk (vm 1) zdx))) w u):=by
 obtain⟨h1,h2,J⟩:=vV hb;refine zfU [x,y] G I hc hk h1 N (fun C s H i=>?_) M L hs
 exact jN (X:=zZ X ([x,y]++G) scope C s H i) hc (zK (wd (h2 x (by simp)) J rfl) (zK (wd (h2 y (by simp)) J rfl) jv))
end
def tWk(t:TS):TS:=fun D σ H=>∃J:St->Hp->Prop,t { D with nx:=J } σ H/\∀c b,J c b->D.nx c b
theorem yb{X:Cx}{st:Stmt}{t:TS}(h:PS X st t):PS X st (tWk t):=by
 intro b s σ H D I l;obtain⟨J,m,w⟩:=l;refine thn (h b s σ H _ I m) fun f s1 q=>?_
 cases f with
 | next=>obtain⟨g,c,i,z⟩:=q;exact⟨g,c,i,w g c z⟩
 | brk=>exact q
 | cont=>exact q
 | ret u=>exact q
def Dat.ok:Nat->Dat->Prop
 | n+1,.lst b=>b.length<=1000000/\∀d∈b,Dat.ok n d
 | n+1,.tup b=>b.length<=1000000/\∀d∈b,Dat.ok n d
 | 0,.lst _=>False
 | 0,.tup _=>False
 | _,_=>True
def Dat.tyN:Dat->String
 | .non=> "NoneType" | .bl _=> "bool" | .int _=> "int" | .str _=> "str" | .lst _=> "list" | .tup _=> "tuple"
theorem Rep.ty{K:W.Frag}{H:Hp}{d:Dat}{v:V}(h:Rep K H d v):TyN K H v d.tyN:=by
 cases d with
 | non=>rw[show v=_ from h];exact rfl
 | bl b=>rw[show v=_ from h];exact rfl
 | int b=>rw[show v=_ from h];exact rfl
 | str b=>rw[show v=_ from h];exact rfl
 | lst g=>obtain⟨a,c,rfl,e,_⟩:=h;exact .inl ⟨rfl,c,e⟩
 | tup g=>obtain⟨a,c,rfl,e,_⟩:=h;exact .inr ⟨rfl,c,e⟩
mutual
def Dat.py:Dat->PyData
 | .non=>.none
 | .bl b=>.bool b
 | .int i=>.int i
 | .str x=>.str x
 | .lst c=>.list (Dat.pys c)
 | .tup c=>.tuple (Dat.pys c)
def Dat.pys:List Dat->List PyData
 | []=>[]
 | d::b=>d.py::Dat.pys b
end
mutual
def Dat.shw:Dat->Bool
 | .int i=>decide (i.natAbs<1000000000000)
 | .str x=>x.cps.toList.all fun c=>decide (c<1000000)
 | .lst b=>Dat.shws b
 | .tup b=>Dat.shws b
 | _=>true
def Dat.shws:List Dat->Bool
 | []=>true
 | d::b=>d.shw&&Dat.shws b
end
mutual
def Dat.blk:Dat->Nat
 | .str x=>x.cps.size
 | .lst b=>Dat.blks b
 | .tup b=>Dat.blks b
 | _=>0
def Dat.blks:List Dat->Nat
 | []=>0
 | d::b=>d.blk+1+Dat.blks b
end
mutual
theorem Dat.py_blk:∀d:Dat,d.py.bulk=d.blk
 | .non=>rfl
 | .bl _=>rfl
 | .int _=>rfl
 | .str _=>rfl
 | .lst b=>Dat.pys_blk b
 | .tup b=>Dat.pys_blk b
theorem Dat.pys_blk:∀b:List Dat,PyData.bulkAll (Dat.pys b)=Dat.blks b
 | []=>rfl
 | d::b=>by
  show PyData.bulk d.py+1+PyData.bulkAll (Dat.pys b)=d.blk+1+Dat.blks b;rw[Dat.py_blk d,Dat.pys_blk b]
end
theorem zeY{n:Nat}(h:n<1000000000000):n.log2<1920:=by
 by_cases h0:n=0
 ·rw[h0];decide
 ·exact Jd ((Nat.log2_lt h0).mpr (Jd h (by decide:1000000000000<2^40))) (by decide)
mutual
theorem Dat.py_short:∀d:Dat,d.shw=true->d.py.leavesShort 13=true/\d.py.showable=true/\d.py.hasDict=false
 | .non,_=>⟨rfl,rfl,rfl⟩
 | .bl _,_=>⟨rfl,rfl,rfl⟩
 | .int i,h=>by
  have b:i.natAbs<1000000000000:=qQ h;refine⟨qk (PyData.shown_int_le b),qk (zeY b),rfl⟩
 | .str x,h=>by
  refine⟨?_,rfl,rfl⟩
  have b:(x.cps.toList.all fun c=>decide (c<1000000))=true:=h
  show(x.cps.toList.all fun c=>decide (c<16^8))=true
  rw[xB] at b ⊢;intro c hc;have:=qQ (b c hc);exact qk (by omega)
 | .lst g,h=>Dat.pys_short g h
 | .tup g,h=>Dat.pys_short g h
theorem Dat.pys_short:∀b:List Dat,Dat.shws b=true->PyData.leavesShortAll 13 (Dat.pys b)=true/\PyData.showableAll (Dat.pys b)=true/\PyData.hasDictAll (Dat.pys b)=false
 | [],_=>⟨rfl,rfl,rfl⟩
 | d::b,h=>by
  have c:(d.shw&&Dat.shws b)=true:=h;rw[j8] at c;obtain⟨a1,a2,a3⟩:=Dat.py_short d c.1;obtain⟨b1,b2,b3⟩:=Dat.pys_short b c.2;refine⟨?_,?_,?_⟩
  ·show(PyData.leavesShort 13 d.py&&PyData.leavesShortAll 13 (Dat.pys b))=true
   rw[a1,b1];rfl
  ·show(PyData.showable d.py&&PyData.showableAll (Dat.pys b))=true
   rw[a2,b2];rfl
  ·show(PyData.hasDict d.py||PyData.hasDictAll (Dat.pys b))=false
   rw[a3,b3];rfl
end
mutual
theorem Rep.reads{X:Cx}{g:List (Addr×Obj)}{σ:St}{H:Hp}{s:Shared}(I:Inv X g σ H s):∀{d:Dat} {v:V} {u:Value},Rep X.K H d v->RelV v u->∃l,Reads s.heap u d.py l
 | .non,v,u,h,r=>by cases(show v=_ from h);cases(show u=_ from r);exact⟨_,.none⟩
 | .bl b,v,u,h,r=>by cases(show v=_ from h);cases(show u=_ from r);exact⟨_,.bool b⟩
 | .int i,v,u,h,r=>by cases(show v=_ from h);obtain⟨t,rfl⟩:=r;exact⟨_,.int i t⟩
 | .str x,v,u,h,r=>by cases(show v=_ from h);obtain⟨t,rfl⟩:=r;exact⟨_,.str x t⟩
 | .lst C,v,u,h,r=>by
  obtain⟨a,E,rfl,hx,w⟩:=h;cases(show u=_ from r)
  obtain⟨A,B,D,_⟩:=I.list hx;obtain⟨o,e,c,n,m⟩:=D.isList;obtain⟨l,q⟩:=Reps.reads I w B;exact⟨_,.list e c m (by simpa using q)⟩
 | .tup C,v,u,h,r=>by
  obtain⟨a,E,rfl,hx,w⟩:=h;cases(show u=_ from r)
  obtain⟨A,B,⟨o,e,c,n,m⟩,_⟩:=I.tuple hx;obtain⟨l,q⟩:=Reps.reads I w B;exact⟨_,.tuple e c m (by simpa using q)⟩
theorem Reps.reads{X:Cx}{b:List (Addr×Obj)}{σ:St}{H:Hp}{s:Shared}(I:Inv X b σ H s):∀{i:List Dat} {c:List V} {g:List Value},Reps X.K H i c->Vals c g->∃l,ReadsAll s.heap g (Dat.pys i) l
 | [],c,g,h,r=>by cases(show c=_ from h);cases r;exact⟨_,.nil⟩
 | d::i,c,g,h,r=>by
  obtain⟨x,C,rfl,h1,h2⟩:=h;cases r with
  | cons w A=>
   obtain⟨l,m⟩:=Rep.reads I h1 w;obtain⟨B,u⟩:=Reps.reads I h2 A;exact⟨_,.cons m u⟩
end
section
variable{X:Cx}
inductive ZZ(K:W.Frag)(b:List V)(H:Hp)(Q:VK):Prop
 | mk (a:Addr) (d:Dat) (_:b=[.ref a]) (_:Rep K H d (.ref a)) (_:d.shw=true) (_:d.blk<=1048576) (_:d.py.depth<=60) (_:Q (.str d.py.shown) H):ZZ K b H Q
theorem Xn(hg:X.A.guards=some [])(hu:X.A.units+64<cLine):CallR X (.type "str") (ZZ X.K):=by
 intro b s σ H E D Q I r h;obtain⟨a,d,rfl,g,h1,h2,A,q⟩:=h;obtain⟨u,rfl,c⟩:=vF r;obtain⟨m,i⟩:=g.reads I c;cases(show u=_ from c)
 obtain⟨s1,s2,l⟩:=Dat.py_short d h1;refine str_of_reads i s2 (PyData.noDict_hsm l) hg (by omega) (fun _ _ e=>e) (fun w u C hk=>⟨.str d.py.shown,H,I.kept hk,⟨u,rfl⟩,q⟩) ?_
 exact PyData.shown_fits_bulk (B:=13) (by decide) (by decide) s1 (by rw[Dat.py_blk];exact h2)
inductive ZY(K:W.Frag)(c:List V)(H:Hp)(Q:VK):Prop
 | mk (p:Addr) (b:List Int) (_:c=[.ref p]) (_:SqL K H p (b.map V.int)) (_:(∀z∈b,0<=z/\z<=1000000)) (_:b.length<=100000) (_:Q (.int b.sum) H):ZY K c H Q
theorem Xm(hc:X.calm=true):CallR X (.builtin "sum") (ZY X.K):=by
 intro T s σ H xs us Q I r h;obtain⟨p,c,rfl,hq,O,hn,q⟩:=h;obtain⟨u,rfl,ru⟩:=vF r;cases(show u=_ from ru)
 obtain⟨g,Y,pl,_⟩:=I.list hq;have C:=pl.isList;have D:p≠s.heap.objs.size:=by
  obtain⟨o,e,_⟩:=C;exact qw (zN e)
 have B:g.length=c.length:=by have:=Y.length;rw[zp] at this;omega
 have E:∀j,j<=c.length->0<=(c.take j).sum/\(c.take j).sum<=1000000*(j:Int):=by
  intro j;induction j with
  | zero=>intro _;simp
  | succ j ih=>
   intro N;have:=ih (by omega)
   have e:c.take (j+1)=c.take j++[c[j]'(by omega)]:=by rw[yy]
   have b:=O (c[j]'(by omega)) (vY _)
   rw[e,YM];simp only[List.sum_cons,List.sum_nil];constructor
   ·omega
   ·have:(1000000:Int)*((j+1:Nat):Int)=1000000*(j:Int)+1000000:=by omega
    omega
 refine call_sum_walk (wpAny_pyIter_list C ?_)
 refine⟨s.heap.objs.size,_,_,_,_,_,fun i=>c.getD i 0,rfl,Jc (prog:=X.prog) (w:=X.w) (A:=X.A.in1) (I.ok.hd hc) _ p D g.toArray,⟨⟨_,qJ _ rfl,rfl,rfl⟩,C.push _⟩,fun b hb=>?_,fun i v hP=>?_,fun j N=>?_,fun h' tk t' hk=>?_⟩
 ·have G:(s.heap.push { cls:=.type "list_iterator",data:=.fields #[.ref p,.int 0 0] }).objs.size=s.heap.objs.size+1:=j7 ..
  show b<(s.heap.push _).objs.size;rw[G];rcases qg.mp hb with z | z
  ·rw[z];exact ZU _
  ·rw[zR.mp z]
   obtain⟨o,e,_⟩:=C;exact Zh (zN e)
 ·have e1:g[i]? =some v:=by simpa using hP
  have M:i<c.length:=by have h1:=(zL.mp e1).1;omega
  obtain⟨u',L,J⟩:=Y.get (i:=i) (x:=.int c[i]) (by simp[M])
  rw[e1] at L;cases L
  obtain⟨t,e⟩:=J;exact⟨t,by rw[e];simp[M]⟩
 ·have m:j<c.length:=by simp only[z9] at N;omega
  have a1:=O c[j] (vY m);have a2:=E (j+1) (by omega)
  have l:(2:Int)^63=9223372036854775808:=by decide
  refine⟨?_,?_⟩
  ·show InLong (c.getD j 0)
   rw[show c.getD j 0=c[j] by simp[m]]
   unfold InLong;rw[l];omega
  ·rw[preSum_getD]
   unfold InLong;rw[l];have:((j+1:Nat):Int)<=100000:=by omega
   omega
 ·have k:∀b o,s.heap.get? b=some o->h'.get? b=some o:=fun b o e=>hk b o (by simp;exact qw (zN e)) (qG _ e)
  refine⟨.int c.sum,H,I.kept k,⟨t',?_⟩,q⟩
  rw[preSum_getD];have:c.take g.toArray.size=c:=by rw[z9,B,qY]
  rw[this]
end
section
variable{X:Cx}{b:Expr}
end
section
variable{X:Cx}
inductive zaK(x:V)(u:List V)(H:Hp)(Q:VK):Prop
 | mk (l:Addr) (s:List V) (i:Int) (y:V) (_:x=.ref l) (_:u=[.int i,y]) (_:H l=some (.lst s)) (_:0<=i) (_:i<2^62) (_:s.length<sizeLine) (_:Q .non (upd H l (.lst (s.take i.toNat++y::s.drop i.toNat)))):zaK  x u H Q
theorem zbP:MtM X "list.insert" zaK:=by
 intro E s σ H x vs v us Q I M L h;obtain⟨l,xs,i,y,rfl,rfl,B,T,U,O,q⟩:=h;cases M;obtain⟨Y,A,rfl,G,J⟩:=ZI L;obtain⟨t,rfl⟩:=G;obtain⟨z,u,n,r,N,e⟩:=I.lstM B;have C:=r.length;refine call_meets F.slot_list_insert ⟨_,e,rfl⟩ F.entry_list_insert (F.args_list_insert_3 _ _ _) (AutoListH.list_insert_list_int_val_1 l u.toArray n i t A ?_ (by rw[z9];omega)) ⟨e,?_⟩
 ·unfold Builtin.List.listFitsIndex
  simp;omega
 refine⟨.non,_,I.lset (its':=u.take i.toNat++A::u.drop i.toNat) B e ?_ ((r.take _).append (.cons J (r.drop _))) ?_,rfl,q⟩
 ·show(have k:=if i<0 then(i+((u.toArray.size:Nat):Int)).toNat else min i.toNat u.toArray.size;(u.toArray.extract 0 k).push A++u.toArray.extract k)=_
  have hk:(if i<0 then(i+((u.toArray.size:Nat):Int)).toNat else min i.toNat u.toArray.size)=min i.toNat u.length:=by
   rw[zo (by omega),z9]
  simp only[hk];apply Array.toList_inj.mp
  simp;by_cases w:i.toNat<=u.length
  ·have h1:(u.drop i.toNat).take (u.length-i.toNat)=u.drop i.toNat:=Y0 (by rw[ZV];omega)
   rw[Nat.min_eq_left w,h1]
  ·have h1:u.length<=i.toNat:=by omega
   rw[Nat.min_eq_right h1,Y0 h1,List.drop_of_length_le h1];simp
 ·simp only[zW,qP,jU,ZV]
  omega
variable{e st:Expr}{g:TE}{m:TO}{b c:Pos}
end
theorem jD{K:W.Frag}{a:Addr}{xs:List V}{g:TG}{J:TT}{I:TE}{A:St}{n:Nat}{R:List V->Hp->Prop}{H:Hp}(Pv:Nat->List V->Hp->Prop)(h0:Pv 0 [] H)
  (h1:∀i c H,Pv i c H->SqL K H a xs)
  (hs:∀i x c H,xs[i]? =some x->Pv i c H->g x A H fun s D=>s.drop n=A.drop n/\J s D fun b u=>
   if b=true then I s u fun v E=>c.length<sizeLine/\Pv (i+1) (c++[v]) E else Pv (i+1) c u)
  (hd:∀c H,Pv xs.length c H->c.length<=sizeLine/\R c H) :
  ∃W:Nat->Nat->List V->Hp->Prop,(∃m,W 0 m [] H)/\∀i m c l,W i m c l ->
   ((Itl K a).stop i l/\c.length<=sizeLine/\R c l) \/
   ((Itl K a).go i l/\∃N:List V->Hp->Prop,(∀c B,N c B->∃G,G<m/\W (i+1) G c B)/\∀x C,(Itl K a).yld i l x C->g x A C fun s D=>s.drop n=A.drop n/\J s D fun b u=>
    if b=true then I s u fun y E=>c.length<sizeLine/\N (c++[y]) E else N c u):=by
 refine⟨fun i m c l=>m=xs.length-i/\i<=xs.length/\Pv i c l,⟨_,rfl,qX _,h0⟩,?_⟩
 rintro i m c l ⟨rfl,T,p⟩;have q:=h1 i c l p;by_cases w:i<xs.length
 ·refine .inr ⟨⟨xs,xs[i],q,by simp[w]⟩,Pv (i+1),fun Q B L=>⟨_,by omega,rfl,w,L⟩,fun x C y=>?_⟩
  obtain⟨e,y⟩:=y;subst e;exact hs i x c _ (y xs q) p
 ·have e:i=xs.length:=by omega
  subst e;obtain⟨M,O⟩:=hd c l p;exact .inl ⟨⟨xs,q,zQ _⟩,M,O⟩
theorem yI{K:W.Frag}{a:Addr}{xs:List V}{g:TG}{J:TT}{I:TE}{A:St}{n:Nat}{R:List V->Hp->Prop}{H:Hp}(Pv:Nat->List V->Hp->Prop)(h0:Pv 0 [] H)
  (h1:∀i c H,Pv i c H->SqT K H a xs)
  (hs:∀i x c H,xs[i]? =some x->Pv i c H->g x A H fun s D=>s.drop n=A.drop n/\J s D fun b u=>
   if b=true then I s u fun v E=>c.length<sizeLine/\Pv (i+1) (c++[v]) E else Pv (i+1) c u)
  (hd:∀c H,Pv xs.length c H->c.length<=sizeLine/\R c H) :
  ∃W:Nat->Nat->List V->Hp->Prop,(∃m,W 0 m [] H)/\∀i m c l,W i m c l ->
   ((Itt K a).stop i l/\c.length<=sizeLine/\R c l) \/
   ((Itt K a).go i l/\∃N:List V->Hp->Prop,(∀c B,N c B->∃G,G<m/\W (i+1) G c B)/\∀x C,(Itt K a).yld i l x C->g x A C fun s D=>s.drop n=A.drop n/\J s D fun b u=>
    if b=true then I s u fun y E=>c.length<sizeLine/\N (c++[y]) E else N c u):=by
 refine⟨fun i m c l=>m=xs.length-i/\i<=xs.length/\Pv i c l,⟨_,rfl,qX _,h0⟩,?_⟩
 rintro i m c l ⟨rfl,T,p⟩;have q:=h1 i c l p;by_cases w:i<xs.length
 ·refine .inr ⟨⟨xs,xs[i],q,by simp[w]⟩,Pv (i+1),fun Q B L=>⟨_,by omega,rfl,w,L⟩,fun x C y=>?_⟩
  obtain⟨e,y⟩:=y;subst e;exact hs i x c _ (y xs q) p
 ·have e:i=xs.length:=by omega
  subst e;obtain⟨M,O⟩:=hd c l p;exact .inl ⟨⟨xs,q,zQ _⟩,M,O⟩
inductive DV(K:W.Frag)(F:Hp)(n:Nat):V->Prop
 | non:DV K F n .non
 | bl (b:Bool):DV K F n (.bl b)
 | int (i:Int) (h:i.natAbs<=10000000000+n):DV K F n (.int i)
 | str (x:Str) (h:x.length<=n):DV K F n (.str x)
 | lst (a:Addr) (c:List V) (h:SqL K F a c) (g:c.length<=n) (all:∀x∈c,DV K F n x):DV K F n (.ref a)
 | tup (a:Addr) (c:List V) (h:SqT K F a c) (g:c.length<=n) (all:∀x∈c,DV K F n x):DV K F n (.ref a)
theorem DV.up{K:W.Frag}{F l:Hp}{n m:Nat}{v:V}(h:DV K F n v)(s:Same F l)(w:n<=m):DV K l m v:=by
 induction h with
 | non=>exact .non
 | bl b=>exact .bl b
 | int i h=>exact .int i (by omega)
 | str x h=>exact .str x (by omega)
 | lst a g h u all c=>exact .lst a g (s.seq h) (by omega) c
 | tup a g h u all c=>exact .tup a g (s.sqT h) (by omega) c
def WX(b:List Addr)(H:Hp):Hp:=fun c=>if c∈b then none else H c
theorem WX.le{b:List Addr}{H:Hp}:Same (WX b H) H:=fun c o e=>by
 unfold WX at e;split at e
 ·cases e
 ·exact e
theorem WX.new{b:List Addr}{H:Hp}{p:Addr}{o:HO}(h:H p=none):Same (WX b H) (WX b (upd H p o)):=fun c u e=>by
 unfold WX at e ⊢;split at e
 ·cases e
 ·rename_i hc
  rw[zo hc,zj (zg e h)];exact e
theorem WX.same{g:List Addr}{H b:Hp}(h:Same H b):Same (WX g H) (WX g b):=fun c u e=>by
 unfold WX at e ⊢;split at e
 ·cases e
 ·rename_i hc
  rw[zo hc];exact h c u e
theorem WX.cons{b:List Addr}{H:Hp}{m:Addr}:Same (WX (m::b) H) (WX b H):=fun c u e=>by
 unfold WX at e ⊢;split at e
 ·cases e
 ·rename_i hc
  rw[zo (fun z=>hc (jA _ z))]
  exact e
theorem WX.fresh{b:List Addr}{H:Hp}{m:Addr}(h:H m=none)(o:HO):Same (WX b H) (WX (m::b) (upd H m o)):=fun c u e=>by
 unfold WX at e ⊢;split at e
 ·cases e
 ·rename_i hc
  have g:c≠m:=zg e h;rw[zo (fun z=>(qg.mp z).elim g hc),zj g]
  exact e
theorem WX.put{b:List Addr}{H:Hp}{m:Addr}{o:HO}(h:m∈b):Same (WX b H) (WX b (upd H m o)):=fun c u e=>by
 unfold WX at e ⊢;split at e
 ·cases e
 ·rename_i hc
  rw[zo hc,zj (show c≠m from fun z=>hc (by rw[z];exact h))]
  exact e
theorem WX.at{b:List Addr}{H:Hp}{c:Addr}{o:HO}(h:c∉b)(e:H c=some o):WX b H c=some o:=by
 unfold WX;rw[zo h];exact e
def zfX:Expr->Bool
 | .Starred _ _=>false
 | _=>true
theorem vJ{e:Expr}{c:List Expr}{b:Env}(h:zfX e=true):starEach (e::c) b=(false,eval e b)::starEach c b:=by
 cases e<;>first| rfl | cases h
theorem pa5{X:Cx}{c e1 e2 g i:Expr}{l m s u w:TE}(h0:PE X c l)(h1:PE X e1 m)(h2:PE X e2 s)(A:PE X g u)(B:PE X i w)(h:([c,e1,e2,g,i]).all zfX=true:=by rfl):PA X [c,e1,e2,g,i] (JL l (JL m (JL s (JL u (JL w zhB))))):=by
 have b:=xB.mp h;exact(za h0 (za h1 (za h2 (za A (za B zd (vJ (b _ (by simp)))) (vJ (b _ (by simp)))) (vJ (b _ (by simp)))) (vJ (b _ (by simp)))) (vJ (b _ (by simp))))
section
variable{X:Cx}{i E c:Expr}{l:List Expr}{scope:Scope}{u:Pos}{B:TI}{g:TG}{A:TT}{w:TE}
theorem zci{y:Str}{py:Pos}{Y:TG}{s:List (Addr×Obj)}{σ:St}{L:Hp}{O:St->Hp->Prop}{H:Shared}{D C:Addr}{m:Str->Option Value}(M:PG X (.Name y py) Y)(hn:H.heap.Ns C m)
  (all:∀h7:Heap,(∀b o,b≠C->H.heap.get? b=some o->h7.get? b=some o)->Inv X s σ L { H with heap:=h7 }) (U:xw X s L C) (q:Y (.ref D) σ L O) :
  wpAny (model X.prog X.w) X.A (assign (.Name y py) X.env (.ref D)) (fun _ G=>∃m,G.heap.Ns C m/\∀h',Heap.SameBut C G.heap h'->∃σ' Q,Inv X s σ' Q { G with heap:=h' }/\O σ' Q) X.xe H:=by
 have J0:=all H.heap fun b o _ e=>e
 obtain⟨J,es,ep,I,hd,r⟩:=hn;have J1:=J0.pinned (fp:=[C]) (fun b hb=>by rw[zR.mp hb];exact U) (fun b hb=>by rw[zR.mp hb];exact⟨J,I,fun v z=>by rw[hd] at z;cases z⟩)
 have mC:(C,J)∈s++qL [C] H.heap:=qE _ (jm (zR.mpr rfl) I);refine thn (M _ H σ _ (.ref D) (.ref D) _ J1 rfl q) fun _ s8 ⟨σ8,H8,T,q8⟩=>?_
 obtain⟨e8,n8,_⟩:=T.pin (C,J) (qE _ mC);obtain⟨_,g1,_,g3,g4,g5⟩:=U;exact⟨m,⟨J,es,ep,e8,hd,r⟩,fun h9 N=>⟨σ8,H8,(T.unpinned).turned (t':=s8.toks) (it:=C) (fun b o hb e=>N.extBut b o hb e) n8 g1 g3 g4 g5,q8⟩⟩
theorem zfS{y:Str}{O G:Pos}{U:TG}(own M:List Str)(js:List Nat)(hc:X.calm=true)(hk:scope.kind=.function)(hb:ZR scope.names X.env.scope.names X.N M js=true)(hi:PI X E c B)
  (hg:∀C s H L,PG (zZ X (own++M) scope C s H L) E g) (hf:∀C s H L,PF (zZ X (own++M) scope C s H L) l A) (he:∀C s H L,PE (zZ X (own++M) scope C s H L) i w)
  (Y:PG X (.Name y O) U) (a0:swapsWith (.ListComp i [⟨E,c,l,0⟩] scope u) (some (.Name y O)) G.line X.env=pure true:=by rfl)
  (hs:∀x,foldedSetIterable c X.env x=pure x:=by intro _;rfl):PS X (.Assign [.Name y O] (.ListComp i [⟨E,c,l,0⟩] scope u) G) (W9 (tLC B own.length js g A w) U):=by
 intro N s σ H Dn I h;rw[exec_Assign_Name_used _ _ _ _ a0];refine zm (yo (zm ?_))
 show wpAny _ X.A (do let _<-comprehension (.ListComp i [⟨E,c,l,0⟩] scope u) scope X.env _ (newList []) false (eval c X.env) (some (assign (.Name y O) X.env))) _ _ s
 refine zm (qW (zdG (rest:=[]) (use:=some (assign (.Name y O) X.env)) (Qx:=fun _ s'=>∃σ' H',Inv X N σ' H' s'/\Dn.nx σ' H') (Q:=fun v H1=>U v σ H1 Dn.nx) own M js hk hb hi hs I h (fun C D it fp tn J W H2 s3 s4 m0 R a b T tl j fin=>zaX hc hg hf he a b T tl j fin) fun s6 D C H6 m hn all fc q=>zci Y hn all fc q) (fun _ s' hq=>zJ (zJ hq)) fun _ _ e=>e)
theorem XI{x y:Str}{L M b:Pos}{N:TG}(D:List Str)(J:List Nat)(hc:X.calm=true)(hk:scope.kind=.function)(hb:wX scope.names X.env.scope.names X.N [x] D J=true)(U:PI X (.Name x L) c B)
  (T:∀C s H m,PF (zZ X ([x]++D) scope C s H m) l A) (Q:∀C s H m,PE (zZ X ([x]++D) scope C s H m) i w)
  (G:PG X (.Name y M) N) (I:swapsWith (.ListComp i [⟨.Name x L,c,l,0⟩] scope u) (some (.Name y M)) b.line X.env=pure true:=by rfl)
  (hs:∀x,foldedSetIterable c X.env x=pure x:=by intro _;rfl):PS X (.Assign [.Name y M] (.ListComp i [⟨.Name x L,c,l,0⟩] scope u) b) (W9 (tLC B 1 J (vm 0) A w) N):=by
 obtain⟨h1,h2,O⟩:=vV hb;exact zfS [x] D J hc hk h1 U (fun C s H m=>wd (h2 x (by simp)) O rfl) T Q G I hs
theorem zgw{x z y:Str}{M O N b Q:Pos}{L:Nat}{T:TG}(D:List Str)(J:List Nat)(hc:X.calm=true)(hk:scope.kind=.function)(hb:wX scope.names X.env.scope.names X.N [x,z] D J=true)(hi:PI X (.Tuple [.Name x M,.Name z O] L Q) c B)
  (hf:∀C s H m,PF (zZ X ([x,z]++D) scope C s H m) l A) (Y:∀C s H m,PE (zZ X ([x,z]++D) scope C s H m) i w)
  (G:PG X (.Name y N) T) (I:swapsWith (.ListComp i [⟨.Tuple [.Name x M,.Name z O] L Q,c,l,0⟩] scope u) (some (.Name y N)) b.line X.env=pure true:=by rfl)
  (hs:∀x,foldedSetIterable c X.env x=pure x:=by intro _;rfl):PS X (.Assign [.Name y N] (.ListComp i [⟨.Tuple [.Name x M,.Name z O] L Q,c,l,0⟩] scope u) b) (W9 (tLC B 2 J (zb0 X.K 2 (yk (vm 0) (yk (vm 1) zdx))) A w) T):=by
 obtain⟨h1,h2,U⟩:=vV hb;refine zfS [x,z] D J hc hk h1 hi (fun C s H m=>?_) hf Y G I hs
 exact jN (X:=zZ X ([x,z]++D) scope C s H m) hc (zK (wd (h2 x (by simp)) U rfl) (zK (wd (h2 z (by simp)) U rfl) jv))
end
theorem Vals.mem{u:Value}:∀{b:List V} {c:List Value},Vals b c->u∈c->∃x∈b,RelV x u
 | _,_,.nil,h=>by cases h
 | x::b,v::i,.cons r t,h=>by
  rcases qg.mp h with e | h
  ·rw[e];exact⟨x,qI,r⟩
  ·obtain⟨y,hy,g⟩:=Vals.mem t h
   exact⟨y,jA _ hy,g⟩
section
variable{X:Cx}
theorem zhh{D:List (Addr×Obj)}{σ:St}{H:Hp}{s:Shared}(I:Inv X D σ H s){A:Around}(hu:A.units<cLine){a c:Addr}{m u:List V}(hx:SqT X.K H a m)(hy:SqT X.K H c u)(J:m.all jS=true)(L:u.all jS=true):∃b,SeqAt.EqAt A s (.ref a) (.ref c) b:=by
 by_cases w:a=c
 ·subst w
  exact⟨true,YN _⟩
 ·obtain⟨B,E,O,z1⟩:=I.tuple hx
  obtain⟨C,G,Q,z2⟩:=I.tuple hy;have l1:=E.length;have l2:=G.length;refine⟨_,SeqAt.EqAt.of_refs w (SeqAt.RcAt.tuples (e:=fun j=>eqV (m.getD j .non) (u.getD j .non)) O Q hu (fun j h1 h2=>?_))⟩
  have g:j<m.length:=by rw[z9] at h1;omega
  have l:j<u.length:=by rw[z9] at h2;omega
  obtain⟨w1,e1,T⟩:=E.get (i:=j) (x:=m[j]) (by simp[g])
  obtain⟨Y,e2,U⟩:=G.get (i:=j) (x:=u[j]) (by simp[l])
  have M:B.toArray[j]=w1:=by simpa using (zL.mp e1).2
  have N:C.toArray[j]=Y:=by simpa using (zL.mp e2).2
  rw[M,N,show m.getD j .non=m[j] by simp[g],show u.getD j .non=u[j] by simp[l]]
  exact QV T U (xB.mp J _ (vY g)) (xB.mp L _ (vY l))
inductive XA(K:W.Frag)(x:V)(y:V)(H:Hp)(Q:VK):Prop
 | mk (a p:Addr) (i g:List V) (_:x=.ref a) (_:y=.ref p) (_:SqT K H a i) (_:i.all jS=true) (_:SqL K H p g) (_:(∀v∈g,∃(c:Addr) (b:List V),v=.ref c/\SqT K H c b/\b.all jS=true)) (_:∀r:Bool,Q (.bl r) H):XA K x y H Q
open Classical in
theorem zey(hu:X.A.units+64<cLine):OpR X (compareOp .In) (XA X.K):=by
 intro A s σ H x y v u Q I J L h;obtain⟨a,p,T,O,rfl,rfl,E,C,hp,all,q⟩:=h;cases J;cases L;obtain⟨l,r,G,M⟩:=I.list hp;have B:∀w∈l,∃b,SeqAt.EqAt X.A.in1 s w (.ref a) b:=fun w i=>by
  obtain⟨x,hx,m⟩:=Vals.mem r i;obtain⟨c,N,rfl,hc,D⟩:=all x hx;cases m;exact zhh I (by show X.A.units+1<cLine;omega) hc E D C
 refine SeqAt.in_listAt (fun w=>if h:∃b,SeqAt.EqAt X.A.in1 s w (.ref a) b then h.choose else false) G.isList (fun w i=>?_) ⟨.bl _,H,I,rfl,q _⟩
 have g:=B w (by simpa using i)
 simp only[g,dif_pos];exact g.choose_spec
inductive Jv(K:W.Frag)(x:V)(y:V)(H:Hp)(Q:VK):Prop
 | mk (a b:Addr) (c:List V) (_:x=.ref a) (_:y=.ref b) (_:SqL K H a c) (_:SqL K H b []) (_:Q (.bl (!c.isEmpty)) H):Jv K x y H Q
theorem QG(hu:X.A.units<cLine):OpR X (compareOp .NotEq) (Jv X.K):=by
 intro m s σ H x y v u Q I B C h;obtain⟨a,b,D,rfl,rfl,hx,hy,q⟩:=h;cases B;cases C;obtain⟨c,w,i,E⟩:=I.list hx;obtain⟨g,A,l,G⟩:=I.list hy;cases A;cases w with
 | nil=>exact SeqAt.RcNeAt.lists (e:=fun _=>true) i.isList l.isList rfl hu (fun j h1 _=>by simp at h1) _ _ _ _ ⟨.bl _,H,I,rfl,q⟩
 | cons r t=>exact SeqAt.RcNeAt.lists_lengths i.isList l.isList (by simp) hu _ _ _ _ ⟨.bl _,H,I,rfl,q⟩
inductive Jw(K:W.Frag)(x:V)(y:V)(H:Hp)(Q:VK):Prop
 | mk (a b:Addr) (c:List V) (_:x=.ref a) (_:y=.ref b) (_:SqL K H a c) (_:SqL K H b []) (_:Q (.bl c.isEmpty) H):Jw K x y H Q
theorem zc9(hu:X.A.units<cLine):OpR X (compareOp .Eq) (Jw X.K):=by
 intro m s σ H x y v u Q I B C h;obtain⟨a,b,D,rfl,rfl,hx,hy,q⟩:=h;cases B;cases C;obtain⟨c,w,i,E⟩:=I.list hx;obtain⟨g,A,l,G⟩:=I.list hy;cases A;cases w with
 | nil=>exact SeqAt.RcAt.lists (e:=fun _=>true) i.isList l.isList rfl hu (fun j h1 _=>by simp at h1) _ _ _ _ ⟨.bl _,H,I,rfl,q⟩
 | cons r t=>exact SeqAt.RcAt.lists_lengths i.isList l.isList (by simp) hu _ _ _ _ ⟨.bl _,H,I,rfl,q⟩
theorem VE:∀{b:List Value} {n k:Nat},b.length=n->(∀j v,b[j]? =some v->∃t,v=Value.int ((k+j:Nat):Int) t)->Vals ((List.range' k n).map fun i:Nat=>V.int (i:Int)) b
 | [],0,k,_,_=>.nil
 | v::b,n+1,k,g,h=>by
  rw[List.range'_succ,jL];obtain⟨t,e⟩:=h 0 v rfl;refine .cons ⟨t,by rw[e];rfl⟩ (VE (by simpa using g) fun j w l=>?_)
  obtain⟨m,c⟩:=h (j+1) w (by simpa using l)
  exact⟨m,by rw[c,show k+(j+1)=k+1+j by omega]⟩
theorem wf{a:Expr}{N:TA}{p E G c:Pos}(hc:X.calm=true)(hg:Gl X "list")(hm:X.mg "list" = none)(C:Gl X "range")(D:X.mg "range" = none)(hv:bootBuiltins "list" = some (.type "list"))(ha:PA X [a] N)(hs:starEach [a] X.env=[(false,eval a X.env)]:=by rfl)
  (L:starEach [.Call (.Name "range" E) [a] [] c] X.env=[(false,eval (.Call (.Name "range" E) [a] [] c) X.env)]:=by rfl) :
  PE X (.Call (.Name "list" p) [.Call (.Name "range" E) [a] [] c] [] G) (fun σ H Q=>N σ H fun O B=>∃j:Int,O=[.int j]/\0<=j/\j<=1000000/\∀l,B l=none->Q (.ref l) (upd B l (.lst ((List.range j.toNat).map fun i:Nat=>V.int (i:Int))))):=by
 intro u s σ H Q I h;refine wpAny_Call_Name_kw (vD I hg hm hv ?_ (by decide) (by decide))
 refine Jb ?_ L rfl
 rw[L];refine yR ?_
 refine Call_ (vD I C D boot_range (Jb (thn (ha c u s σ H _ I h) fun us s1 ⟨O,B,T,r1,q1⟩=>?_) hs rfl))
 obtain⟨j,e,j0,j1,q⟩:=q1;subst e;cases r1 with
 | cons r rr=>
  cases rr;obtain⟨t,rfl⟩:=r;refine call_range_1 (Jk ?_)
  have J:Inv X u σ B { s1 with heap:=s1.heap.push { cls:=.type "range",data:=.fields #[.int 0 s1.toks,.int j t,.int 1 (s1.toks+1)] },toks:=s1.toks+1+1 }:=T.kept fun b o e=>qG _ e
  have m:=bGe;refine call_list_range (n:=j.toNat) (I.ok.hd hc) (IsRange.new ..) (small_one (by rw[m];omega) (by rw[m];omega) (by rw[m];omega) (by rw[m];omega)) (by rw[rangeSize_one];split<;>omega) (by omega) fun h' tk w U A get g=>?_
  refine⟨.ref _,_,J.laid (t':=tk) (o:=.lst ((List.range j.toNat).map fun i:Nat=>V.int (i:Int))) A (zQ _) ?_,rfl,q _ (J.hok.fresh (zQ _))⟩
  refine⟨by rw[zp,xV,sizeLine_eq];omega,w.toList,U,?_,by rw[Array.toArray_toList];exact get⟩
  rw[List.range_eq_range'];refine VE (by rw[ZX];exact g.1) fun i v hv=>?_
  obtain⟨M,Y⟩:=g.2 i v (by simpa using hv)
  exact⟨M,by rw[Y];congr 1;omega⟩
end
end L2
namespace L2
open PySem PySem.Spec PyProof.Rows
section
variable{b:Program}{w:World}{A:Around}{E:Value->Shared->Prop}{s:Shared}
end
def Tups(H:Hp)(c g:List V)(b:List Addr):Prop:=∀(j:Nat) (T:Addr),b[j]? =some T->∃x y,c[j]? =some x/\g[j]? =some y/\H T=some (.tup [x,y])
theorem Tups.same{H g:Hp}{l m:List V}{i:List Addr}(h:Tups H l m i)(s:Same H g):Tups g l m i:=fun j T e=>let ⟨x,y,a,b,c⟩:=h j T e;⟨x,y,a,b,s _ _ c⟩
theorem Tups.snoc{H:Hp}{c g:List V}{b:List Addr}{T:Addr}{x y:V}(h:Tups H c g b)(hx:c[b.length]? =some x)(hy:g[b.length]? =some y)(i:H T=some (.tup [x,y])):Tups H c g (b++[T]):=fun j U e=>by
 by_cases l:j<b.length
 ·rw[j9 l] at e
  exact h j U e
 ·rw[xa (by omega)] at e
  have:j=b.length:=by
   have:=(zL.mp e).1;simp at this;omega
  subst this;simp at e;subst e;exact⟨x,y,hx,hy,i⟩
section
variable{X:Cx}{A:Around}{R:Result->Shared->Prop}
end
section
variable{X:Cx}
theorem QR{K:W.Frag}(h:X.K=K):IxR X (zgr K):=by rw[<- h];exact qh
theorem jc{K:W.Frag}(h:X.K=K):IxR X (zgq K):=by rw[<- h];exact zI
theorem yn{K:W.Frag}(h:X.K=K):CallR X (.builtin "len") (vq K):=by rw[<- h];exact zO
theorem jP{K:W.Frag}(h:X.K=K):OpR X (compareOp .In) (rIn K false):=by rw[<- h];exact jJ
theorem JC{K:W.Frag}(h:X.K=K):OpR X (compareOp .NotIn) (rIn K true):=by rw[<- h];exact wm
inductive WZ(x:V)(y:V)(H:Hp)(Q:VK):Prop
 | mk (a b:_) (_:x=.bl a) (_:y=.bl b) (_:Q (.bl (decide (a=b))) H):WZ x y H Q
theorem zgI:OpR X (compareOp .Is) (WZ):=by
 intro c s σ H x y v u Q I g i h;obtain⟨a,b,rfl,rfl,q⟩:=h;cases g;cases i;refine wpAny_is_plain (by cases a<;>cases b<;>rfl) (qC I q ?_)
 cases a<;>cases b<;>rfl
inductive Xz(x:V)(y:V)(H:Hp)(Q:VK):Prop
 | mk (a b:_) (_:x=.bl a) (_:y=.bl b) (_:Q (.bl (!decide (a=b))) H):Xz x y H Q
theorem zew:OpR X (compareOp .IsNot) (Xz):=by
 intro c s σ H x y v u Q I g i h;obtain⟨a,b,rfl,rfl,q⟩:=h;cases g;cases i;refine wpAny_isNot_plain (by cases a<;>cases b<;>rfl) (qC I q ?_)
 cases a<;>cases b<;>rfl
end
section
open AutoSeq1 (wpAny_loadPart')
theorem wR(l:Addr)(b:Array Value)(n:Nat)(m:Option Addr)(D:Array (Option Value)) :
  Meets (Builtin.«enumerate.__new__» ⟨[.type "enumerate",.ref l],[]⟩) (fun _ R s=>s.heap.get? l=some { cls:=.type "tuple",dict:=m,data:=.seq b n,slots:=D } /\
   R (.ok (.ret (.ref (s.heap.push { cls:=.type "tuple_iterator",data:=.fields #[.ref l,.int 0 0] }).objs.size)))
    { s with heap:=(s.heap.push { cls:=.type "tuple_iterator",data:=.fields #[.ref l,.int 0 0] }).push { cls:=.type "enumerate",data:=.fields #[.none,.bool false,.ref s.heap.objs.size,rawInt 0,.none,.none] } }):=
 .of_wp fun C w A R s h=>by
  obtain⟨hp,g,d,E,os⟩:=s;obtain⟨i,h⟩:=h
  have B:=sub_enumerate;have u:Heap.IsTuple (Shared.heap ⟨hp,g,d,E,os⟩) l b:=⟨_,i,rfl,n,rfl⟩;wp_walk using wpAny_loadPart' i
  refine wpAny_stack_any fun st=>zJ ?_
  split
  ·rename_i c _ _ _ _ _
   cases(c==Value.type "enumerate")
   ·wp_walk using wpAny_loadPart' i,wpAny_pyIter_tuple u
    exact⟨_,rfl,h⟩
   ·wp_walk using wpAny_loadPart' i,wpAny_pyIter_tuple u
    exact⟨_,rfl,h⟩
  ·wp_walk using wpAny_loadPart' i,wpAny_pyIter_tuple u
   exact⟨_,rfl,h⟩
end
section
variable{prog:Program}{w:World}{A:Around}{E:Value->Shared->Prop}{s:Shared}
theorem wV{l:Addr}{g:Array Value}{Q:Value->Shared->Prop}(G:s.heap.IsTuple l g)
  (h:∀i,IsEnum i (s.heap.objs.size+1) s.heap.objs.size 0 .none->i.IsTupleIter s.heap.objs.size l 0->i.objs.size=s.heap.objs.size+2 ->
   (∀b o,s.heap.get? b=some o->i.get? b=some o)->Q (.ref (s.heap.objs.size+1)) { s with heap:=i }) :
  wpAny (model prog w) A (call (.type "enumerate") [.ref l]) Q E s:=by
 obtain⟨⟨c,m,D,I⟩,H,hc,n,hd⟩:=G;replace hc:c=.type "tuple" :=hc
 replace hd:D=.seq g n:=hd
 subst hc hd;refine callType_new F.called_enumerate (by decide) (F.typeCall_enumerate_1 _) (F.newCall_enumerate_1 _) (fun B=>F.args_object_init_2 B _) F.entry_enumerate_new
  (wR l g n m I) ⟨H,?_⟩
 have u:(s.heap.push { cls:=.type "tuple_iterator",data:=.fields #[.ref l,.int 0 0] }).objs.size=s.heap.objs.size+1:=j7 ..;show _/\_;rw[u];have C:IsEnum ((s.heap.push { cls:=.type "tuple_iterator",data:=.fields #[.ref l,.int 0 0] }).push
   { cls:=.type "enumerate",data:=.fields #[.none,.bool false,.ref s.heap.objs.size,rawInt 0,.none,.none] }) (s.heap.objs.size+1) s.heap.objs.size 0 .none:=by
  have:=qJ (s.heap.push { cls:=.type "tuple_iterator",data:=.fields #[.ref l,.int 0 0] })
   (o:={ cls:=.type "enumerate",data:=.fields #[.none,.bool false,.ref s.heap.objs.size,rawInt 0,.none,.none] }) rfl
  rw[u] at this;exact this
 refine⟨⟨_,C,rfl⟩,h _ C ⟨_,qG _ (qJ _ rfl),rfl,rfl⟩ (by rw[j7,u]) fun b o x=>qG _ (qG _ x)⟩
theorem Draws.tuple{prog:Program}{w:World}{A:Around}(I:A.handled=none)(m l:Addr)(B:l≠m)(b:Array Value) :
  Draws prog w A m [m,l] b.size (fun i v=>b[i]? =some v) (fun i h=>h.IsTupleIter m l i/\h.IsTuple l b) where
 live:=fun _ _ st=>let ⟨o,J,_⟩:=st.1;⟨o,J⟩
 frame:=fun _ _ _ st hk=>⟨ItrK.at (kd:=false) st.1 fun o e=>hk m (by simp) o e,SeqK.at (kd:=false) st.2 fun o e=>hk l (by simp) o e⟩
 item:=fun i s Q E C st H=>by
  refine wq (kd:=false) st.1 st.2 (x:=b[i]) (by simp[C]) fun D c g=>?_
  exact H _ D s.toks (by simp[C]) ⟨c,SeqK.at (kd:=false) st.2 fun o e=>g.extBut l o B e⟩ g
 done:=fun s Q E st G=>ye (kd:=false) I st.1 st.2 (by simp) G
end
def zd0(K:W.Frag)(a:Addr):It:=
 ⟨fun i H=>∃b x,SqT K H a b/\b[i]? =some x,fun i H x c=>∃T y,x=.ref T/\H T=none/\c=upd H T (.tup [.int i,y])/\∀b,SqT K H a b->b[i]? =some y,fun i H=>∃b,SqT K H a b/\b.length<=i⟩
theorem W6{P:Program}{w:World}{K:W.Frag}{M:List Expr}{kk:Nat}{aj:Pos}(a e l:Addr)(G:e≠l) :
  Zk P w K (.Tuple M kk aj) (zd0 K a) [e,l] e (fun i h=>(∃C,IsEnum h e l i C)/\h.IsTupleIter l a i) where
 mem:=by simp
 obj:=fun i h st b hb=>by
  obtain⟨⟨C,m⟩,⟨o,ho,c,d⟩⟩:=st;rcases qg.mp hb with z | z
  ·subst z;exact⟨_,m,fun v q=>nomatch q⟩
  ·rw[zR.mp z];exact⟨o,ho,fun v q=>by rw[d] at q;cases q⟩
 keep:=fun i h h' st k=>by
  obtain⟨⟨C,m⟩,hi⟩:=st;exact⟨⟨C,k e (by simp) _ m⟩,ItrK.at (kd:=false) hi fun o q=>k l (by simp) o q⟩
 item:=by
  intro X hP hw hK hc i U s σ H E I hf st hg;subst hP hw hK;obtain⟨⟨C,m⟩,B⟩:=st;obtain⟨xs,x,hq,hx⟩:=hg;obtain⟨g,rv,p,hz⟩:=I.tuple hq;obtain⟨u,hu,ru⟩:=rv.get hx;have L:s.heap.IsTuple a g.toArray:=p;have N:a≠l:=fun z=>by
   obtain⟨o,e1,c1,_⟩:=L;obtain⟨o',e2,c2,_⟩:=B;rw[z,e2] at e1;cases e1;rw[c2] at c1;exact absurd (w4 c1) (by decide)
  have aa:e≠a:=fun z=>by
   obtain⟨o,e1,c1,_⟩:=L;rw[<- z,m] at e1;cases e1;exact absurd (w4 c1) (by decide)
  have D:=Draws.tuple (prog:=X.prog) (w:=X.w) (A:=X.A.in1) (I.ok.hd hc) l a N g.toArray;have hi:i<g.toArray.size:=by
   have h1:=(zL.mp hu).1;simpa using h1
  refine wpAny_pyNext_enum_itemD D m ⟨B,L⟩ hi G (by simp[G,aa]) fun x' h' tk a0 O Q Y am hk=>?_
  have ex:x'=u:=by
   have h2:g[i]? =some x':=by simpa using a0
   rw[hu] at h2;exact(jH h2).symm
  subst ex;refine⟨_,rfl,wpAny_letOwnedTupleGo_enum O fun h2 af J=>?_⟩
  have eT:s.heap.objs.size≠e:=vn (zN m);have k2:∀b o,b∉[e,l]->s.heap.get? b=some o->h2.get? b=some o:=fun b o hb q=>by
   have n1:b≠e:=fun z=>hb (by simp[z])
   have n2:b≠l:=fun z=>hb (by simp[z])
   exact(J.2 b n1).trans (hk b o n1 n2 q)
  have ai:h2.IsTupleIter l a (i+1):=ItrK.at (kd:=false) Q.1 fun o q=>J.extBut l o (qz G) q
  refine⟨.ref s.heap.objs.size,upd H s.heap.objs.size (.tup [.int i,x]),?_,rfl,⟨_,x,rfl,I.hok.fresh (zQ _),rfl,fun ys hy=>by rw[I.tuple_inj hy hq];exact hx⟩,⟨⟨_,by simpa using af⟩,ai⟩,fun b hb=>?_⟩
  ·refine XS (s:=s) (h':=h2) (t':=tk+1) (its:=[.int i tk,x']) I hf (zQ _) k2 (by rw[sizeLine_eq];exact(by decide:2<=16777216)) (.cons ⟨tk,rfl⟩ (.cons ru .nil)) (TupX.by ((J.2 _ eT).trans Y))
  ·have ab:b<s.heap.objs.size:=by
    rcases qg.mp hb with z | z
    ·rw[z];exact zN m
    ·rw[zR.mp z]
     obtain⟨o',e',_⟩:=B;exact zN e'
   rw[zj (qw ab)];exact(hf b hb).1
 done:=by
  intro X hP hw hK hc i U s σ H E I hf st hg;subst hP hw hK;obtain⟨⟨C,m⟩,B⟩:=st;obtain⟨xs,hq,hx⟩:=hg;obtain⟨g,rv,p,hz⟩:=I.tuple hq;have L:s.heap.IsTuple a g.toArray:=p;have N:a≠l:=fun z=>by
   obtain⟨o,e1,c1,_⟩:=L;obtain⟨o',e2,c2,_⟩:=B;rw[z,e2] at e1;cases e1;rw[c2] at c1;exact absurd (w4 c1) (by decide)
  obtain⟨f0,f1,f2,f3,f4,f5⟩:=hf l (by simp)
  have ag:g.toArray.size<=i:=by
   have:=rv.length;simp only[z9];omega
  have Y:s.TypeIs (.ref e) "enumerate" :=⟨_,m,rfl⟩;unfold pyNext;refine zm (yL (yw (name:=Str.ofString "__next__") Y Vu (wD Vu Y F.entry_enumerate_next ?_ (F.args_enumerate_next_1 _))))
  show wpAny _ _ (field (.ref e) 2 >>= _) _ _ _;refine zm (xU m rfl (x:=.ref l) rfl (zm (ye (kd:=false) (I.ok.hd hc) B L (by simpa using ag) fun h' x ae ah=>?_)))
  obtain⟨o,ho,ac⟩:=ah;refine zm (ZT (T:= "StopIteration") (b:=true) ⟨o,ho,ac⟩ isSubtype_stop ?_)
  exact zJ ⟨rfl,I.turned (t':=s.toks) (fun b o hb q=>ae b o hb q) f0 f1 f3 f4 f5⟩
 self:=fun _ _ _ _ _ st h=>let ⟨⟨_,m⟩,_⟩:=st;wpAny_pyIter_enum m h
section
variable{X:Cx}
def zhd(K:W.Frag)(c:TA):TI:=fun σ H R=>c σ H fun g b=>∃a,g=[.ref a]/\(∃i,SqT K b a i)/\R (zd0 K a) b
theorem Wi{l:Expr}{C:TA}{p m tp:Pos}{g:List Expr}{O:Nat}(hg:Gl X "enumerate")(L:X.mg "enumerate" = none)(G:PA X [l] C)(hs:starEach [l] X.env=[(false,eval l X.env)]:=by rfl) :
  PI X (.Tuple g O tp) (.Call (.Name "enumerate" p) [l] [] m) (zhd X.K C):=by
 intro c s σ H R I h;refine Call_ (vD I hg L boot_enumerate (Jb (thn (G m c s σ H _ I h) fun us s1 ⟨vs,A,w,U,T⟩=>?_) hs rfl))
 obtain⟨a,e,⟨xs,hq⟩,q⟩:=T;subst e;obtain⟨u,rfl,Y⟩:=vF U;cases Y;obtain⟨N,rv,Q,hz⟩:=w.tuple hq;refine wV Q fun E B J M hk=>wpAny_pyIter_enum B ?_
 have D:Inv X c σ A { s1 with heap:=E }:=w.kept (t':=s1.toks) hk;refine⟨s1.heap.objs.size+1,[s1.heap.objs.size+1,s1.heap.objs.size],_,_,A,rfl,D,W6 a _ _ (Nat.succ_ne_self _),⟨⟨_,B⟩,J⟩,fun b hb=>?_,q⟩
 have i:s1.heap.objs.size<=b:=by
  rcases qg.mp hb with z | z
  ·rw[z];exact wZ _
  ·rw[zR.mp z];exact zQ _
 exact w.fpOk i (w.hok.fresh i)
end
end L2
namespace L2
open PySem PySem.Spec PyProof.Rows
section
variable{b:Program}{w:World}{A:Around}{R:Result->Shared->Prop}{s:Shared}
abbrev lc2(l B c:Expr)(g:List Expr)(C i:Expr)(m:List Expr)(scope:Scope)(u:Pos):Expr:=.ListComp l [⟨B,c,g,0⟩,⟨C,i,m,0⟩] scope u
theorem WL(B E l:Expr)(m:List Expr)(H i:Expr)(C:List Expr)(scope:Scope)(D:Pos)(G u:Value)(g:Env) :
  compTurn (lc2 B E l m H i C scope D) 1 G u g=(do
   standAt i.pos
   match<-pyNext G with
   | none=>pure (.done .next)
   | some v=>
    letOwnedTupleGo H G v
    assign H g v
    let mut ok:=true
    for c in C do
     if ok then ok<-isTrue c g (eval c g)
    if ok then
     (do let _<-call (.builtin "list.append") [u,<- eval B g])
    again (.compLoop (lc2 B E l m H i C scope D) 1 G u g)):=by rfl
theorem XZ(B m g:Expr)(l:List Expr)(G c:Expr)(C:List Expr)(scope:Scope)(D:Pos)(E u:Value)(i:Env) :
  compTurn (lc2 B m g l G c C scope D) 0 E u i=(do
   standAt g.pos
   match<-pyNext E with
   | none=>pure (.done .next)
   | some v=>
    letOwnedTupleGo m E v
    assign m i v
    let ok<-vv l i
    if ok=true then do
     let x<-eval c i
     standAt c.pos
     let x<-foldedSetIterable c i x
     let H<-holding [x] (pyIter x)
     let _<-runOwn (.compStart (lc2 B m g l G c C scope D) 1 H u i) i
     again (.compLoop (lc2 B m g l G c C scope D) 0 E u i)
    else again (.compLoop (lc2 B m g l G c C scope D) 0 E u i)):=by rfl
theorem wT{u D c i I g B scope C H m l}
  (h0:codeAny (model b w) A (.compLoop (lc2 u D c i I g B scope C) 1 H m l) R s)
  (h:wpAny (model b w) A (pyIter H) (fun E G=>codeAny (model b w) A (.compLoop (lc2 u D c i I g B scope C) 1 E m l) R G)
   (notedBy (model b w) A l fun x G=>R (.error x) G) s) :
  codeAny (model b w) A (.compStart (lc2 u D c i I g B scope C) 1 H m l) R s:=by
 refine codeAny_of_tree ?_
 show wpAny _ _ ((compStart (lc2 u D c i I g B scope C) 1 H m l).onRaise (fun x=>do noteFrame x l;standAt theWindowsPlace)) _ _ s
 refine wpAny_notedAt ?_
 unfold compStart;show wpAny _ _ (ask >>= _) _ _ s;refine zm (wpAny_askSetting (wpAny_ite ?_))
 split
 ·first
   | exact zm (zJ (zJ (And.intro rfl h0)))
   | exact zJ (And.intro rfl h0)
 ·first
   | exact zm (xY (zm (yo (zm (qW h (fun E G J=>zJ (And.intro rfl J)) fun _ _ x=>x)))))
   | (refine zm (xY ?_);show wpAny _ _ (standAt g.pos >>= _) _ _ s;exact zm (yo (zm (qW h (fun E G J=>zJ (And.intro rfl J)) fun _ _ x=>x))))
theorem zhm{l I g:Expr}{B:List Expr}{U C:Expr}{D:List Expr}{scope:Scope}{H:Pos}{M i:Value}{c:Env}(J:Nat->Shared->Prop)
  (L:∀n s,J n s->wpAny (model b w) A (pyNext M) (fun r s1=>match r with
   | none=>R (.ok .next) s1
   | some v=>wpAny (model b w) A (letOwnedTupleGo U M v) (fun _ s2=>wpAny (model b w) A (assign U c v) (fun _ s3=>
     wpAny (model b w) A (vv D c) (fun ok N=>
      if ok=true then wpAny (model b w) A (eval l c) (fun x O=>
       wpAny (model b w) A (call (.builtin "list.append") [i,x]) (fun _ T=>∃m,m<n/\J m T) (fun _ _=>False) O) (fun _ _=>False) N
      else ∃m,m<n/\J m N) (fun _ _=>False) s3) (fun _ _=>False) s2) (fun _ _=>False) s1) (fun _ _=>False) s)
  (n:Nat) (h:J n s):codeAny (model b w) A (.compLoop (lc2 l I g B U C D scope H) 1 M i c) R s:=by
 have G:∀{α:Type} {t:Sem α} {Q:α->Shared->Prop} {E:Value->Shared->Prop} {s:Shared},wpAny (model b w) A t Q (fun _ _=>False) s->wpAny (model b w) A t Q E s:=fun x=>qW x (fun _ _ q=>q) fun _ _ q=>q.elim
 refine codeAny_loop rfl J (fun k u hJ=>?_) n h
 show wpAny _ A ((compTurn (lc2 l I g B U C D scope H) 1 M i c).onRaise (fun x=>do noteFrame x c;theTreesLotGoes x)) _ _ u
 refine wpAny_noted ?_
 rw[WL];refine zm (yo (zm (G (qW (L k u hJ) (fun r s1 h1=>?_) fun _ _ q=>q))))
 cases r with
 | none=>exact zJ h1
 | some v=>
  refine zm (G (qW h1 (fun _ s2 h2=>zm (G (qW h2 (fun _ s3 h3=>zm (G (qW h3 (fun ok N h4=>?_) fun _ _ q=>q))) fun _ _ q=>q))) fun _ _ q=>q))
  cases ok with
  | false=>exact zJ ⟨rfl,h4⟩
  | true=>
   have Y:wpAny (model b w) A (eval l c) (fun x O=>wpAny (model b w) A (call (.builtin "list.append") [i,x]) (fun _ T=>∃m,m<k/\J m T) (fun _ _=>False) O) (fun _ _=>False) N:=h4
   refine zm (zm (G (qW Y (fun x O h5=>zm (G (qW h5 (fun _ T h6=>zJ (zJ ⟨rfl,h6⟩)) fun _ _ q=>q))) fun _ _ q=>q)))
theorem zfh{D B i:Expr}{l:List Expr}{tg c:Expr}{G:List Expr}{scope:Scope}{H:Pos}{N C:Value}{g:Env}(hs:∀x,foldedSetIterable c g x=pure x)(J:Nat->Shared->Prop)
  (L:∀n s,J n s->wpAny (model b w) A (pyNext N) (fun r s1=>match r with
   | none=>R (.ok .next) s1
   | some v=>wpAny (model b w) A (letOwnedTupleGo B N v) (fun _ s2=>wpAny (model b w) A (assign B g v) (fun _ s3=>
     wpAny (model b w) A (vv l g) (fun ok O=>
      if ok=true then wpAny (model b w) A (eval c g) (fun x T=>
       wpAny (model b w) A (pyIter x) (fun M U=>codeAny (model b w) A (.compStart (lc2 D B i l tg c G scope H) 1 M C g) (fun r Y=>match r with | .ok _=>∃m,m<n/\J m Y | .error _=>False) U) (fun _ _=>False) T) (fun _ _=>False) O
      else ∃m,m<n/\J m O) (fun _ _=>False) s3) (fun _ _=>False) s2) (fun _ _=>False) s1) (fun _ _=>False) s)
  (n:Nat) (h:J n s):codeAny (model b w) A (.compLoop (lc2 D B i l tg c G scope H) 0 N C g) R s:=by
 have I:∀{α:Type} {t:Sem α} {Q:α->Shared->Prop} {E:Value->Shared->Prop} {s:Shared},wpAny (model b w) A t Q (fun _ _=>False) s->wpAny (model b w) A t Q E s:=fun x=>qW x (fun _ _ q=>q) fun _ _ q=>q.elim
 refine codeAny_loop rfl J (fun k u hJ=>?_) n h
 show wpAny _ A ((compTurn (lc2 D B i l tg c G scope H) 0 N C g).onRaise (fun x=>do noteFrame x g;theTreesLotGoes x)) _ _ u
 refine wpAny_noted ?_
 rw[XZ];refine zm (yo (zm (I (qW (L k u hJ) (fun r s1 h1=>?_) fun _ _ q=>q))))
 cases r with
 | none=>exact zJ h1
 | some v=>
  refine zm (I (qW h1 (fun _ s2 h2=>zm (I (qW h2 (fun _ s3 h3=>zm (I (qW h3 (fun ok O h4=>?_) fun _ _ q=>q))) fun _ _ q=>q))) fun _ _ q=>q))
  cases ok with
  | false=>exact zJ ⟨rfl,h4⟩
  | true=>
   have a0:wpAny (model b w) A (eval c g) (fun x T=>
       wpAny (model b w) A (pyIter x) (fun M U=>codeAny (model b w) A (.compStart (lc2 D B i l tg c G scope H) 1 M C g) (fun r Y=>match r with | .ok _=>∃m,m<k/\J m Y | .error _=>False) U) (fun _ _=>False) T) (fun _ _=>False) O:=h4
   refine zm (I (qW a0 (fun x T h5=>zm (yo (zm (Zy (hs x) (zm (vW (I (qW h5 (fun M U h6=>?_) fun _ _ q=>q)))))))) fun _ _ q=>q))
   refine zm (wpAny_runOwn (h:=none) ?_)
   rw[Around.mark_none];refine codeAny_mono h6 fun r Y h7=>?_
   cases r with
   | ok f=>exact zJ ⟨rfl,h7⟩
   | error e=>exact h7.elim
end
def Sub:St->St->Prop
 | [],[]=>True
 | none::r,_::b=>Sub r b
 | some v::r,x::b=>x=some v/\Sub r b
 | _,_=>False
theorem Sub.len:∀{a b:St},Sub a b->a.length=b.length
 | [],[],_=>rfl
 | [],_::_,h=>h.elim
 | none::_,[],h=>h.elim
 | some _::_,[],h=>h.elim
 | none::r,_::c,h=>by rw[jU,jU,Sub.len (a:=r) (b:=c) h]
 | some _::r,_::c,h=>by rw[jU,jU,Sub.len (a:=r) (b:=c) h.2]
theorem Sub.get:∀{a b:St} {i:Nat} {v:V},Sub a b->a[i]? =some (some v)->b[i]? =some (some v)
 | [],[],_,_,_,e=>e
 | [],_::_,_,_,h,_=>h.elim
 | none::_,[],_,_,h,_=>h.elim
 | some _::_,[],_,_,h,_=>h.elim
 | none::r,_::c,0,v,h,e=>by simp at e
 | none::r,_::c,i+1,v,h,e=>by
  rw[List.getElem?_cons_succ] at e ⊢
  exact Sub.get (a:=r) (b:=c) h e
 | some _::r,_::c,0,v,h,e=>by
  rw[List.getElem?_cons_zero] at e ⊢
  rw[h.1];exact e
 | some _::r,_::c,i+1,v,h,e=>by
  rw[List.getElem?_cons_succ] at e ⊢
  exact Sub.get (a:=r) (b:=c) h.2 e
def tIn(O:TI)(g:TG)(M:TT)(L:TE)(Q:List V)(N:List V->Hp->Prop):St->Hp->Prop:=fun A G=>O A G fun J H=>
 ∃W:Nat->Nat->List V->Hp->Prop,(∃m,W 0 m Q H)/\∀i m c s,W i m c s ->
  (J.stop i s/\N c s) \/
  (J.go i s/\∃w:List V->Hp->Prop,(∀c C,w c C->∃E,E<m/\W (i+1) E c C)/\∀x D,J.yld i s x D->g x A D fun B I=>Sub A B/\M B I fun b l=>
   if b=true then L B l fun y u=>c.length<sizeLine/\w (c++[y]) u else w c l)
section
variable{X:Cx}{l C c:Expr}{u:List Expr}{B w:Expr}{s:List Expr}{scope:Scope}{A:Pos}{O L:TI}{g M:TG}{G H:TT}{E:TE}
theorem ze5{Y:Cx}{D:Addr}{Q:List (Addr×Obj)}{σ4:St}{H0:Hp}{s0:Shared}{it:Addr}{fp:List Addr}{tn:Nat->Heap->Prop}{J:It}{R:Result->Shared->Prop}{N:List V->Hp->Prop}{ys:List V}{a0:List Value}{z:Nat}{m0:Nat}{W:Nat->Nat->List V->Hp->Prop}
  (hc:Y.calm=true) (hx:Y.xe=fun _ _=>False) (hg:PG Y B g) (hf:PF Y s G) (he:PE Y l E)
  (T:Zk Y.prog Y.w Y.K B J fp it tn) (fD:∀U:Hp,U D=none->xw Y Q U D) (f2:∀b∈fp,∀U:Hp,U b=none->xw Y Q U b) (nD:∀b∈fp,D≠b)
  (I:Inv Y Q σ4 H0 s0) (st:tn 0 s0.heap) (fr:∀b∈fp,H0 b=none) (ae:H0 D=none) (ho:s0.heap.get? D=some { cls:=.type "list",data:=.seq a0.toArray z }) (rv:Vals ys a0) (w0:W 0 m0 ys H0)
  (ab:∀i m zs H7,W i m zs H7 ->
   (J.stop i H7/\N zs H7) \/
   (J.go i H7/\∃N2:List V->Hp->Prop,(∀zs U,N2 zs U->∃m',m'<m/\W (i+1) m' zs U)/\∀x H8,J.yld i H7 x H8->g x σ4 H8 fun σ9 H9=>Sub σ4 σ9/\G σ9 H9 fun b aa=>
    if b=true then E σ9 aa fun y ac=>zs.length<sizeLine/\N2 (zs++[y]) ac else N2 zs aa))
  (fin:∀s',LcE Y D Q σ4 N s'->R (.ok .next) s') :
  codeAny (model Y.prog Y.w) Y.A (.compLoop (lc2 l C c u B w s scope A) 1 (.ref it) (.ref D) Y.env) R s0:=by
 refine zhm (LcJ Y D tn fp Q σ4 W) (fun n s5 j=>qW (zaW hc hx hg hf he T fD f2 nD (fun σ9 U s' J hd=>J.weak hd.len fun k v e=>hd.get e) ab j) (fun r s6 h6=>?_) fun _ _ q=>q) m0 ⟨0,ys,a0,H0,z,I,st,fr,ae,ho,rv,w0⟩
 cases r with
 | some v=>exact h6
 | none=>exact fin s6 h6
end
def zhD(u:TI)(n:Nat)(E:List Nat)(O:TG)(s:TT)(Y:TI)(g:TG)(U:TT)(T:TE):TE:=fun σ H Q=>u σ H fun J L=>
 ∃W:Nat->Nat->List V->Hp->Prop,(∃m,W 0 m [] L)/\∀i m l c,W i m l c ->
  (J.stop i c/\l.length<=sizeLine/\∀D,c D=none->Q (.ref D) (upd c D (.lst l))) \/
  (J.go i c/\∃N:List V->Hp->Prop,(∀I A,N I A->∃G,G<m/\W (i+1) G I A)/\∀x B,J.yld i c x B->O x (upS n E σ) B fun w M=>w.drop n=(upS n E σ).drop n/\s w M fun b C=>
   if b=true then tIn Y g U T l N w C else N l C)
section
variable{X:Cx}{A w iter1:Expr}{l:List Expr}{G c:Expr}{B:List Expr}{scope:Scope}{pos:Pos}{O a0:TI}{g U:TG}{M E:TT}{L:TE}
theorem zdq{Y:Cx}{D it:Addr}{C:List Addr}{tn:Nat->Heap->Prop}{J:It}{σ4:St}{Kp:St->Prop}{W:Nat->Nat->List V->Hp->Prop}{N:List V->Hp->Prop}{n:Nat}{s5:Shared}
  (hc:Y.calm=true) (hx:Y.xe=fun _ _=>False) (hg:PG Y w U) (hf:PF Y l E) (bd:PI Y G c O) (bc:PG Y G g) (bb:PF Y B M) (he:PE Y A L) (T:Zk Y.prog Y.w Y.K w J C it tn)
  (fB:∀b∈D::C,∀s:Hp,s b=none->xw Y [] s b) (nD:∀b∈C,D≠b) (bk:∀σ9 s s',Inv Y [] σ9 s s'->Kp σ9->Inv Y [] σ4 s s')
  (av:∀i m Q H7,W i m Q H7->(J.stop i H7/\N Q H7)\/(J.go i H7/\∃N2:List V->Hp->Prop,(∀Q s,N2 Q s->∃m',m'<m/\W (i+1) m' Q s)/\∀x H8,J.yld i H7 x H8->U x σ4 H8 fun σ9 H9=>Kp σ9/\E σ9 H9 fun b an=>
    if b=true then tIn O g M L Q N2 σ9 an else N2 Q an)) (j:LcJ Y D tn C [] σ4 W n s5) :
  wpAny (model Y.prog Y.w) Y.A (pyNext (.ref it)) (fun r s1=>match r with
   | none=>LcE Y D [] σ4 N s1
   | some v=>wpAny (model Y.prog Y.w) Y.A (letOwnedTupleGo w (.ref it) v) (fun _ s2=>wpAny (model Y.prog Y.w) Y.A (assign w Y.env v) (fun _ s3=>
     wpAny (model Y.prog Y.w) Y.A (vv l Y.env) (fun ok s4=>
      if ok=true then wpAny (model Y.prog Y.w) Y.A (eval c Y.env) (fun x s5=>
       wpAny (model Y.prog Y.w) Y.A (pyIter x) (fun i2 s6=>codeAny (model Y.prog Y.w) Y.A (.compStart (lc2 A w iter1 l G c B scope pos) 1 i2 (.ref D) Y.env) (fun r I=>match r with | .ok _=>∃m,m<n/\LcJ Y D tn C [] σ4 W m I | .error _=>False) s6) (fun _ _=>False) s5) (fun _ _=>False) s4
      else ∃m,m<n/\LcJ Y D tn C [] σ4 W m s4) (fun _ _=>False) s3) (fun _ _=>False) s2) (fun _ _=>False) s1) (fun _ _=>False) s5:=by
 have ag:=hg;have af:=hf;have ah:=bd
 unfold PG at ag;unfold PF at af;unfold PI at ah
 rw[hx] at ag af ah;obtain⟨i,ys,ai,H5,z5,I5,au,ap,b0,aq,ak,w5⟩:=j;have ao:=I5.pinned (fp:=[D]) (fun b hb=>by rw[zR.mp hb];exact fB D qI _ b0) (fun b hb=>by rw[zR.mp hb];exact⟨_,aq,fun v q=>nomatch q⟩)
 have mD:(D,({ cls:=.type "list",data:=.seq ai.toArray z5 }:Obj))∈[]++qL [D] s5.heap:=qE _ (jm (zR.mpr rfl) aq);have ae:∀{s:Hp},(∀b∈C,s b=none)->∀b∈C,xw Y ([]++qL [D] s5.heap) s b:=fun hn b hb=>by
  obtain⟨a1,a2,a3,a4,a5,a6⟩:=fB b (jA _ hb) _ (hn b hb);refine⟨a1,a2,a3,a4,a5,fun p hp=>?_⟩
  rcases zP.mp hp with q | q
  ·exact a6 p (qm _ q)
  ·rw[zR.mp (vN ((zP.mp q).resolve_left (by simp))).1];exact nD b hb
 rcases av i n ys H5 w5 with ⟨stop,q⟩ | ⟨go,N2,hN,step⟩
 ·refine thn (T.done Y rfl rfl rfl hc i _ s5 _ H5 _ ao (ae ap) au stop) fun r s6 ⟨hr,I6⟩=>?_
  subst hr;obtain⟨o6,bg,_⟩:=I6.pin (D,_) (qE _ mD);exact⟨ys,ai,H5,z5,I6.unpinned,bg,o6,ak,q⟩
 ·refine thn (T.item Y rfl rfl rfl hc i _ s5 _ H5 _ ao (ae ap) au go) fun r s6 ⟨u,hr,h6⟩=>?_
  subst hr;refine thn h6 fun _ I ⟨x,H7,I7,r7,y7,al,ay⟩=>?_
  refine thn (ag _ I _ H7 x u _ (I7.pinned (ae ay) (T.obj _ _ al)) r7 (step x H7 y7)) fun _ s8 ⟨σ8,H8,I8,ba,q8⟩=>?_
  refine thn (af _ s8 σ8 H8 _ I8 q8) fun ok s9 ⟨H9,I9,q9⟩=>?_
  have aj:=qm (qL C I.heap) mD;have kp:∀{P:List (Addr×Obj)} {s:Hp} {s':Shared},Inv Y P σ8 s s'->(∀p∈qL C I.heap,p∈P)->Inv Y [] σ4 s s'/\tn (i+1) s'.heap/\∀b∈C,s b=none:=fun {P s s'} J hP=>
   ⟨bk _ _ _ (J.pins_of fun p hp=>absurd hp (by simp)) ba,T.keep _ _ _ al fun b hb o e=>(J.pin (b,o) (qE _ (hP _ (jm hb e)))).1,fun b hb=>by
    obtain⟨o,e,_⟩:=T.obj _ _ al b hb;exact(J.pin (b,o) (qE _ (hP _ (jm hb e)))).2.1⟩
  cases ok with
  | false=>
   obtain⟨m',hm,w'⟩:=hN _ _ (show N2 ys H9 by simpa using q9)
   obtain⟨o9,bh,_⟩:=I9.pin (D,_) (qE _ aj);obtain⟨k1,k2,k3⟩:=kp I9 fun p hp=>qE _ hp
   exact⟨m',hm,i+1,ys,ai,H9,z5,k1,k2,k3,bh,o9,ak,w'⟩
  | true=>
   refine thn (ah _ s9 σ8 H9 _ I9 (show tIn O g M L ys N2 σ8 H9 by simpa using q9)) fun xv bp az=>thn az fun bo bm ⟨be,ax,bq,J2,bn,ei,ab,T2,aa,ac,W2,⟨m2,w2⟩,am⟩=>?_
   subst ei;obtain⟨bi,as,_⟩:=ab.pin (D,_) (qE _ aj);have aw:∀b∈ax,∀s:Hp,s b=none->xw Y (qL C I.heap) s b:=fun b hb s hn=>by
    obtain⟨_,a2,a3,a4,a5,a6⟩:=ac b hb;exact⟨hn,a2,a3,a4,a5,fun p hp=>a6 p ((zP.mp hp).elim (fun q=>qm _ q) fun q=>qE _ (qE _ q))⟩
   have fD:∀s:Hp,s D=none->xw Y (qL C I.heap) s D:=fun s hn=>by
    obtain⟨a1,a2,a3,a4,a5,a6⟩:=fB D qI _ hn;refine⟨a1,a2,a3,a4,a5,fun p hp=>?_⟩
    rcases zP.mp hp with q | q
    ·exact a6 p (qm _ q)
    ·exact qz (nD _ (vN q).1)
   have H:codeAny (model Y.prog Y.w) Y.A (.compLoop (lc2 A w iter1 l G c B scope pos) 1 (.ref be) (.ref D) Y.env) (fun r I=>match r with
     | .ok _=>∃m,m<n/\LcJ Y D tn C [] σ4 W m I
     | .error _=>False) bm:=by
    refine ze5 (N:=N2) hc hx bc bb he T2 fD aw (fun b hb=>(ac b hb).2.2.2.2.2 (D,_) (qE _ aj)) (ab.pins_of fun p hp=>ab.pin p (qE _ (qE _ hp))) aa (fun b hb=>(ac b hb).1) as bi ak w2 am fun s' h'=>?_
    obtain⟨Q,ar,s,z',I',bf,o',bj,q'⟩:=h';obtain⟨m',hm,w'⟩:=hN _ _ q';obtain⟨k1,k2,k3⟩:=kp I' fun p hp=>hp
    exact⟨m',hm,i+1,Q,ar,s,z',k1,k2,k3,bf,o',bj,w'⟩
   exact wT H (T2.self Y.A 0 _ _ _ aa H)
theorem zdr{C D it:Addr}{fp:List Addr}{tn:Nat->Heap->Prop}{J:It}{W:Nat->Nat->List V->Hp->Prop}{H2:Hp}{s3 s4:Shared}{m0 n:Nat}{R:Result->Shared->Prop}{js:List Nat}{σ:St}{u:List Str}{N:List V->Hp->Prop}(hc:X.calm=true)
  (hg:∀C s H Q,PG (zZ X u scope C s H Q) w U) (hf:∀C s H Q,PF (zZ X u scope C s H Q) l E) (ag:∀C s H Q,PI (zZ X u scope C s H Q) G c O) (af:∀C s H Q,PG (zZ X u scope C s H Q) G g) (ae:∀C s H Q,PF (zZ X u scope C s H Q) B M) (he:∀C s H Q,PE (zZ X u scope C s H Q) A L)
  (ah:∀C x,foldedSetIterable c (compEnvC scope (jh X.env.cells scope.names []) C X.env) x=pure x) (ac:∀b∈D::fp,∀H':Hp,H' b=none->xw (zZ X u scope C s3 H2 (D::fp)) [] H' b) (fD:∀b∈fp,D≠b) (T:Zk X.prog X.w X.K w J fp it tn)
  (ab:∀i m zs H7,W i m zs H7->(J.stop i H7/\N zs H7)\/(J.go i H7/\∃N2:List V->Hp->Prop,(∀zs H',N2 zs H'->∃m',m'<m/\W (i+1) m' zs H')/\∀x H8,J.yld i H7 x H8->U x (upS n js σ) H8 fun σ9 H9=>σ9.drop n=(upS n js σ).drop n/\E σ9 H9 fun b aa=>
    if b=true then tIn O g M L zs N2 σ9 aa else N2 zs aa))
  (j:LcJ (zZ X u scope C s3 H2 (D::fp)) D tn fp [] (upS n js σ) W m0 s4) (fin:∀s6,LcE (zZ X u scope C s3 H2 (D::fp)) D [] (upS n js σ) N s6->R (.ok .next) s6) :
  codeAny (model X.prog X.w) X.A (.compLoop (lc2 A w iter1 l G c B scope pos) 0 (.ref it) (.ref D) (compEnvC scope (jh X.env.cells scope.names []) C X.env)) R s4:=by
 have hl:=(let ⟨_,_,_,_,_,I,_,_,_,_,_,_⟩:=j;I.len:(upS n js σ).length=u.length)
 refine zfh (ah C) (LcJ (zZ X u scope C s3 H2 (D::fp)) D tn fp [] (upS n js σ) W) (fun k s5 j=>qW (zdq (iter1:=iter1) (scope:=scope) (pos:=pos) (Y:=zZ X u scope C s3 H2 (D::fp)) hc rfl (hg _ _ _ _) (hf _ _ _ _) (ag _ _ _ _) (af _ _ _ _) (ae _ _ _ _) (he _ _ _ _) T ac fD (fun σ9 H' s' J hd=>VG hl J hd) ab j) (fun r s6 h6=>?_) fun _ _ q=>q) m0 j
 cases r with
 | some v=>exact h6
 | none=>exact fin s6 h6
theorem zgE(own u:List Str)(js:List Nat)(hc:X.calm=true)(hk:scope.kind=.function)(hb:ZR scope.names X.env.scope.names X.N u js=true)(hi:PI X w iter1 a0)
  (hg:∀C s H i,PG (zZ X (own++u) scope C s H i) w U) (hf:∀C s H i,PF (zZ X (own++u) scope C s H i) l E)
  (aa:∀C s H i,PI (zZ X (own++u) scope C s H i) G c O) (Y:∀C s H i,PG (zZ X (own++u) scope C s H i) G g) (N:∀C s H i,PF (zZ X (own++u) scope C s H i) B M) (he:∀C s H i,PE (zZ X (own++u) scope C s H i) A L)
  (hs:∀x,foldedSetIterable iter1 X.env x=pure x:=by intro _;rfl) (ab:∀C x,foldedSetIterable c (compEnvC scope (jh X.env.cells scope.names []) C X.env) x=pure x:=by intro _ _;rfl):PE X (lc2 A w iter1 l G c B scope pos) (zhD a0 own.length js U E O g M L):=by
 intro ae s σ H Q I h;rw[eval_ListComp];exact zdG own u js hk hb hi hs I h (fun C D it fp tn J W H2 s3 s4 m0 R a b T tl j fin=>zdr hc hg hf aa Y N he ab a b T tl j fin) fun s6 D C H6 m hn all _ q=>⟨m,hn,fun h7 ac=>⟨.ref D,H6,all h7 fun b o hb e=>ac.extBut b o hb e,rfl,q⟩⟩
end
section
variable{X:Cx}
inductive Z3(K:W.Frag)(c:List V)(H:Hp)(Q:VK):Prop
 | mk (p:Addr) (b:List Bool) (_:c=[.ref p]) (_:SqL K H p (b.map V.bl)) (_:Q (.bl (b.any id)) H):Z3 K c H Q
theorem Xo(hc:X.calm=true):CallR X (.builtin "any") (Z3 X.K):=by
 intro M s σ H xs us Q I r h;obtain⟨p,c,rfl,hq,q⟩:=h;obtain⟨u,rfl,G⟩:=vF r;cases G;obtain⟨g,J,pl,hz⟩:=I.list hq;have D:=pl.isList;have E:p≠s.heap.objs.size:=by
  obtain⟨o,e,_⟩:=D;exact qw (zN e)
 refine call_any_walk (wpAny_pyIter_list D ?_)
 refine⟨s.heap.objs.size,_,_,_,_,_,fun i=>c.getD i false,rfl,Jc (prog:=X.prog) (w:=X.w) (A:=X.A.in1) (I.ok.hd hc) _ p E g.toArray,⟨⟨_,qJ _ rfl,rfl,rfl⟩,D.push _⟩,?_,fun Y tk hk=>?_⟩
 ·intro i v s' O E' C hQ
  have C:g.toArray[i]? =some v:=C;have e1:g[i]? =some v:=by simpa using C
  have l:i<c.length:=by
   have h1:=(zL.mp e1).1;have h2:=J.length;rw[zp] at h2;omega
  have e2:(c.map V.bl)[i]? =some (.bl c[i]):=by simp[l]
  obtain⟨u',L,G⟩:=J.get e2;rw[e1] at L;cases L;cases G;have T:c.getD i false=c[i]:=by simp[l]
  have m:O (c.getD i false) s':=hQ;rw[T] at m;exact yq m
 ·have k:∀b o,s.heap.get? b=some o->Y.get? b=some o:=fun b o e=>hk b o (by simp;exact qw (zN e)) (qG _ e)
  have U:(List.range g.toArray.size).any (fun i=>c.getD i false)=c.any id:=by
   have B:g.toArray.size=c.length:=by
    have:=J.length;rw[zp] at this;simp only[z9];omega
   rw[B,wB,vZ,vZ];constructor
   ·rintro⟨i,l,e⟩
    have l:=x5.mp l;exact⟨c[i],vY l,by simpa [l] using e⟩
   ·rintro⟨b,hb,e⟩
    obtain⟨i,l,rfl⟩:=Jp.mp hb;exact⟨i,x5.mpr l,by simpa [l] using e⟩
  exact⟨.bl (c.any id),H,I.kept k,by rw[U];rfl,q⟩
theorem WT:bootBuiltins "any" = some (.builtin "any"):=by decide +kernel
theorem QT:∀{c:List Int} {b:List Value},Vals (c.map V.int) b->IntsAre b c
 | [],b,h=>by cases h;exact .nil
 | n::c,b,h=>by
  cases h with
  | cons r q=>
   obtain⟨t,rfl⟩:=r;exact .cons n t (QT q)
theorem ZO{k:Int}:∀{c:List Int} {b:List Value},Vals (c.map V.int) b->b.countP (isInt k)=c.count k
 | [],b,h=>by cases h;rfl
 | n::c,b,h=>by
  cases h with
  | cons r q=>
   obtain⟨t,rfl⟩:=r;rw[List.countP_cons,Jg,ZO q];rfl
inductive zaM(x:V)(c:List V)(H:Hp)(Q:VK):Prop
 | mk (l:Addr) (b:List Int) (k:Int) (_:x=.ref l) (_:c=[.int k]) (_:H l=some (.lst (b.map V.int))) (_:Q (.int (b.count k)) H):zaM  x c H Q
theorem zbQ:MtM X "list.count" zaM:=by
 intro c s σ H x D v C Q I A w h;obtain⟨l,i,k,rfl,rfl,g,q⟩:=h;cases A;obtain⟨u,rfl,m⟩:=w.one;obtain⟨t,rfl⟩:=m;obtain⟨z,b,n,r,B,e⟩:=I.lstM g;refine call_meets F.slot_list_count ⟨_,e,rfl⟩ F.entry_list_count (F.args_list_count_2 _ _) (MeetsSeq.list_count l b.toArray n (.int k t) (isInt k) (fun y hy=>eq_isInt k t (QT r) y (by simpa using hy))) ⟨e,?_⟩
 refine⟨.int (i.count k),H,I.tok _,⟨s.toks,?_⟩,q⟩
 show Value.int ((b.toArray.toList.countP (isInt k):Nat):Int) s.toks=_;rw[show b.toArray.toList=b by simp,ZO r]
theorem Xg{α β:Type}(f:α->β):∀(l:List α) (i:Nat),(l.eraseIdx i).map f=(l.map f).eraseIdx i
 | [],_=>rfl
 | _::_,0=>rfl
 | a::r,i+1=>by
  show f a::(r.eraseIdx i).map f=f a::(r.map f).eraseIdx i;rw[Xg f r i]
inductive Wd(x:V)(c:List V)(H:Hp)(Q:VK):Prop
 | mk (l:Addr) (b:List Int) (k:Int) (_:x=.ref l) (_:c=[.int k]) (_:H l=some (.lst (b.map V.int))) (_:k∈b) (_:Q .non (upd H l (.lst ((b.erase k).map V.int)))):Wd  x c H Q
theorem Yu:MtM X "list.remove" Wd:=by
 intro G s σ H x vs v us Q I T O h;obtain⟨l,b,k,rfl,rfl,C,hk,q⟩:=h;cases T;obtain⟨u,rfl,A⟩:=O.one;obtain⟨t,rfl⟩:=A;obtain⟨z,c,n,r,M,e⟩:=I.lstM C;rw[zp] at M z;have U:b.idxOf k<b.length:=zdS hk;have g:∀i (D:i<c.length),isInt k c[i]=(b[i]'(by omega)==k):=fun i D=>by
  have e2:(b.map V.int)[i]? =some (.int (b[i]'(by omega))):=by simp[show i<b.length by omega]
  obtain⟨u',B,A⟩:=r.get e2;rw[qR D] at B;cases B;obtain⟨Y,J⟩:=A;rw[J];rfl
 refine call_meets F.slot_list_remove ⟨_,e,rfl⟩ F.entry_list_remove (F.args_list_remove_2 _ _) (MeetsSeq.list_remove l c.toArray n (.int k t) (isInt k) (fun y hy=>eq_isInt k t (QT r) y (by simpa using hy)) (b.idxOf k) (by simp;omega) ?_ ?_ (by simp;omega)) ⟨e,?_⟩
 ·rw[List.getElem_toArray,g _ (by omega)]
  simp
 ·intro m N w
  rw[List.getElem_toArray,g _ (by simpa using N)]
  have:=List.not_of_lt_findIdx (p:=(·==k)) (xs:=b) (i:=m) (by exact w)
  simpa using this
 refine⟨.non,_,I.lset (its':=c.eraseIdx (b.idxOf k)) C e ?_ ?_ ?_,rfl,q⟩
 ·apply Array.toList_inj.mp
  simp[Array.toList_eraseIdxIfInBounds]
 ·have L:(b.erase k).map V.int=(b.map V.int).eraseIdx (b.idxOf k):=by rw[List.erase_eq_eraseIdx_of_idxOf rfl,Xg]
  rw[L];exact r.eraseIdx _
 ·rw[zp]
  exact jd (List.length_erase_le) z
end
theorem WB{K:W.Frag}{a:Addr}{xs:List V}{g:TG}{J:TT}{I:TE}{A:St}{n:Nat}{R:List V->Hp->Prop}{H:Hp}(Pv:Nat->List V->Hp->Prop)(h0:Pv 0 [] H)
  (h1:∀i c H,Pv i c H->SqT K H a xs)
  (hs:∀i x c H T,xs[i]? =some x->Pv i c H->H T=none->g (.ref T) A (upd H T (.tup [.int i,x])) fun s D=>s.drop n=A.drop n/\J s D fun b u=>
   if b=true then I s u fun v E=>c.length<sizeLine/\Pv (i+1) (c++[v]) E else Pv (i+1) c u)
  (hd:∀c H,Pv xs.length c H->c.length<=sizeLine/\R c H) :
  ∃W:Nat->Nat->List V->Hp->Prop,(∃m,W 0 m [] H)/\∀i m c l,W i m c l ->
   ((zd0 K a).stop i l/\c.length<=sizeLine/\R c l) \/
   ((zd0 K a).go i l/\∃N:List V->Hp->Prop,(∀c B,N c B->∃G,G<m/\W (i+1) G c B)/\∀x C,(zd0 K a).yld i l x C->g x A C fun s D=>s.drop n=A.drop n/\J s D fun b u=>
    if b=true then I s u fun y E=>c.length<sizeLine/\N (c++[y]) E else N c u):=by
 refine⟨fun i m c l=>m=xs.length-i/\i<=xs.length/\Pv i c l,⟨_,rfl,qX _,h0⟩,?_⟩
 rintro i m c l ⟨rfl,Y,p⟩;have q:=h1 i c l p;by_cases w:i<xs.length
 ·refine .inr ⟨⟨xs,xs[i],q,by simp[w]⟩,Pv (i+1),fun U B M=>⟨_,by omega,rfl,w,M⟩,fun x C y=>?_⟩
  obtain⟨T,z,e1,L,e2,y⟩:=y;subst e1 e2;exact hs i z c l T (y xs q) p L
 ·have e:i=xs.length:=by omega
  subst e;obtain⟨O,Q⟩:=hd c l p;exact .inl ⟨⟨xs,q,zQ _⟩,O,Q⟩
theorem zds{K:W.Frag}{a:Addr}{xs:List V}{g:TG}{L:TT}{M:TI}{G:TG}{A:TT}{J:TE}{B:St}{n:Nat}{R:List V->Hp->Prop}{H:Hp}(Pv:Nat->List V->Hp->Prop)(h0:Pv 0 [] H)
  (h1:∀i c H,Pv i c H->SqL K H a xs)
  (hs:∀i x c H,xs[i]? =some x->Pv i c H->g x B H fun s E=>s.drop n=B.drop n/\L s E fun b u=>
   if b=true then tIn M G A J c (Pv (i+1)) s u else Pv (i+1) c u)
  (hd:∀c H,Pv xs.length c H->c.length<=sizeLine/\R c H) :
  ∃W:Nat->Nat->List V->Hp->Prop,(∃m,W 0 m [] H)/\∀i m c l,W i m c l ->
   ((Itl K a).stop i l/\c.length<=sizeLine/\R c l) \/
   ((Itl K a).go i l/\∃N:List V->Hp->Prop,(∀c C,N c C->∃I,I<m/\W (i+1) I c C)/\∀x D,(Itl K a).yld i l x D->g x B D fun s E=>s.drop n=B.drop n/\L s E fun b u=>
    if b=true then tIn M G A J c N s u else N c u):=by
 refine⟨fun i m c l=>m=xs.length-i/\i<=xs.length/\Pv i c l,⟨_,rfl,qX _,h0⟩,?_⟩
 rintro i m c l ⟨rfl,Y,p⟩;have q:=h1 i c l p;by_cases w:i<xs.length
 ·refine .inr ⟨⟨xs,xs[i],q,by simp[w]⟩,Pv (i+1),fun U C O=>⟨_,by omega,rfl,w,O⟩,fun x D y=>?_⟩
  obtain⟨e,y⟩:=y;subst e;exact hs i x c _ (y xs q) p
 ·have e:i=xs.length:=by omega
  subst e;obtain⟨Q,T⟩:=hd c l p;exact .inl ⟨⟨xs,q,zQ _⟩,Q,T⟩
theorem zhc{K:W.Frag}{a:Addr}{xs:List V}{g:TG}{L:TT}{J:TE}{A:St}{N:List V->Hp->Prop}{M:List V}{H:Hp}(Pv:Nat->List V->Hp->Prop)(h0:Pv 0 M H)
  (h1:∀i c H,Pv i c H->SqT K H a xs)
  (hs:∀i x c H,xs[i]? =some x->Pv i c H->g x A H fun s D=>Sub A s/\L s D fun b u=>
   if b=true then J s u fun v E=>c.length<sizeLine/\Pv (i+1) (c++[v]) E else Pv (i+1) c u)
  (hd:∀c H,Pv xs.length c H->N c H) :
  ∃W:Nat->Nat->List V->Hp->Prop,(∃m,W 0 m M H)/\∀i m c l,W i m c l ->
   ((Itt K a).stop i l/\N c l) \/
   ((Itt K a).go i l/\∃G:List V->Hp->Prop,(∀c B,G c B->∃I,I<m/\W (i+1) I c B)/\∀x C,(Itt K a).yld i l x C->g x A C fun s D=>Sub A s/\L s D fun b u=>
    if b=true then J s u fun y E=>c.length<sizeLine/\G (c++[y]) E else G c u):=by
 refine⟨fun i m c l=>m=xs.length-i/\i<=xs.length/\Pv i c l,⟨_,rfl,qX _,h0⟩,?_⟩
 rintro i m c l ⟨rfl,T,p⟩;have q:=h1 i c l p;by_cases w:i<xs.length
 ·refine .inr ⟨⟨xs,xs[i],q,by simp[w]⟩,Pv (i+1),fun Q B O=>⟨_,by omega,rfl,w,O⟩,fun x C y=>?_⟩
  obtain⟨e,y⟩:=y;subst e;exact hs i x c _ (y xs q) p
 ·have e:i=xs.length:=by omega
  subst e;exact .inl ⟨⟨xs,q,zQ _⟩,hd c l p⟩
section
variable{X:Cx}{i b:Expr}{g:List Expr}{c:Expr}{l:List Expr}{scope:Scope}{w:Pos}{L u:TI}{I m:TT}{G:TE}{x y z:Str}{B D E J N:Pos}{A M:Nat}
theorem zer(Q:List Str)(js:List Nat)(hc:X.calm=true)(hk:scope.kind=.function)(hb:wX scope.names X.env.scope.names X.N [x,y,z] Q js=true)(hi:PI X (.Tuple [.Name x B,.Name y D] A J) b u)
  (hf:∀C s H O,PF (zZ X ([x,y,z]++Q) scope C s H O) g m) (Y:∀C s H O,PI (zZ X ([x,y,z]++Q) scope C s H O) (.Name z E) c L) (U:∀C s H O,PF (zZ X ([x,y,z]++Q) scope C s H O) l I) (he:∀C s H O,PE (zZ X ([x,y,z]++Q) scope C s H O) i G)
  (hs:∀x,foldedSetIterable b X.env x=pure x:=by intro _;rfl) (a0:∀C x,foldedSetIterable c (compEnvC scope (jh X.env.cells scope.names []) C X.env) x=pure x:=by intro _ _;rfl) :
  PE X (lc2 i (.Tuple [.Name x B,.Name y D] A J) b g (.Name z E) c l scope w) (zhD u 3 js (zb0 X.K 2 (yk (vm 0) (yk (vm 1) zdx))) m L (vm 2) I G):=by
 obtain⟨h1,h2,T⟩:=vV hb;refine zgE [x,y,z] Q js hc hk h1 hi (fun C s H O=>?_) hf Y (fun C s H O=>wd (h2 z (by simp)) T rfl) U he hs a0
 exact jN (X:=zZ X ([x,y,z]++Q) scope C s H O) hc (zK (wd (h2 x (by simp)) T rfl) (zK (wd (h2 y (by simp)) T rfl) jv))
end
section
variable{X:Cx}
theorem zen{K:W.Frag}(h:X.K=K){g l:Expr}{b:TE}(c:PE X l b):PI X g l (ziq K b):=by rw[<- h];exact vB c
def tLT(K:W.Frag)(t:TE):TT:=fun σ H Q=>t σ H fun x b=>∃a c,x=.ref a/\SqL K b a c/\Q (!c.isEmpty) b
theorem zef{e:Expr}{t:TE}(h:PE X e t)(w:∀b,isTrue e X.env b=(do let v<-b;standAt e.pos;holding [v] (truthy v)):=by intro _;rfl):PT X e (tLT X.K t):=by
 intro c s σ H Q I B;refine isTrue_plain (thn (h c s σ H _ I B) fun v s1 ⟨x,m,g,G,E⟩=>?_) (w _)
 obtain⟨a,u,rfl,hq,q⟩:=E;cases(show v=_ from G)
 obtain⟨i,l,D,C⟩:=g.list hq;have A:=l.length;refine wpAny_truthy_list D.isList (by rw[z9,<- A];rw[sizeLine_eq] at C;omega) ?_
 have e:(!u.isEmpty)=(!i.toArray.isEmpty):=by
  cases u with
  | nil=>cases l;rfl
  | cons y J=>cases l;rfl
 first
  | exact⟨m,g.tok _,by rw[e] at q;simpa using q⟩
  | exact⟨m,g,by rw[e] at q;simpa using q⟩
end
section
variable{X:Cx}{l A b:Expr}{c:List Expr}{L i:Expr}{m:List Expr}{scope:Scope}{u:Pos}{N C:TI}{g D:TG}{J w:TT}{I:TE}{x z:Str}{G H M B:Pos}{E s:Nat}
end
def Xe:Nat->List Obj->PySem.W.Frag
 | _,[]=>[]
 | n,o::r=>match o.data with
  | .freed=>Xe (n+1) r
  | _=>(n,o)::Xe (n+1) r
def XV(h:Heap):PySem.W.Frag:=Xe 0 h.objs.toList
theorem WF:∀{l:List Obj} {n a:Nat} {o:Obj},(Xe n l).lookup a=some o->n<=a/\l[a-n]? =some o/\o.data≠.freed
 | [],n,a,o,h=>by cases h
 | x::r,n,a,o,h=>by
  have b:(Xe (n+1) r).lookup a=some o->n<=a/\(x::r)[a-n]? =some o/\o.data≠.freed:=fun h=>by
   obtain⟨h1,h2,c⟩:=WF h;refine⟨by omega,?_,c⟩
   rw[show a-n=(a-(n+1))+1 by omega];exact h2
  unfold Xe at h;split at h
  ·exact b h
  ·rename_i g
   rw[jI] at h;split at h
   ·rename_i e
    cases h;have:=xr.mp e;subst this;exact⟨zQ _,by simp,g⟩
   ·exact b h
theorem zb3(h:Heap):(XV h).In h:=fun a o e=>by
 obtain⟨_,h2,g⟩:=WF e;have h2:h.objs[a]? =some o:=by simpa using h2
 unfold Heap.get?;rw[h2];obtain⟨c,d,b,i⟩:=o;cases b<;>first| rfl | exact absurd rfl g
inductive Fd(K:W.Frag)(b:Str)(st:Stmt):Prop
 | mk (f:Addr) (c:FuncData) (a:PySem.W.nsIn K mainGlobals b=some (some (.ref f))) (F:Fun K b b st f c):Fd K b st
def zio:Value->Bool
 | .none=>true
 | _=>false
def XW(K:W.Frag)(c:Str):Option (Arguments×FuncBody×Scope×Bool):=match PySem.W.nsIn K mainGlobals c with
 | some (some (.ref f))=>(match K.lookup f with
  | some ⟨_,_,.func b,_⟩=>some (b.params,b.body,b.scope,b.name==c&&(b.qualname==c&&(b.globals==mainGlobals&&(b.closure.isEmpty&&(zio b.defaults&&(b.builtins==builtinsNs&&PySem.W.codeIn K b.code c))))))
  | _=>none)
 | _=>none
def za6(st:Stmt):Option (Arguments×FuncBody×Scope×Bool):=some (Zb st,.stmts (xP st),zr st,true)
theorem ziy{K:W.Frag}{C:Str}{st:Stmt}(e:XW K C=za6 st):Fd K C st:=by
 unfold XW za6 at e;split at e
 ·rename_i f G
  split at e
  ·rename_i c d E sl A
   simp only[Vj,Prod.mk.injEq,j8] at e;obtain⟨e1,e2,w,b,g,i,l,m,s,B⟩:=e;obtain⟨H,U,Q,J,Y,N,M,u,O,D,T,I,L,ct,bl⟩:=E;dsimp only at e1 e2 w b g i l m s B;have b:=xr.mp b;have g:=xr.mp g;have i:=xr.mp i;have l:=List.isEmpty_iff.mp l;have s:=xr.mp s;have m:u=.none:=by cases u<;>first| rfl | exact Bool.noConfusion m
   subst e1 e2 w b g i l m s;exact⟨f,_,G,⟨⟨_,_,_,_,_,_,_,_,_,rfl,A,B⟩,by unfold PySem.W.keepIn;dsimp only;rw[A]⟩⟩
  ·cases e
 ·cases e
theorem zhf{K:W.Frag}{l:List (Str×Stmt)}(e:l.map (fun x=>XW K x.1)=l.map fun x=>za6 x.2)(i:Nat){b:Str}{st:Stmt}(h:l[i]? =some (b,st)):Fd K b st:=by
 have:=congrArg (fun z=>z[i]?) e
 simp only[zU,h,yM,Vj] at this;exact ziy this
theorem zfg{K:W.Frag}{l:List Str}(e:l.map (fun x=>PySem.W.nsIn K mainGlobals x)=l.map fun _=>some none){x:Str}(i:Nat)(h:l[i]? =some x):PySem.W.nsIn K mainGlobals x=some none:=by
 have:=congrArg (fun z=>z[i]?) e
 simpa only[zU,h,yM,Vj] using this
def zd2:List Value->Option (List Str)
 | []=>some []
 | .str x _::r=>(zd2 r).map (x:: ·)
 | _=>none
def W1(K:W.Frag)(c:Str):Option (List Str×Bool):=match PySem.W.nsIn K mainGlobals c with
 | some (some (.ref a))=>(match K.lookup a with
  | some ⟨.type t,_,.seq b _,_⟩=>(zd2 b.toList).map fun l=>(l,t == "tuple" && decide (b.size<=1000))
  | _=>none)
 | _=>none
theorem JH:∀{b:List Value} {l:List Str},zd2 b=some l->Vals (l.map V.str) b
 | [],l,h=>by cases h;exact .nil
 | v::r,l,h=>by
  cases v<;>first| (cases h;done) | skip
  simp only[zd2] at h;obtain⟨c,h1,rfl⟩:=qr.mp h;exact .cons ⟨_,rfl⟩ (JH h1)
theorem zhw{K:W.Frag}{c:Str}{l:List Str}(e:W1 K c=some (l,true)):∃a:Addr,PySem.W.nsIn K mainGlobals c=some (some (.ref a))/\∀H,SqT K H a (l.map V.str):=by
 unfold W1 at e;split at e
 ·rename_i a i
  split at e
  ·rename_i t _ w n u m
   obtain⟨s,h1,h2⟩:=qr.mp e;simp only[Prod.mk.injEq,j8,decide_eq_true_eq] at h2;obtain⟨rfl,b,g⟩:=h2;have b:=xr.mp b;subst b;exact⟨a,i,fun H=>.inr ⟨_,_,_,m,rfl,rfl,ZA (zbE g),JH h1⟩⟩
  ·cases e
 ·cases e
def zeX(c:List (Str×Stmt))(b:List Str)(g:List (Str×List Str))(K:W.Frag):List (Option (Arguments×FuncBody×Scope×Bool))×List (Option (Option Value))×List (Option (List Str×Bool)):=
 (c.map fun x=>XW K x.1,b.map fun x=>PySem.W.nsIn K mainGlobals x,g.map fun x=>W1 K x.1)
def ze7(c:List (Str×Stmt))(b:List Str)(g:List (Str×List Str)):List (Option (Arguments×FuncBody×Scope×Bool))×List (Option (Option Value))×List (Option (List Str×Bool)):=
 (c.map fun x=>za6 x.2,b.map fun _=>some none,g.map fun x=>some (x.2,true))
def zhj(s:Stmt):Pos:=match s with
 | .FunctionDef _ _ _ _ _ _ _ _ _ p=>p
 | _=>⟨0,0,0,0⟩
def defRec(x:Str)(s:Stmt):DefRec:=⟨x,Zb s,xP s,zr s,zhj s⟩
structure Tp(P:Program)(w:World)(K:W.Frag)(mg:Str->Option Value)(base h:Heap)(ds:List (Str×Stmt))(bs:List Str)(ts:List (Str×List Str)):Prop where
 x:K.In h
 g:h.Ns mainGlobals mg
 e:zeX ds bs ts K=ze7 ds bs ts
section
variable{P:Program}{w:World}{K:W.Frag}{g:Str->Option Value}{c h:Heap}{s:List (Str×Stmt)}{u:List Str}{A:List (Str×List Str)}
theorem Tp.fd(Z:Tp P w K g c h s u A)(i:Nat){b:Str}{st:Stmt}(l:s[i]? =some (b,st)):Fd K b st:=zhf (congrArg Prod.fst Z.e) i l
theorem Tp.bl(Z:Tp P w K g c h s u A)(i:Nat){x:Str}(b:u[i]? =some x):g x=none:=PySem.W.mg_none_of Z.x Z.g (zfg (congrArg (fun z=>z.2.1) Z.e) i b)
theorem Tp.tx(Z:Tp P w K g c h s u A)(i:Nat){x:Str}{l:List Str}(b:A[i]? =some (x,l)):∃a:Addr,g x=some (.ref a)/\∀H,SqT K H a (l.map V.str):=by
 have:=congrArg (fun z=>z.2.2[i]?) Z.e
 simp only[zeX,ze7,zU,b,yM,Vj] at this;obtain⟨a,h1,h2⟩:=zhw this;exact⟨a,PySem.W.mg_of Z.x Z.g h1,h2⟩
theorem Tp.dfn(Z:Tp P w K g c h s u A)(i:Nat){B:Str}{st:Stmt}{k:Nat}{C:List Str}{H:Sp}(J:s[i]? =some (B,st))
  (ok:∀f fd,Fun K B B st f fd->g B=some (.ref f)->Binds K fd C []->FnOk P w K g c CX0 k f fd C H)
  (hb:∀(kV G L:Value) (I:Option Addr) (E ct:Value) (D:List Value),D.length=C.length->bindArgs (PySem.W.fnOf B B (Zb st) (xP st) (zr st) .none kV G L I E ct) ⟨D,[]⟩=pure (C.zip D):=by
   intro _ _ _ _ _ _ D l;first| (obtain⟨_,rfl⟩:=zin l;rfl) | (obtain⟨_,_,rfl⟩:=zim l;rfl) | (obtain⟨_,_,_,rfl⟩:=zil l;rfl) | (obtain⟨_,_,_,_,rfl⟩:=zik l;rfl) | (obtain⟨_,_,_,_,_,rfl⟩:=zij l;rfl) | (obtain⟨_,_,_,_,_,_,rfl⟩:=zii l;rfl) | (exact match D,l with | [],_=>rfl)) :
  Dfn P w K g c B k C H:=by
 obtain⟨f,fd,a,F⟩:=Z.fd i J;have b:=F.binds hb;have m:=PySem.W.mg_of Z.x Z.g a;exact⟨f,fd,ok f fd F m b,m,F.kp,b⟩
end
inductive Seen{β:Type}(f:PySem.W.Frag->β)(v:β)(w:World)(h:Heap):Prop
 | mk (K:W.Frag) (k:K.In h) (e:f K=v):Seen f v w h
theorem Seen.keeps{β:Type}{f:PySem.W.Frag->β}{v:β}(w:World)(h c:Heap)(s:Seen f v w h)(k:∀b o,h.get? b=some o->c.get? b=some o):Seen f v w c:=by
 obtain⟨K,x,e⟩:=s;exact⟨K,x.keeps k,e⟩
theorem walkS{l:PySem.W.OpenLaw}{n k:Nat}{q:Program}{i:List Str}{O:(Str->Option Value)->Heap->Prop}{β:Type}{f:PySem.W.Frag->β}{v:β}{d:DefRec}{sp:PySem.W.Frag->Sp}{x:Str}
  (hn:l.most=some n) (J:n<=sizeLine) (E:d.params.defaults=[]) (hr:Room k callerA)
  (F:∀(w:World) (m:Str->Option Value) (B:Addr) (K:W.Frag) (h:Heap),K.In h->f K=v->h.Ns mainGlobals m->m d.name=some (.ref B) ->
   ∃D:FuncData,(∀(s:Shared) (u:Value),BindsTo s D ⟨[u],[]⟩ [(x,u)]) /\
    ∀b:Heap,K.In b->b.Ns mainGlobals m->FnOk l.prog w K m b CX0 k B D [x] (sp K))
  (L:∀(K:W.Frag) (H:Hp) (a:Addr) (C:List Int),C.length<=n->zfn H->SqL K H a (C.map V.int)->sp K [.ref a] H (fun v _=>v=.bl true) fun _ _ _=>False) :
  PySem.W.WalkO q i O (Seen f v) l.row.toRowW d [] (fun f N=>PySem.call f N):=by
 refine Att.attach_call hn E fun w s₀ s₁ m mb B o pm cd Q a N C G Y ho hd a0 I A g c hg=>?_
 obtain⟨K,M,e⟩:=Y;obtain⟨D,hb,T⟩:=F w m B K _ M e G.T.g I;exact WC M G.T.g G.T.b G.T.builtins G.T.nolimit hg A g (jd c J) hr T hb (fun H U hS=>L K H a C c U hS) fun H e s' z=>z
theorem ownHead{l:PySem.W.OpenLaw}{q:Program}{b:List Str}{β:Type}{f:PySem.W.Frag->β}{v:β}{d:DefRec}(N:Nat)
  (g:l.wellSaid=true)
  (left:∀w,(PySem.W.openEnds treeTable l.prog w N).map (fun s=>(PySem.W.openSeen q b (importedModules l.prog.main.body) (fun _=>true) true s,f (XV s.heap)))=some (PySem.W.openGood q b,v))
  (c:PySem.W.defOf q l.name=some (d,[])) (hp:l.prog.theDef l.name=some (d.params,d.body,d.scope)) (hk:PySem.W.kwWritten? d.params.kwonlyargs d.params.kw_defaults=some [])
  (ok:(PySem.W.chainsOk q&&PySem.W.opensWell l.prog&&(PySem.W.frees l.row.toRowW&&l.row.within.isEmpty))=true) (hb:l.prog.bare) (i:l.row.toRowW.promised)
  (call:PySem.W.WalkO q b (fun _ _=>True) (Seen f v) l.row.toRowW d [] fun f u=>PySem.call f u):l.Holds:=
 PySem.W.holds_law g fun m=>PySem.W.holds_open (r:=l.row) (Yf:=fun s=>f (XV s.heap)) (Ya:=fun _=>v) left (fun _ s e=>⟨_,zb3 s.heap,e⟩) Seen.keeps (fun _ _=>trivial) (fun _ _ _ _ _=>trivial) c hp hk (fun _ _=>PySem.W.recFacts_nil rfl) (Bool.or_true _) m ok hb i call
def topL(i:Nat):Stmt:=PySem.Challenge.pw_pickboard_k70_whole_each_part_once.main.body.getD i (.Pass ⟨0,0,0,0⟩)
structure Blt(mg:Str->Option Value):Prop where
 abs:mg "abs" = none
 all:mg "all" = none
 any:mg "any" = none
 bool:mg "bool" = none
 dict:mg "dict" = none
 divmod:mg "divmod" = none
 enumerate:mg "enumerate" = none
 int:mg "int" = none
 isinstance:mg "isinstance" = none
 len:mg "len" = none
 list:mg "list" = none
 max:mg "max" = none
 min:mg "min" = none
 range:mg "range" = none
 repr:mg "repr" = none
 sorted:mg "sorted" = none
 str:mg "str" = none
 sum:mg "sum" = none
 tuple:mg "tuple" = none
 zip:mg "zip" = none
theorem vU:bootBuiltins "abs" = some (.builtin "abs"):=by decide +kernel
theorem QZ:bootBuiltins "max" = some (.builtin "max"):=by decide +kernel
theorem WQ:bootBuiltins "min" = some (.builtin "min"):=by decide +kernel
theorem WR:bootBuiltins "divmod" = some (.builtin "divmod"):=by decide +kernel
theorem wW:bootBuiltins "int" = some (.type "int"):=by decide +kernel
theorem xK:bootBuiltins "list" = some (.type "list"):=by decide +kernel
theorem xg:bootBuiltins "tuple" = some (.type "tuple"):=by decide +kernel
theorem WP:bootBuiltins "str" = some (.type "str"):=by decide +kernel
theorem Zw:bootBuiltins "bool" = some (.type "bool"):=by decide +kernel
theorem jC:bootBuiltins "sorted" = some (.builtin "sorted"):=by decide +kernel
theorem zb8:bootBuiltins "dict" = some (.type "dict"):=by decide +kernel
def yS(i:Int):Int:=if i<0 then -i else i
def zhX:Str:= "abcdefghijklmnopqrstuvwxyz"
def WA(c:Nat):Bool:=decide (97<=c)&&decide (c<=122)
theorem zdn:zhX.cps.toList=List.range' 97 26:=by decide +kernel
def YE:List (Str×Stmt):=[(("is_number":Str),topL 1),(("is_number_within":Str),topL 2),(("way_between":Str),topL 3),(("length_of":Str),topL 4),(("turned":Str),topL 6),(("next_by":Str),topL 7),(("steps_from":Str),topL 8),(("all_from":Str),topL 9),(("ahead_of":Str),topL 10),(("feeders_for":Str),topL 11),(("are_same":Str),topL 13),(("is_same":Str),topL 14),(("events_of":Str),topL 18),(("parts_of":Str),topL 19),(("is_lost":Str),topL 20),(("next_feeder":Str),topL 21),(("is_lucky":Str),topL 22),(("pick_events":Str),topL 23),(("lay_event":Str),topL 24),(("trip_events":Str),topL 25),(("way_by":Str),topL 26),(("run_plan":Str),topL 27),(("shows_run":Str),topL 28),(("is_laid_right":Str),topL 29),(("lies_right":Str),topL 30),(("order_of":Str),topL 32),(("is_whole":Str),topL 33),(("_law_box":Str),topL 35),(("_law_take":Str),topL 36),(("_law_folded":Str),topL 37),(("_law_spelled":Str),topL 38),(("_law_name":Str),topL 39),(("_law_names":Str),topL 40),(("_law_place":Str),topL 41),(("_law_places":Str),topL 42),(("_law_shuffled":Str),topL 43),(("_law_feeders":Str),topL 44),(("_law_aheads":Str),topL 45),(("_law_job":Str),topL 46),(("_law_order":Str),topL 47),(("_law_trip":Str),topL 48),(("_law_plan":Str),topL 49),(("_law_way":Str),topL 50),(("_law_over":Str),topL 51),(("_law_luck":Str),topL 52),(("_law_case":Str),topL 53),(("_law_walk":Str),topL 54),(("_law_far":Str),topL 55),(("_law_run_right":Str),topL 56),(("_law_right":Str),topL 57),(("law":Str),topL 58)]
def zb9:List Str:=[("abs":Str),("all":Str),("any":Str),("bool":Str),("dict":Str),("divmod":Str),("enumerate":Str),("int":Str),("isinstance":Str),("len":Str),("list":Str),("max":Str),("min":Str),("range":Str),("repr":Str),("sorted":Str),("str":Str),("sum":Str),("tuple":Str),("zip":Str)]
def zbB:List (Str×List Str):=[(("TRIED":Str),[("picked":Str),("missed":Str)]),(("GIVEN_UP":Str),[("behind":Str),("none":Str),("failed":Str),("dropped":Str)])]
def zhM:List Str:=YE.dropLast.map (·.1)++[("GIVEN_UP":Str),("TRIED":Str),("__name__":Str)]
def zgh:Program:={ PySem.Challenge.pw_pickboard_k70_whole_each_part_once with main:={ PySem.Challenge.pw_pickboard_k70_whole_each_part_once.main with body:=[topL 58] } }
theorem head1:PySem.Challenge.rw_pickboard_k70_whole_each_part_once.wellSaid=true:=by kernel_rfl
theorem head2:∀w,(PySem.W.openEnds treeTable PySem.Challenge.pw_pickboard_k70_whole_each_part_once w 9999).map (fun s=>(PySem.W.openSeen zgh zhM (importedModules PySem.Challenge.pw_pickboard_k70_whole_each_part_once.main.body) (fun _=>true) true s,zeX YE zb9 zbB (XV s.heap)))=some (PySem.W.openGood zgh zhM,ze7 YE zb9 zbB):=fun w=>by kernel_rfl
theorem head3:(PySem.W.chainsOk zgh&&PySem.W.opensWell PySem.Challenge.pw_pickboard_k70_whole_each_part_once&&(PySem.W.frees PySem.Challenge.rw_pickboard_k70_whole_each_part_once.row.toRowW&&PySem.Challenge.rw_pickboard_k70_whole_each_part_once.row.within.isEmpty))=true:=by kernel_rfl
section
variable{κ:Type}[DecidableEq κ]
def jf(b:List (κ×V))(k:κ):Option V:=(b.find? fun c=>decide (c.1=k)).map (·.2)
def jB(b:List (κ×V))(k:κ)(v:V):List (κ×V):=
 if(b.any fun c=>decide (c.1=k))=true then b.map (fun c=>if c.1=k then(c.1,v) else c) else b++[(k,v)]
def zf0(b:List (κ×V))(k:κ):List (κ×V):=b.filter fun c=>decide (c.1≠k)
theorem jw{p:κ×V}{r:List (κ×V)}{k:κ}(e:p.1=k):jf (p::r) k=some p.2:=by simp[jf,ZD,e]
theorem jx{p:κ×V}{r:List (κ×V)}{k:κ}(e:¬p.1=k):jf (p::r) k=jf r k:=by simp[jf,ZD,e]
theorem vG(k:κ):∀b:List (κ×V),(b.any fun c=>decide (c.1=k))=(jf b k).isSome
 | []=>rfl
 | p::r=>by
  rw[wx];by_cases e:p.1=k
  ·simp only[jw e,qk e,Bool.true_or,Option.isSome_some]
  ·rw[jx e,jM e,Vb];exact vG k r
theorem VF(k j:κ)(y:V):∀b:List (κ×V),jf (b.map fun c=>if c.1=k then(c.1,y) else c) j=(jf b j).map fun x=>if j=k then y else x
 | []=>rfl
 | p::r=>by
  have g:=VF k j y r;rw[jL];by_cases h:p.1=k
  ·rw[zu h]
   by_cases e:p.1=j
   ·rw[jw (p:=(p.1,y)) e,jw e,yM,zu (e.symm.trans h)]
   ·rw[jx (p:=(p.1,y)) e,jx e,g]
  ·rw[zo h]
   by_cases e:p.1=j
   ·rw[jw (p:=p) e,jw e,yM,zo (fun z=>h (e.trans z))]
   ·rw[jx (p:=p) e,jx e,g]
theorem JG(k j:κ)(y:V):∀b:List (κ×V),jf b k=none->jf (b++[(k,y)]) j=if j=k then some y else jf b j
 | [],_=>by
  by_cases e:k=j
  ·rw[zu e.symm];exact jw (p:=(k,y)) e
  ·rw[zo (fun z=>e z.symm)];exact jx (p:=(k,y)) e
 | p::r,c=>by
  rw[List.cons_append];have hk:¬p.1=k:=fun z=>by rw[jw z] at c;cases c
  rw[jx hk] at c;have g:=JG k j y r c;by_cases e:p.1=j
  ·rw[jw e,jw e,zo (fun z=>hk (e.trans z))]
  ·rw[jx e,jx e,g]
theorem wH(b:List (κ×V))(k j:κ)(y:V):jf (jB b k y) j=if j=k then some y else jf b j:=by
 unfold jB;by_cases a:(b.any fun c=>decide (c.1=k))=true
 ·rw[zu a,VF]
  rw[vG] at a;by_cases e:j=k
  ·obtain⟨x,hx⟩:=Option.isSome_iff_exists.mp a
   rw[zu e,e,hx,yM,zu rfl]
  ·rw[zo e]
   cases jf b j with
   | none=>rfl
   | some x=>rw[yM,zo e]
 ·rw[zo a]
  refine JG k j y b ?_
  rw[vG] at a;cases q:jf b k with
  | none=>rfl
  | some x=>rw[q] at a;exact(a rfl).elim
theorem xn(b:List (κ×V))(k:κ)(v:V):(jB b k v).length<=b.length+1:=by
 unfold jB;split
 ·rw[zp];omega
 ·rw[zW,jU,Ji];omega
theorem We{b:List (κ×V)}{k:κ}(v:V)(h:jf b k=none):jB b k v=b++[(k,v)]:=by
 unfold jB;rw[vG,h];exact zo (by decide)
theorem RelO.isSome_eq{o:Option V}{u:Option Value}(r:RelO o u):o.isSome=u.isSome:=by
 cases o with
 | none=>cases u with
  | none=>rfl
  | some _=>exact(show False from r).elim
 | some _=>cases u with
  | none=>exact(show False from r).elim
  | some _=>rfl
theorem RelO.getD{o:Option V}{u:Option Value}{d:V}{b:Value}(r:RelO o u)(c:RelV d b):RelV (o.getD d) (u.getD b):=by
 cases o with
 | none=>cases u with
  | none=>exact c
  | some _=>exact(show False from r).elim
 | some _=>cases u with
  | none=>exact(show False from r).elim
  | some _=>exact r
theorem KV.val{c:List (κ×V)}{l:List (κ×Value)}(r:KV c l)(k:κ):RelO (jf c k) (valueAt l k):=by
 unfold KV at r;induction r with
 | nil=>exact True.intro
 | @cons p q s i h t m=>
  obtain⟨h1,h2⟩:=h;by_cases e:p.1=k
  ·have g:q.1=k:=h1.symm.trans e
   have b:valueAt (q::i) k=some q.2:=by simp[valueAt,ZD,g]
   rw[jw e,b];exact h2
  ·have g:¬q.1=k:=fun z=>e (h1.trans z)
   have b:valueAt (q::i) k=valueAt i k:=by simp[valueAt,ZD,g]
   rw[jx e,b];exact m
theorem KV.any{b:List (κ×V)}{g:List (κ×Value)}(r:KV b g)(k:κ):(b.any fun c=>decide (c.1=k))=g.any fun c=>decide (c.1=k):=by
 unfold KV at r;induction r with
 | nil=>rfl
 | cons h t i=>rw[wx,wx,i,h.1]
theorem KV.repl{c:List (κ×V)}{g:List (κ×Value)}(r:KV c g)(k:κ){y:V}{u:Value}(l:RelV y u) :
  KV (c.map fun b=>if b.1=k then(b.1,y) else b) (g.map fun b=>if b.1=k then(b.1,u) else b):=by
 unfold KV at r ⊢;induction r with
 | nil=>exact .nil
 | @cons p q m s h t i=>
  rw[jL,jL];refine .cons ?_ i
  obtain⟨h1,h2⟩:=h;by_cases e:p.1=k
  ·rw[zu e,zu (h1.symm.trans e)];exact⟨h1,l⟩
  ·rw[zo e,zo (fun z=>e (h1.trans z))];exact⟨h1,h2⟩
theorem KV.put{b:List (κ×V)}{c:List (κ×Value)}(r:KV b c)(k:κ){y:V}{u:Value}(g:RelV y u):KV (jB b k y) (stored c k u):=by
 unfold jB stored;rw[r.any k];by_cases e:(c.any fun i=>decide (i.1=k))=true
 ·rw[zu e,zu e];exact r.repl k g
 ·rw[zo e,zo e];exact Paired.snoc r ⟨rfl,g⟩
theorem KV.drop{c:List (κ×V)}{i:List (κ×Value)}(r:KV c i)(k:κ):KV (zf0 c k) (without i k):=by
 unfold KV at r ⊢;unfold zf0 without;induction r with
 | nil=>exact .nil
 | @cons p q m s h t g=>
  obtain⟨h1,h2⟩:=h;rw[yp,yp];by_cases e:p.1=k
  ·have a:¬decide (p.1≠k)=true:=by simp[e]
   have b:¬decide (q.1≠k)=true:=by simp[h1.symm.trans e]
   rw[zo a,zo b];exact g
  ·have l:¬q.1=k:=fun z=>e (h1.trans z)
   have a:decide (p.1≠k)=true:=by simp[e]
   have b:decide (q.1≠k)=true:=by simp[l]
   rw[zu a,zu b];exact .cons ⟨h1,h2⟩ g
theorem KV.keys{b:List (κ×V)}{c:List (κ×Value)}(r:KV b c):b.map (·.1)=c.map (·.1):=by
 unfold KV at r;induction r with
 | nil=>rfl
 | cons h t g=>rw[jL,jL,g,h.1]
theorem KV.length{b:List (κ×V)}{c:List (κ×Value)}(r:KV b c):b.length=c.length:=Vc r
end
theorem yj{P:Program}{w:World}{k:Key}{u:Value}(r:RelV (kV k) u):(qv P w).is k u=true:=by
 cases k with
 | inl i=>obtain⟨t,e⟩:=(show ∃t,u=Value.int i t from r);subst e;exact Wu P w i t
 | inr x=>obtain⟨t,e⟩:=(show ∃t,u=Value.str x t from r);subst e;exact Wt P w x t
theorem Xa{P:Program}{w:World}:∀{b:List Key} {c:List Value},Vals (b.map kV) c->ItemsAre (qv P w) b c
 | [],_,r=>by rw[Jf] at r;cases r;exact .nil
 | k::b,_,r=>by
  rw[jL] at r;cases r with
  | cons h t=>exact .cons (yj h) (Xa t)
abbrev KT(H:Hp):List (List Key×V)->List (List Key×Addr×Value)->Prop:=Paired fun p q=>p.1=q.1/\H q.2.1=some (.tup (p.1.map kV))/\RelV p.2 q.2.2
theorem KT.val{H:Hp}{c:List (List Key×V)}{l:List (List Key×Addr×Value)}(r:KT H c l)(k:List Key):RelO (jf c k) ((atKey l k).map (·.2)):=by
 induction r with
 | nil=>exact True.intro
 | @cons p q s i h t m=>
  obtain⟨h1,_,h2⟩:=h;by_cases e:p.1=k
  ·have g:q.1=k:=h1.symm.trans e
   have b:atKey (q::i) k=some q.2:=by simp[atKey,ZD,g]
   rw[jw e,b];exact h2
  ·have g:¬q.1=k:=fun z=>e (h1.trans z)
   have b:atKey (q::i) k=atKey i k:=by simp[atKey,ZD,g]
   rw[jx e,b];exact m
theorem KT.repl{H:Hp}{b:List (List Key×V)}{g:List (List Key×Addr×Value)}(r:KT H b g)(k:List Key){y:V}{u:Value}(m:RelV y u) :
  KT H (b.map fun c=>if c.1=k then(c.1,y) else c) (g.map (putAt k u)):=by
 induction r with
 | nil=>exact .nil
 | @cons p q s w h t l=>
  rw[jL,jL];refine .cons ?_ l
  obtain⟨h1,h2,i⟩:=h;unfold putAt;by_cases e:p.1=k
  ·rw[zu e,zu (h1.symm.trans e)];exact⟨h1,h2,m⟩
  ·rw[zo e,zo (fun z=>e (h1.trans z))];exact⟨h1,h2,i⟩
theorem KT.put{H:Hp}{c:List (List Key×V)}{g:List (List Key×Addr×Value)}(r:KT H c g)(k:List Key){b:Addr}{y:V}{u:Value}(hb:H b=some (.tup (k.map kV)))(i:RelV y u) :
  KT H (jB c k y) (storedH g k b u):=by
 have e:(c.any fun l=>decide (l.1=k))=(atKey g k).isSome:=by
  rw[vG,(r.val k).isSome_eq,Option.isSome_map]
 unfold jB storedH;rw[e];by_cases q:(atKey g k).isSome=true
 ·rw[zu q,zu q];exact r.repl k i
 ·rw[zo q,zo q];exact Paired.snoc r ⟨rfl,hb,i⟩
theorem KT.keeps{H g:Hp}{c:List (List Key×V)}{i:List (List Key×Addr×Value)}(r:KT H c i)(m:∀b l,H b=some (.tup l)->g b=some (.tup l)):KT g c i:=
 Paired.mapP r fun _ _ z=>⟨z.1,m _ _ z.2.1,z.2.2⟩
section
variable{P:Program}{w:World}{H:Hp}{h:Heap}{a:Addr}
theorem zfP{u:HO}(ok:HOk P w H h)(e:Rd H a u):ObjOk P w H h a u:=e.ok ok
theorem ZM{b:List (Key×V)}(ok:HOk P w H h)(e:Rd H a (.dK b)):b.length<=sizeLine/\(a==sysModules)=false/\∃c,KV b c/\h.DictOf (qv P w) a c:=
 show ObjOk P w H h a (.dK b) from zfP ok e
theorem WH{b:List (Key×V)}(ok:HOk P w H h)(e:H a=some (.dK b)):b.length<=sizeLine/\(a==sysModules)=false/\∃c,KV b c/\h.DictOf (qv P w) a c:=ZM ok (.inl e)
theorem QO{c:List Key}(ok:HOk P w H h)(e:H a=some (.tup (c.map kV))):(tupleKind (qv P w)).is h c a:=by
 obtain⟨_,b,r,⟨o,h1,h2,n,g⟩,_⟩:=(show ObjOk P w H h a (.tup (c.map kV)) from ok a _ e)
 exact⟨o,b.toArray,n,h1,h2,g,by simpa using Xa r⟩
theorem Xi{b:List (List Key×V)}(ok:HOk P w H h)(e:Rd H a (.dT b)):b.length<=sizeLine/\(a==sysModules)=false /\
  ∃c,KT H b c/\h.DictOfH (tupleKind (qv P w)) a c:=by
 obtain⟨z,y,c,r,o,i,g,h1,h2,s,u,A⟩:=(show ObjOk P w H h a (.dT b) from zfP ok e)
 refine⟨z,y,c,r,o,i,g,h1,h2,s,u,fun x hx=>?_,A⟩
 have all:∀{l:List (List Key×V)} {m:List (List Key×Addr×Value)},KT H l m->∀x∈m,(tupleKind (qv P w)).is h x.1 x.2.1:=by
  intro l m q;induction q with
  | nil=>intro x hx;exact nomatch hx
  | @cons p q C D hq t B=>
   intro x hx;rcases qg.mp hx with e | hx
   ·subst e
    exact QO ok (by rw[<- hq.1];exact hq.2.1)
   ·exact B x hx
 exact all r x hx
theorem ziB{b:List (List Key×V)}(ok:HOk P w H h)(e:H a=some (.dT b)):b.length<=sizeLine/\(a==sysModules)=false /\
  ∃c,KT H b c/\h.DictOfH (tupleKind (qv P w)) a c:=Xi ok (.inl e)
end
def DGet(H:Hp)(a:Addr)(y:V)(r:Option V):Prop:=
 (∃c k,Rd H a (.dK c)/\y=kV k/\r=jf c k)\/∃c k b,Rd H a (.dT c)/\y=.ref b/\H b=some (.tup (k.map kV))/\r=jf c k
def DPut(H:Hp)(a:Addr)(y v:V)(g:Hp):Prop:=
 (∃c k,H a=some (.dK c)/\y=kV k/\c.length<sizeLine/\g=upd H a (.dK (jB c k v))) \/
 ∃c k b,H a=some (.dT c)/\y=.ref b/\H b=some (.tup (k.map kV))/\c.length<sizeLine/\g=upd H a (.dT (jB c k v))
theorem DGet.k{H:Hp}{a:Addr}{b:List (Key×V)}{k:Key}(e:H a=some (.dK b)):DGet H a (kV k) (jf b k):=.inl ⟨b,k,.inl e,rfl,rfl⟩
theorem DGet.t{H:Hp}{a b:Addr}{c:List (List Key×V)}{k:List Key}(e:H a=some (.dT c))(g:H b=some (.tup (k.map kV))):DGet H a (.ref b) (jf c k):=.inr ⟨c,k,b,.inl e,rfl,g,rfl⟩
theorem DPut.k{H:Hp}{a:Addr}{b:List (Key×V)}{k:Key}{v:V}(e:H a=some (.dK b))(c:b.length<sizeLine):DPut H a (kV k) v (upd H a (.dK (jB b k v))):=.inl ⟨b,k,e,rfl,c,rfl⟩
theorem DPut.t{H:Hp}{a b:Addr}{c:List (List Key×V)}{k:List Key}{v:V}(e:H a=some (.dT c))(g:H b=some (.tup (k.map kV)))(i:c.length<sizeLine) :
  DPut H a (.ref b) v (upd H a (.dT (jB c k v))):=.inr ⟨c,k,b,e,rfl,g,i,rfl⟩
section
variable{X:Cx}{i:List (Addr×Obj)}{σ:St}{H:Hp}{s:Shared}{a:Addr}{y v:V}{u r:Value}{o:Option V}{A:Around}{E:Value->Shared->Prop}
theorem Inv.big(I:Inv X i σ H s):sysModules<s.heap.objs.size:=by
 have h:mainGlobals<s.heap.objs.size:=(I.mod.glob.keeps I.bk).lt;exact Jd (by decide) h
theorem zb5{Q:Value->Shared->Prop}(hu:A.units+1<cLine)(I:Inv X i σ H s)(g:DGet H a y (some v))(L:RelV y u)(h:∀w M,Inv X i σ H M->RelV v w->Q w M) :
  wpAny (model X.prog X.w) A (getItem (.ref a) u) Q E s:=by
 rcases g with ⟨J,k,e,C,l⟩ | ⟨J,k,b,e,C,N,l⟩
 ·subst C
  obtain⟨z,hd,O,c,B⟩:=ZM I.hok e;obtain⟨w,G,m⟩:=RelO.some_of (v:=v) (o:=valueAt O k) (by rw[l];exact c.val k)
  exact wpAny_getItem_of (yj L) B.mapOf G (h w _ (I.tok _) m)
 ·subst C
  cases(show u=Value.ref b from L)
  obtain⟨z,hd,T,c,B⟩:=Xi I.hok e;obtain⟨w,G,m⟩:=RelO.some_of (v:=v) (o:=(atKey T k).map (·.2)) (by rw[l];exact c.val k)
  obtain⟨p,hp,D⟩:=qr.mp G;refine wpAny_getItem_heap (tupleKind_room_in1 hu) (QO I.hok N) B hp ?_
  rw[D];exact h w _ (I.tok _) m
theorem zfb{Q:Value->Shared->Prop}(hu:A.units+1<cLine)(I:Inv X i σ H s)(g:DGet H a y o)(C:RelV y u)(h:∀D,Inv X i σ H D->Q (.bool (!o.isSome)) D) :
  wpAny (model X.prog X.w) A (compareOp .NotIn u (.ref a)) Q E s:=by
 rcases g with ⟨B,k,e,w,l⟩ | ⟨B,k,b,e,w,G,l⟩
 ·subst w
  obtain⟨z,hd,J,c,m⟩:=ZM I.hok e;refine wpAny_notIn_of (yj C) hd m.mapOf ?_
  rw[<- (c.val k).isSome_eq,<- l];exact h _ (I.tok _)
 ·subst w
  cases(show u=Value.ref b from C)
  obtain⟨z,hd,L,c,m⟩:=Xi I.hok e;refine wpAny_notIn_heap (tupleKind_room_in1 hu) (QO I.hok G) hd m ?_
  have q:=(c.val k).isSome_eq;rw[Option.isSome_map] at q;rw[<- q,<- l];exact h _ (I.tok _)
theorem Zc{c:Heap}{t':Nat}{l:HO}(I:Inv X i σ H s)(w:Mut (H a))(hs:Heap.SameBut a s.heap c)(m:∃q,c.get? a=some q)(g:ObjOk X.prog X.w (upd H a l) c a l) :
  Inv X i σ (upd H a l) { s with heap:=c,toks:=t' }:=
 I.write (x:=a) (e:=a) w (.inl rfl) (fun b q hb z=>(hs.2 b hb).trans z) m g
theorem QW{P:Program}{w:World}{m:Hp}{l:Heap}{b:List (Key×V)}{g:List (Key×Value)}(z:b.length<=sizeLine)(hd:(a==sysModules)=false)(c:KV b g)(B:l.DictOf (qv P w) a g) :
  ObjOk P w m l a (.dK b):=⟨z,hd,g,c,B⟩
theorem Xj{N:Hp}{Q:Unit->Shared->Prop}(hu:A.units+1<cLine)(I:Inv X i σ H s)(g:DPut H a y v N)(ry:RelV y u)(Y:RelV v r)(h:∀s',Inv X i σ N s'->Q () s') :
  wpAny (model X.prog X.w) A (setItem (.ref a) u r) Q E s:=by
 rcases g with ⟨m,k,e,G,l,D⟩ | ⟨m,k,b,e,G,O,l,D⟩
 ·subst G D
  obtain⟨z,hd,vs,w,C⟩:=WH I.hok e;have M:vs.length<=sizeLine:=by rw[<- w.length];exact z
  have J:(jB m k v).length<=sizeLine:=by have:=xn m k v;omega
  refine wpAny_setItem_pairs (hsz:=M) (yj ry) C fun U B hs=>h _ ?_
  have he:∃q,U.get? a=some q:=let ⟨q,_,_,hq,_⟩:=B;⟨q,hq⟩
  exact Zc I (by rw[e];exact True.intro) hs he (QW J hd (w.put k Y) B)
 ·subst G D
  cases(show u=Value.ref b from ry)
  obtain⟨z,hd,xs,w,C⟩:=ziB I.hok e;have M:xs.length<=sizeLine:=by rw[<- Vc w];exact z
  have J:(jB m k v).length<=sizeLine:=by have:=xn m k v;omega
  refine wpAny_setItem_heap (hsz:=M) (tupleKind_room_in1 hu) (QO I.hok O) C fun U B hs=>h _ ?_
  obtain⟨q,es,ep,hq,h2,h3,h4,_,h5⟩:=B;refine Zc I (by rw[e];exact True.intro) hs ⟨q,hq⟩ ⟨J,hd,_,(w.put k O Y).keeps fun c ys T=>?_,q,es,ep,hq,h2,h3,h4,h5⟩
  rw[zj (zaT T e (fun z=>nomatch z))]
  exact T
end
section
variable{X:Cx}{b:List (Addr×Obj)}{σ:St}{H:Hp}{s:Shared}{a:Addr}{c:List (Key×V)}{k:Key}{u:Value}{A:Around}{E:Value->Shared->Prop}
end
def ziG(i:Expr):Prop:=∀c b,subscripted i false c b=operate [c,b] (getItem c b)
theorem zd6{b:Program}{w:World}{A:Around}{E:Value->Shared->Prop}{s:Shared}{l:Env}{g c:Expr}{B:Pos}{T id:String}{Q:Value->Shared->Prop}
  (H:typeLookup (.type T) "__getitem__" = pure (some (.builtin id))) (hs:ziG c)
  (h:wpAny (model b w) A (eval g l) (fun o D=>wpAny (model b w) A (eval c l) (fun i m=>m.TypeIs o T/\wpAny (model b w) A (getItem o i) Q E m) E D) E s) :
  wpAny (model b w) A (eval (.Subscript g c B) l) Q E s:=by
 refine Subscript_ (qW h (fun o D I=>qW I (fun i m u=>?_) fun _ _ x=>x) fun _ _ x=>x)
 obtain⟨C,u⟩:=u;unfold subscriptTail;refine zm ?_
 rw[getitemInPython_of_ne C.not_modules];refine zm (wpAny_specialOf C H ?_)
 have fin:wpAny (model b w) A (subscripted c false o i) (fun r G=>wpAny (model b w) A (letTemporaryGo g o r >>= fun _=>pure r) Q E G) E m:=by
  rw[hs o i];exact wpAny_operating (qW u (fun r G J=>zm (wpAny_letTemporaryGo (zJ J))) fun _ _ x=>x)
 first
  | exact zJ (zm fin)
  | exact zm (zJ (zm fin))
  | exact zm fin
theorem WJ{X:Cx}{c:List (Addr×Obj)}{σ:St}{H:Hp}{s:Shared}{a:Addr}{y:V}{o:Option V}(I:Inv X c σ H s)(g:DGet H a y o):s.TypeIs (.ref a) "dict" :=by
 rcases g with ⟨l,k,e,_,_⟩ | ⟨l,k,b,e,_,_,_⟩
 ·obtain⟨_,_,m,_,i⟩:=ZM I.hok e
  exact i.typeIs
 ·obtain⟨_,_,u,_,i⟩:=Xi I.hok e
  exact i.typeIs
def zhH(g ty:TE):TE:=fun σ H Q=>g σ H fun x c=>ty σ c fun y b=>∃a v,x=.ref a/\DGet b a y (some v)/\Q v b
def zd4(ty g:TE):TE:=fun σ H Q=>ty σ H fun y c=>g σ c fun x b=>∃a o,x=.ref a/\DGet b a y o/\Q (.bl (!o.isSome)) b
def zhY(l ty m:TE):TS:=fun D σ H=>m σ H fun v c=>l σ c fun x g=>ty σ g fun y i=>∃a b,x=.ref a/\DPut i a y v b/\D.nx σ b
section
variable{X:Cx}{o i e b:Expr}{l c w:Pos}{m ty A:TE}
theorem zaP(hu:X.A.units+1<cLine)(O:PE X o m)(N:PE X i ty)(hs:ziG i):PE X (.Subscript o i l) (zhH m ty):=by
 intro B s σ H Q I h;refine zd6 PySem.F.slot_dict_getitem.lookup hs (thn (O B s σ H _ I h) fun u s1 ⟨x,E,J,Y,T⟩=>thn (N B s1 σ E _ J T) fun iv s2 ⟨y,G,D,ry,a,v,M,g,U⟩=>?_)
 subst M;obtain rfl:u=Value.ref a:=Y;exact⟨WJ D g,zb5 hu D g ry fun w' s3 L C=>⟨v,G,L,C,U⟩⟩
theorem zbJ(hu:X.A.units+1<cLine)(M:PE X i ty)(N:PE X o m):PC X .NotIn i o (zd4 ty m):=by
 intro B s σ H Q I h;refine thn (M B s σ H _ I h) fun iv s1 ⟨y,C,E,ry,T⟩=>thn (N B s1 σ C _ E T) fun u s2 ⟨x,D,G,Y,a,O,L,g,U⟩=>?_
 subst L;obtain rfl:u=Value.ref a:=Y;exact zfb hu G g ry fun s3 J=>⟨.bl (!O.isSome),D,J,rfl,U⟩
theorem zeg(hu:X.A.units+1<cLine)(T:PE X o m)(Q:PE X i ty)(hv:PE X b A)(hs:swapsWith b (some (.Subscript o i c)) l.line X.env=pure false) :
  PS X (.Assign [.Subscript o i c] b l) (zhY m ty A):=by
 intro B s σ H D I h;refine wpAny_Assign_Subscript (thn (hv B s σ H _ I h) fun r s1 ⟨v,C,J,rv,U⟩=>thn (T B s1 σ C _ J U) fun u s2 ⟨x,E,L,rx,Y⟩=>thn (Q B s2 σ E _ L Y) fun iv s3 ⟨y,H3,M,ry,a,G,O,g,q3⟩=>?_) hs
 subst O;obtain rfl:u=Value.ref a:=rx;exact Xj hu M g ry rv fun s4 N=>⟨σ,G,N,q3⟩
end
theorem WI{P:Program}{w:World}{H:Hp}(h:Heap)(hb:sysModules<h.objs.size):ObjOk P w H (h.push { cls:=.type "dict",data:=.dict #[] }) h.objs.size (.dK []):=
 ⟨qX _,beq_eq_false_iff_ne.mpr (qz (qw hb)),[],.nil,Heap.DictOf.new h⟩
def zgb:TE:=fun _ H Q=>∀p,H p=none->Q (.ref p) (upd H p (.dK []))
section
variable{X:Cx}{b:Pos}
theorem Wj:PE X (.Dict [] [] b) zgb:=fun c s σ H Q I h=>
 wpAny_Dict_empty ⟨.ref s.heap.objs.size,_,I.laid (a:=s.heap.objs.size) (o:=.dK []) (t':=s.toks) (fun _ _ q=>qG _ q) (zQ _) (WI s.heap I.big),rfl,h _ (I.hok.fresh (zQ _))⟩
end
def W8:List (TE×TE)->St->Hp->(List (V×V)->Hp->Prop)->Prop
 | [],_,H,Q=>Q [] H
 | (l,m)::r,σ,H,Q=>l σ H fun x b=>m σ b fun y c=>W8 r σ c fun i g=>Q ((x,y)::i) g
abbrev VV:List (V×V)->List (Value×Value)->Prop:=Paired fun p q=>RelV p.1 q.1/\RelV p.2 q.2
def PPs(X:Cx)(i:Pos)(g:List (Option Expr))(b:List Expr)(l:List (TE×TE)):Prop:=
 ∀(c:List (Addr×Obj)) (s:Shared) (σ:St) (H:Hp) (Q:List (V×V)->Hp->Prop),Inv X c σ H s->W8 l σ H Q ->
  wpAny (model X.prog X.w) X.A (evalPairs (pairTrees g b X.env i)) (fun A w=>∃u m,Inv X c σ m w/\VV u A/\Q u m) X.xe s
theorem zei{X:Cx}{b:Pos}:PPs X b [] [] []:=fun c s σ H Q I h=>pairTrees_nil_walk ⟨[],H,I,.nil,h⟩
theorem zc0{X:Cx}{c:Pos}{k v:Expr}{l:List (Option Expr)}{A:List Expr}{m w:TE}{g:List (TE×TE)}(hk:PE X k m)(hv:PE X v w)(L:PPs X c l A g) :
  PPs X c (some k::l) (v::A) ((m,w)::g):=fun b s σ H Q I h=>
 pairTrees_cons_walk (thn (hk b s σ H _ I h) fun u s1 ⟨x,B,E,U,N⟩=>thn (hv b s1 σ B _ E N) fun w2 s2 ⟨y,C,G,Y,O⟩=>
  thn (L b s2 σ C _ G O) fun ws s3 ⟨M,D,J,i,T⟩=>⟨(x,y)::M,D,J,.cons ⟨U,Y⟩ i,T⟩)
def j5(g b:List (Key×V)):List (Key×V):=b.foldl (fun c i=>jB c i.1 i.2) g
theorem KV.merge:∀{c:List (Key×V)} {i:List (Key×Value)} {b:List (Key×V)} {g:List (Key×Value)},KV c i->KV b g->KV (j5 b c) (merged g i):=by
 intro c i b g r;unfold KV at r;induction r generalizing b g with
 | nil=>intro q;exact q
 | @cons p q s u h t l=>
  intro m;have e:KV (jB b p.1 p.2) (stored g q.1 q.2):=by
   have:=m.put p.1 h.2;rw[<- h.1];exact this
  exact l e
theorem xN:∀(c b:List (Key×V)),(j5 b c).length<=b.length+c.length
 | [],b=>by show b.length<=b.length+0;omega
 | p::r,b=>by
  have h1:=xN r (jB b p.1 p.2);have h2:=xn b p.1 p.2;show(j5 (jB b p.1 p.2) r).length<=_;rw[jU];omega
theorem QY{P:Program}{w:World}:∀{g:List (Key×V)} {m:List (Value×Value)},VV (g.map fun l=>(kV l.1,l.2)) m->∃i,Carries (qv P w) m i/\KV g i
 | [],_,r=>by rw[Jf] at r;cases r;exact⟨[],True.intro,.nil⟩
 | p::g,_,r=>by
  rw[jL] at r;cases r with
  | @cons a b s u h t=>
   obtain⟨i,c,q⟩:=QY (P:=P) (w:=w) t;obtain⟨b1,b2⟩:=b;exact⟨(p.1,b2)::i,⟨yj h.1,rfl,c⟩,.cons ⟨rfl,h.2⟩ q⟩
def zhF(c:List (TE×TE)):TE:=fun σ H Q=>∀p,H p=none->W8 c σ (upd H p (.dK [])) fun l g=>g p=some (.dK [])/\∃b:List (Key×V),l=b.map (fun i=>(kV i.1,i.2))/\b.length<=15/\Q (.ref p) (upd g p (.dK (j5 [] b)))
theorem zet{X:Cx}{A:Pos}{b:List (Option Expr)}{g:List Expr}{B:List (TE×TE)}(h:PPs X A b g B)(l:b.all (·.isSome)=true)(O:b.length=g.length)(h0:b≠[])
  (C:b.length<=15):PE X (.Dict b g A) (zhF B):=by
 intro u s σ H Q I q;have T:=I.hok.fresh (zQ s.heap.objs.size);have J:=I.laid (a:=s.heap.objs.size) (o:=.dK []) (h':=s.heap.push { cls:=.type "dict",data:=.dict #[] }) (t':=s.toks) (fun _ _ q=>qG _ q) (zQ _) (WI s.heap I.big)
 refine wpAny_Dict_walk (knd:=qv X.prog X.w) l O h0 C (thn (h u _ σ _ _ J (q _ T)) fun ws s2 ⟨ps,H2,E,D,e,m,M,lk,q2⟩=>?_)
 subst M;obtain⟨rs,c,rk⟩:=QY (P:=X.prog) (w:=X.w) D;obtain⟨z,hd,a0,r0,L⟩:=WH E.hok e;cases r0;refine⟨rs,c,L,fun G i hs=>⟨.ref s.heap.objs.size,_,?_,rfl,q2⟩⟩
 have U:(j5 [] m).length<=sizeLine:=by
  have h1:=xN m [];rw[Ji] at h1;rw[sizeLine_eq];omega
 have N:∃q,G.get? s.heap.objs.size=some q:=let ⟨q,_,_,hq,_⟩:=i;⟨q,hq⟩
 exact Zc E (by rw[e];exact True.intro) hs N (QW U hd (rk.merge .nil) i)
structure M1(X:Cx)(o:Expr)(m:Str)(apos:Pos)(e:Expr)(cpos:Pos):Prop where
 base:attributeBase o m X.env (eval o X.env)=eval o X.env
 few:((backTo cpos (starEach [e] X.env)).all (fun x=>!x.1)&&(backToKw cpos (keywordEach [] X.env)).all (fun x=>x.1.isSome)
  && decide (([e]:List Expr).length+([]:List Keyword).length+(if([]:List Keyword).isEmpty then 0 else 1)<30))=true
 line:(apos.endLine==cpos.line)=true
 trees:backTo cpos (starEach [e] X.env)=[(false,eval e X.env)]
structure M2(X:Cx)(o:Expr)(m:Str)(apos:Pos)(e f:Expr)(cpos:Pos):Prop where
 base:attributeBase o m X.env (eval o X.env)=eval o X.env
 few:((backTo cpos (starEach [e,f] X.env)).all (fun x=>!x.1)&&(backToKw cpos (keywordEach [] X.env)).all (fun x=>x.1.isSome)
  && decide (([e,f]:List Expr).length+([]:List Keyword).length+(if([]:List Keyword).isEmpty then 0 else 1)<30))=true
 line:(apos.endLine==cpos.line)=true
 trees:backTo cpos (starEach [e,f] X.env)=[(false,eval e X.env),(false,eval f X.env)]
def IsD(H:Hp)(a:Addr):Prop:=(∃b,Rd H a (.dK b))\/∃b,Rd H a (.dT b)
theorem YC{X:Cx}{i:List (Addr×Obj)}{σ:St}{H:Hp}{s:Shared}{a:Addr}(I:Inv X i σ H s)(d:IsD H a) :
  s.TypeIs (.ref a) "dict" /\ (∀b,Value.ref a=.ref b->∃c,s.heap.get? b=some c/\c.dict=none)/\(a==sysModules)=false:=by
 rcases d with ⟨l,e⟩ | ⟨l,e⟩
 ·obtain⟨_,hd,m,_,g⟩:=ZM I.hok e
  refine⟨g.typeIs,fun b q=>?_,hd⟩
  cases q;obtain⟨c,_,_,h1,h2,_⟩:=g;exact⟨c,h1,h2.2.1⟩
 ·obtain⟨_,hd,u,_,g⟩:=Xi I.hok e
  refine⟨g.typeIs,fun b q=>?_,hd⟩
  cases q;obtain⟨c,_,_,h1,h2,_⟩:=g;exact⟨c,h1,h2.2.1⟩
section
variable{X:Cx}{c:List (Addr×Obj)}{σ:St}{H:Hp}{s:Shared}{a:Addr}{y d:V}{u r:Value}{o:Option V}{A:Around}{E:Value->Shared->Prop}
theorem zhl{Q:Value->Shared->Prop}(hu:A.units+1<cLine)(I:Inv X c σ H s)(g:DGet H a y o)(D:RelV y u)(C:RelV d r)(h:∀J G,Inv X c σ H G->RelV (o.getD d) J->Q J G) :
  wpAny (model X.prog X.w) A (call (.builtin "dict.get") [.ref a,u,r]) Q E s:=by
 rcases g with ⟨B,k,e,w,l⟩ | ⟨B,k,b,e,w,L,l⟩
 ·subst w
  obtain⟨z,hd,N,i,m⟩:=ZM I.hok e;refine call_meetsIn YX m.typeIs PySem.F.entry_dict_get (PySem.F.args_dict_get_3 _ _ _) (meets_dict_get_default (qv X.prog X.w) a (yj D) hd r) ⟨_,m.mapOf,h _ _ (I.tok _) ?_⟩
  rw[l];exact(i.val k).getD C
 ·subst w
  cases(show u=Value.ref b from D)
  obtain⟨z,hd,M,i,m⟩:=Xi I.hok e;refine call_meetsIn YX m.typeIs PySem.F.entry_dict_get (PySem.F.args_dict_get_3 _ _ _) (meetsH_dict_get_default (tupleKind (qv X.prog X.w)) a b hd r) ⟨tupleKind_room_in1 hu,k,M,QO I.hok L,m,h _ _ (I.tok _) ?_⟩
  rw[l];exact(i.val k).getD C
end
def zgc(i ty l:TE):TE:=fun σ H Q=>i σ H fun x b=>∃a,x=.ref a/\IsD b a/\ty σ b fun y g=>l σ g fun z c=>∃o,DGet c a y o/\Q (o.getD z) c
section
variable{X:Cx}{o e f:Expr}{b c:Pos}{i ty l:TE}
theorem Wl(hu:X.A.units+1<cLine)(T:PE X o i)(N:PE X e ty)(O:PE X f l)(m:M2 X o "get" b e f c):PE X (.Call (.Attribute o "get" b) [e,f] [] c) (zgc i ty l):=by
 intro w s σ H Q I h;refine wpAny_Call_method m.base m.few m.line Y1 YX PySem.F.type_dict_get (thn (T w s σ H _ I h) fun u s1 ⟨x,C,B,rx,a,M,d,U⟩=>?_)
 subst M;obtain rfl:u=Value.ref a:=rx;obtain⟨t1,t2,_⟩:=YC B d;refine⟨t1,t2,?_⟩
 rw[m.trees];refine Vv rfl (Vr (yR (thn (N w s1 σ C _ B U) fun iv s2 ⟨y,D,G,ry,Y⟩=>
  yR (thn (O w s2 σ D _ G Y) fun fv s3 ⟨z,E,J,rz,ov,g,q3⟩=>Jk ?_))))
 exact zhl hu J g ry rz fun w' s4 L A=>⟨_,E,L,A,q3⟩
end
section
variable{X:Cx}{b:List (Addr×Obj)}{σ:St}{H:Hp}{s:Shared}{a:Addr}{c:List (Key×V)}{A:Around}{E:Value->Shared->Prop}
end
section
variable{X:Cx}{b:List (Addr×Obj)}{σ:St}{H:Hp}{s:Shared}{a:Addr}{y:V}{u:Value}{A:Around}{E:Value->Shared->Prop}
end
end L2
namespace PySem
open PySem PySem.W PySem.Calls PyProof.Rows PyProof.V PySem.Spec
end PySem
namespace L2
open PySem PySem.Spec PyProof.Rows
section
variable{X:Cx}
end
section
variable{X:Cx}{b:Expr}
end
section
variable{X:Cx}
end
section
variable{X:Cx}
variable{e st:Expr}{g:TE}{i:TO}{b c:Pos}
end
end L2
namespace PySem
def RawD(h:Heap)(d:Addr)(c:Array DictEntry)(b:Nat):Prop:=∃o,h.get? d=some o/\o.ExactDict/\o.data=.dict c b
theorem RawD.at{h i:Heap}{d:Addr}{g:Array DictEntry}{c:Nat}(x:RawD h d g c)(e:∀o,h.get? d=some o->i.get? d=some o):RawD i d g c:=let ⟨o,a,b⟩:=x;⟨o,e _ a,b⟩
section
variable{l:Program}{w:World}{A:Around}{E:Value->Shared->Prop}{s:Shared}{d g:Addr}{c:Array DictEntry}{u i:Nat}
theorem zcX{Q:Value->Shared->Prop}(hd:(d==sysModules)=false)(C:RawD s.heap d c u)
  (B:Q (.ref s.heap.objs.size) { s with heap:=s.heap.push { cls:=.type "dict_keyiterator",data:=.fields #[.ref d,.int 0 0,.int c.size 0,.int u 0] } }):wpAny (model l w) A (pyIter (.ref d)) Q E s:=by
 obtain⟨o,m,hc,b⟩:=C;have ty:s.TypeIs (.ref d) "dict" :=⟨o,m,hc.1⟩;refine wpAny_pyIter_slot ty F.slot_dict_iter (wD F.slot_dict_iter ty F.entry_dict_iter ?go (F.args_dict_iter_1 _))
 unfold Builtin.«dict.__iter__» Builtin.Dict.dictSlotNone;refine zm (zm (wpAny_notOrdered_dict ty ?go2));refine(zJ ?go3:wpAny _ _ (pure (Value.ref d)) _ _ s)
 refine(?go7:wpAny _ _ (Builtin.Dict.showsAll d >>= _) _ _ s);unfold Builtin.Dict.showsAll
 rw[zo (by rw[hd];exact qH)];refine zm (zJ ?go5)
 refine zm (wpAny_dictEntries m b (zm (wpAny_dictEpoch m b (zm (vo (zJ ⟨_,rfl, "dict_keyiterator",_,⟨_,qJ _ rfl,rfl⟩,WW.lookup,?go6⟩))))))
 simpa [rawInt] using B
theorem zcY{e:DictEntry}{Q:Option Value->Shared->Prop}(B:s.heap.IsKeyIter g d i c.size u)(M:RawD s.heap d c u)(hx:c[i]? =some e)
  (J:∀D,D.IsKeyIter g d (i+1) c.size u->Heap.SameBut g s.heap D->Q (some e.key) { s with heap:=D }):wpAny (model l w) A (pyNext (.ref g)) Q E s:=by
 obtain⟨o,G,hc,hd⟩:=id B;obtain⟨O,C,L,m⟩:=M;have ty:=B.typeIs;obtain⟨N,I⟩:∃h:i<c.size,c[i]=e:=Y3.mp hx;unfold pyNext;refine zm (yL (yw (name:=Str.ofString "__next__") ty WW (wD WW ty zdX ?a (zdY _))))
 refine zm (zJ ?a1);refine zm (zm ?a2)
 first| refine zm (wpAny_typeNameOfWhole_keyiter ty (zJ ?a3)) | refine zm (wpAny_typeNameOf_keyiter ty (zJ ?a3))
 refine zm (wpAny_fieldsOf G hd ?a4)
 simp only[show Builtin.Dict_items.ownsTuple "dict_keyiterator" = false by decide,ZH,if_false]
 refine(?a5:wpAny _ _ (if(Value.ref d==Value.none)=true then _ else _) _ _ s)
 rw[zo (show ¬((Value.ref d==Value.none)=true) from qH)];refine zm (zJ (zm (wpAny_dictEntries C m ?a6)))
 rw[zo (by simp)];refine zm (zJ (zm (wpAny_dictEpoch C m ?a7)))
 rw[zo (by simp)];refine zJ ?a8
 simp only[show ¬((i:Int)<0) from by omega,if_false,xu,Js N];refine zm ?a9
 first| refine zm (wpAny_typeNameOfWhole_keyiter ty (zJ ?b1)) | refine zm (wpAny_typeNameOf_keyiter ty (zJ ?b1))
 refine zm (wpAny_isOneOf_keyiter ty ?b2);refine(?b3:wpAny _ _ (setField (.ref g) 1 (rawInt ((i:Int)+1)) >>= _) _ _ s)
 have b:(s.heap.update g (Obj.mapFields (·.setIfInBounds 1 (rawInt ((i:Int)+1))))).IsKeyIter g d (i+1) c.size u:=
  ⟨_,Q6 _ G (YY (Jl hd _)),(YS ..).trans hc,(by rw[Jl hd];simp[rawInt])⟩
 refine zm (wpAny_setField G hd (by simp) (zm (vW (zm (wpAny_isOneOf_keyiter (s:={ s with heap:=s.heap.update g (Obj.mapFields (·.setIfInBounds 1 (rawInt ((i:Int)+1)))) }) b.typeIs ?b4)))))
 refine(?b5:wpAny _ _ (pure c[i].key) _ _ _)
 rw[I];exact zJ (zJ ⟨_,rfl,zJ (J _ b (Jm ..))⟩)
theorem zee{Q:Option Value->Shared->Prop}(M:A.handled=none)(C:s.heap.IsKeyIter g d i c.size u)(N:RawD s.heap d c u)(hx:c.size<=i)
  (J:∀G,Heap.ExtBut g s.heap G->Q none { s with heap:=G }):wpAny (model l w) A (pyNext (.ref g)) Q E s:=by
 obtain⟨o,H,hc,hd⟩:=id C;obtain⟨O,D,L,B⟩:=N;have ty:=C.typeIs;unfold pyNext;refine zm (yL (yw (name:=Str.ofString "__next__") ty WW (wD WW ty zdX ?a (zdY _))))
 refine zm (zJ ?a1);refine zm (zm ?a2)
 first| refine zm (wpAny_typeNameOfWhole_keyiter ty (zJ ?a3)) | refine zm (wpAny_typeNameOf_keyiter ty (zJ ?a3))
 refine zm (wpAny_fieldsOf H hd ?a4)
 simp only[show Builtin.Dict_items.ownsTuple "dict_keyiterator" = false by decide,ZH,if_false]
 refine(?a5:wpAny _ _ (if(Value.ref d==Value.none)=true then _ else _) _ _ s)
 rw[zo (show ¬((Value.ref d==Value.none)=true) from qH)];refine zm (zJ (zm (wpAny_dictEntries D B ?a6)))
 rw[zo (by simp)];refine zm (zJ (zm (wpAny_dictEpoch D B ?a7)))
 rw[zo (by simp)];refine zJ ?a8
 simp only[show ¬((i:Int)<0) from by omega,if_false,xu,Array.getElem?_eq_none hx];refine zm ?a9
 first| refine zm (wpAny_typeNameOfWhole_keyiter ty (zJ ?b1)) | refine zm (wpAny_typeNameOf_keyiter ty (zJ ?b1))
 refine(?b3:wpAny _ _ (setField (.ref g) 0 .none >>= _) _ _ s);refine zm (wpAny_setField H hd (by simp) ?b4)
 refine(?b5:wpAny _ _ (newExc (.type "StopIteration") [] >>= _) _ _ _);refine zm ?b6
 simp only[newExc,newTuple];refine zm (vo ?b7 (by size_fits))
 refine zm (m:=firstArgMember _ _) (Zy (a:=Value.none) (by first| rfl | (simp only[firstArgMember];rfl)) (vo ?b8 (by size_fits)))
 simp only[raiseNew];refine zm (wpAny_handled ?b9)
 rw[show A.in1.handled=none from M];refine zm (zJ (wpAny_throw ?c1))
 exact zm (ZT (T:= "StopIteration") (b:=true) ⟨_,qJ _ rfl,rfl⟩ isSubtype_stop (zJ (J _ (((Jm ..).extBut.push _).push _))))
end
end PySem
namespace L2
open PySem PySem.Spec PyProof.Rows
section
variable{X:Cx}{b:Expr}
end
section
variable{b:Program}{w:World}{A:Around}{R:Result->Shared->Prop}{s:Shared}
end
def DPutT(H:Hp)(D:Addr)(y v:V)(g:Hp):Prop:=∃c k b,H D=some (.dT c)/\y=.ref b/\H b=some (.tup (k.map kV))/\c.length<sizeLine/\g=upd H D (.dT (jB c k v))
theorem DPutT.t{H:Hp}{a b:Addr}{c:List (List Key×V)}{k:List Key}{v:V}(e:H a=some (.dT c))(g:H b=some (.tup (k.map kV)))(i:c.length<sizeLine):DPutT H a (.ref b) v (upd H a (.dT (jB c k v))):=⟨c,k,b,e,rfl,g,i,rfl⟩
section
variable{X:Cx}{B H u b:Expr}{c:List Expr}{D i:Expr}{l:List Expr}{scope:Scope}{m:Pos}{I w:TI}{g A:TG}{C s:TT}{E G:TE}
end
abbrev jT(X:Cx)(b:List Str)(scope:Scope)(x:Str)(C:Addr)(s:Shared)(H:Hp)(ex:List Addr):Cx where
 prog:=X.prog
 w:=X.w
 K:=X.K
 mg:=X.mg
 base:=X.base
 A:=X.A
 N:=b
 s₀:=s
 H₀:=H
 env:=compEnvC scope ((x,C+1)::jh X.env.cells scope.names []) C X.env
 outer:=X.stack
 stack:=X.stack
 ex:=ex
 fn:=fun y=>y==x
 calm:=X.calm
 pn:=[]
 xe:=fun _ _=>False
def X2(sn on:List (Str×NameKind))(N:List Str)(x:Str)(b:List Str)(c:List Nat):Bool:=
 (sn.filter fun y=>y.2==.cell)==[(x,.cell)]&&sn.lookup x==some .cell&&decide ([x]++b).Nodup&&sn.all (fun y=>(y.2 != .local||sn.lookup y.1==some .local)&&(y.2 != .free||(on.lookup y.1==some .cell||on.lookup y.1==some .free)))&&b.length==c.length
  && (b.zip c).all fun p=>sn.lookup p.1==some .free&&N[p.2]? ==some p.1
structure BlkOkC(sn on:List (Str×NameKind))(N:List Str)(x:Str)(fr:List Str)(js:List Nat):Prop where
 one:(sn.filter fun y=>y.2==.cell)=[(x,.cell)]
 lk:sn.lookup x=some .cell
 nd:([x]++fr).Nodup
 loc:∀y∈sn,y.2=NameKind.local->sn.lookup y.1=some .local
 free:∀y∈sn,y.2=NameKind.free->on.lookup y.1=some .cell\/on.lookup y.1=some .free
 len:fr.length=js.length
 fr:∀(k:Nat) (x:Str),fr[k]? =some x->sn.lookup x=some .free/\∃j:Nat,js[k]? =some j/\N[j]? =some x
theorem BlkOkC.is{sn on:List (Str×NameKind)}{N:List Str}{x:Str}{b:List Str}{c:List Nat}(B:BlkOkC sn on N x b c){y:Str×NameKind}(h:y∈sn)(e:y.2=.cell):y.1=x:=by
 have:y∈sn.filter fun y=>y.2==.cell:=ji.mpr ⟨h,by rw[e];rfl⟩
 rw[B.one,zR] at this;rw[this]
theorem Xp{sn on:List (Str×NameKind)}{N:List Str}{x:Str}{c:List Str}{b:List Nat}(h:X2 sn on N x c b=true):BlkOkC sn on N x c b:=by
 unfold X2 at h;simp only[j8,xB,xr,decide_eq_true_eq] at h;obtain⟨⟨⟨⟨⟨h0,h1⟩,u⟩,h2⟩,l⟩,m⟩:=h;refine⟨h0,h1,u,fun y hy e=>?_,fun y hy e=>?_,l,fun k x e=>?_⟩
 ·have:=(h2 y hy).1
  simp only[Jh,bne_iff_ne,xr] at this;exact this.resolve_left fun z=>z e
 ·have:=(h2 y hy).2
  simp only[Jh,bne_iff_ne,xr] at this;exact this.resolve_left fun z=>z e
 ·have hk:k<c.length:=(zL.mp e).1
  have g:k<b.length:=by omega
  have s:(x,b[k])∈c.zip b:=by
   refine je (i:=k) ?_
   rw[zdM];exact⟨e,by simp[g]⟩
  have:=m _ s;exact⟨this.1,b[k],by simp[g],this.2⟩
theorem QX:∀{names:List (Str×NameKind)} (n:Nat) (b:List (Str×Addr)) (h:Heap),(names.filter fun y=>y.2==.cell)=[]->cellsFrom n names b=b/\pushCells h names=h
 | [],_,_,_,_=>⟨rfl,rfl⟩
 | (a,k)::r,n,b,h,e=>by
  by_cases q:(k==NameKind.cell)=true
  ·rw[yp,zu (show((a,k).2==NameKind.cell)=true from q)] at e
   cases e
  ·rw[yp,zo (show ¬((a,k).2==NameKind.cell)=true from q)] at e
   unfold cellsFrom pushCells;rw[zo q,zo q];exact QX n b h e
theorem Xl{x:Str}:∀{names:List (Str×NameKind)} (n:Nat) (b:List (Str×Addr)) (h:Heap),(names.filter fun y=>y.2==.cell)=[(x,.cell)]->cellsFrom n names b=(x,n)::b/\pushCells h names=h.push { cls:=.type "cell",data:=.cell none }
 | [],_,_,_,e=>by cases e
 | (a,k)::r,n,b,h,e=>by
  by_cases q:(k==NameKind.cell)=true
  ·rw[yp,zu (show((a,k).2==NameKind.cell)=true from q)] at e
   injection e with e1 e2;cases e1;unfold cellsFrom pushCells;rw[zu q,zu q];exact QX _ _ _ e2
  ·rw[yp,zo (show ¬((a,k).2==NameKind.cell)=true from q)] at e
   unfold cellsFrom pushCells;rw[zo q,zo q];exact Xl n b h e
theorem Ys{M:Model}{A:Around}{E:Value->Shared->Prop}{s:Shared}{scope:Scope}{globals:Addr}{c:List (Str×Addr)}{qual:Str}{b:Env}{x:Str}{Q:Env->Shared->Prop}(i:(scope.names.filter fun y=>y.2==.cell)=[(x,.cell)])
  (m:Q { scope:=scope,locals:=s.heap.objs.size,globals:=globals,cells:=(x,s.heap.objs.size+1)::c,qual:=qual,func:=none,code:=b.code,frame:=b.frame,builtins:=b.builtins } { s with heap:=(s.heap.push { cls:=.type "dict",data:=.dict #[] }).push { cls:=.type "cell",data:=.cell none } }) :
  wpAny M A (newFunctionEnv scope globals c [] qual none .none (some b)) Q E s:=by
 simp only[newFunctionEnv,Option.isSome_some,if_true];refine zm (wpAny_alloc (zm (wpAny_layCells _ (fun l kind cells=>by cases g:kind==NameKind.cell<;>simp[g]) _ _ _ _ ?_)))
 obtain⟨e1,e2⟩:=Xl (names:=scope.names) (x:=x) (s.heap.push { cls:=.type "dict",data:=.dict #[] }).objs.size c (s.heap.push { cls:=.type "dict",data:=.dict #[] }) i;rw[e1,e2,j7];exact zm (zJ (zJ m))
theorem yC{b:Env}{x:Str}:∀{names:List (Str×NameKind)},names.lookup x=some .cell->(names.map fun(n,k)=>if(k==NameKind.free&&b.scope.kind==.function&&b.kindOf n==some .cell) then(n,NameKind.cell) else(n,k)).lookup x=some .cell
 | [],h=>by simp at h
 | (n,k)::r,h=>by
  show List.lookup x ((if(k==NameKind.free&&b.scope.kind==.function&&b.kindOf n==some .cell)=true then(n,NameKind.cell) else(n,k))::_)=some NameKind.cell
  by_cases hx:(x==n)=true
  ·rw[jI,hx] at h
   cases(jH h);split<;>simp[jI,hx]
  ·have c:(x==n)=false:=by simpa using hx
   rw[jI,c] at h;split
   ·rw[jI,c];exact yC h
   ·rw[jI,c];exact yC h
section
variable{X:Cx}{A M w:Expr}{E:List Expr}{scope:Scope}{G:Pos}{N:TI}{g:TG}{L:TT}{J:TE}{x:Str}
theorem YH{U:List (Addr×Obj)}{σ:St}{H:Hp}{s:Shared}{fp:List Addr}(fr:List Str)(js:List Nat)(I:Inv X U σ H s)(B:BlkOkC scope.names X.env.scope.names X.N x fr js)(hk:scope.kind=.function)
  (f2:∀b∈fp,xw X U H b) (fl:∀b∈fp,b<s.heap.objs.size) {D C:Addr} (hD:D=s.heap.objs.size) {Y h1:Heap} (e3:Y=s.heap.push { cls:=.type "list",dict:=none,data:=.seq ([]:List Value).toArray }) (hC:C=Y.objs.size)
  {m:Str->Option Value} (ai:h1.Ns C m) (aa:h1.IsCell (C+1) none) (k4:∀b o,Y.get? b=some o->h1.get? b=some o) {t4:Nat} :
  Inv (jT X ([x]++fr) scope x C { s with heap:=Y } H (D::fp)) [] (upS 1 js σ) H { s with heap:=h1,toks:=t4 }:=by
 have k3:∀b o,s.heap.get? b=some o->Y.get? b=some o:=fun b o e=>by rw[e3];exact qG _ e
 have I3:Inv X U σ H { s with heap:=Y }:=I.kept (t':=s.toks) k3;have hz:Y.objs.size=s.heap.objs.size+1:=by rw[e3,j7]
 have O:∀y∈scope.names,y.2=NameKind.free->∃c,X.env.cells.lookup y.1=some c:=fun y hy e=>I.ok.has y.1 (B.free y hy e)
 have Q:∀x c,X.env.cells.lookup x=some c->c<s.heap.objs.size:=fun x c e=>by
  obtain⟨v,q⟩:=I.cell x c e;exact q.lt
 have ab:∀y c,(jh X.env.cells scope.names []).lookup y=some c->c<C:=fun y c e=>by
  have:=Q y c (qM e O);rw[hC,hz];exact Zh this
 have look:∀y c,((x,C+1)::jh X.env.cells scope.names []).lookup y=some c->(y=x/\c=C+1)\/(y≠x/\(jh X.env.cells scope.names []).lookup y=some c):=fun y c e=>by
  rw[jI] at e;by_cases q:(y==x)=true
  ·rw[q] at e
   exact .inl ⟨by simpa using q,(jH e).symm⟩
  ·rw[(Jj _).mp q] at e
   exact .inr ⟨fun z=>q (by simpa using z),e⟩
 refine⟨⟨I.ok.mod,hk,I.ok.glob,I.ok.blt,yK hC.symm,fun y1 y2 c e1 e2=>?_,fun y hy=>?_,fun y c hf e=>?_,fun hc=>I.ok.hd hc,I.ok.frames,.inl rfl,fun b hb=>?_,I3.bs,jd I.ok.bsz I3.sz,fun b o e hb=>?_,fun b hb hf=>?_,I3.stack,I3.stkFree⟩,
  rfl,I.bare,Un.kept k4,⟨m,ai,fun i y v e1 e2 aj=>?_⟩,fun y c e=>?_,?_,fun y c e=>?_,fun p hp=>absurd (show p∈([]:List (Addr×Obj)) from hp) (by simp),I3.hok.kept k4,?_⟩
 ·rcases look _ _ e1 with ⟨a1,a2⟩ | ⟨a1,a2⟩<;>rcases look _ _ e2 with ⟨b1,b2⟩ | ⟨b1,b2⟩
  ·rw[a1,b1]
  ·have:=ab _ _ b2
   rw[a2] at this;exact absurd this (Nat.not_lt.mpr (wZ _))
  ·have:=ab _ _ a2
   rw[b2] at this;exact absurd this (Nat.not_lt.mpr (wZ _))
  ·exact I.ok.inj _ _ c (qM a2 O) (qM b2 O)
 ·by_cases q:y=x
  ·subst q
   exact⟨C+1,by show List.lookup y ((y,C+1)::_)=_;simp[jI]⟩
  obtain⟨k,e,z⟩:∃k,scope.names.lookup y=some k/\(k=.free):=by
   rcases hy with hx | hx
   ·obtain⟨k,e,z⟩:=wK hx
    rcases z with z | z
    ·subst z;exact absurd (B.is (yr e) rfl) q
    ·exact⟨k,e,z.1⟩
   ·obtain⟨k,e,z⟩:=wK hx
    rcases z with z | z
    ·subst z;exact⟨_,e,rfl⟩
    ·exact⟨k,e,z.1⟩
  subst z;refine⟨(X.env.cells.lookup y).getD 0,?_⟩
  show List.lookup y ((x,C+1)::_)=_;rw[jI,show(y==x)=false from by simpa using q]
  exact yg e
 ·rcases look _ _ e with ⟨a1,a2⟩ | ⟨a1,a2⟩
  ·rw[a2]
   show Y.objs.size<=C+1;rw[hC];exact wZ _
  ·exact absurd (by simpa using hf) a1
 ·have T:∀b,b<C->∀y c,((x,C+1)::jh X.env.cells scope.names []).lookup y=some c->(∀y c,X.env.cells.lookup y=some c->c≠b)->c≠b:=fun b hb y c e h=>by
   rcases look _ _ e with ⟨a1,a2⟩ | ⟨a1,a2⟩
   ·rw[a2];exact vn (Zh hb)
   ·exact h y c (qM a2 O)
  rcases qg.mp hb with z | hb
  ·subst z
   refine⟨by rw[hD,hC,hz];exact qw (ZU _),fun y c e=>T _ (by rw[hD,hC,hz];exact ZU _) y c e fun y c e=>?_⟩
   have:=Q y c e;rw[hD];exact qw this
  ·have ag:b<C:=by rw[hC,hz];exact Zh (fl b hb)
   exact⟨qw ag,fun y c e=>T _ ag y c e fun y c e=>(f2 b hb).2.2.2.2.1 y c e⟩
 ·rcases qg.mp hb with z | hb
  ·have:=zN (I.bk b o e)
   rw[z,hD] at this;exact vz _ this
  ·rcases(f2 b hb).2.2.2.1 with z | z
   ·exact I.ok.noex b o e z
   ·exact absurd (jY (zN (I.ok.bs b o e).1) z) (vz _)
 ·have ae:=qg.mp (I.stkSub b hf)
  rcases qg.mp hb with z | hb
  ·rcases ae with y | y
   ·have:=I.lt
    rw[<- y,z,hD] at this;exact vz _ this
   ·exact I.nofs (a:=b) (by rw[z,hD];exact zQ _) y
  ·rcases ae with y | y
   ·exact(f2 b hb).2.1 y
   ·exact(f2 b hb).2.2.1 y
 ·obtain⟨hn,_,j,ej,es⟩:=yT e2
  have ex:fr[i-1]? =some y:=by
   rw[xa (show([x]:List Str).length<=i from hn)] at e1
   exact e1
  obtain⟨a0,j',ac,eN⟩:=B.fr _ y ex;have:j'=j:=by rw[ej] at ac;exact(jH ac).symm
  subst this;have af:=B.free _ (yr a0) rfl;obtain⟨m0,_,hl⟩:=I.loc;obtain⟨u,r,l⟩:=hl j' y v eN es (by rcases af with z | z;exact .inr (.inl z);exact .inr (.inr z))
  refine⟨u,r,.inr ?_⟩
  have yx:y≠x:=fun z=>by
   have:=B.lk;rw[<- z,a0] at this;cases this
  rcases l with ⟨kl,_⟩ | ⟨_,c,ec,o,eo,ed⟩
  ·have ah:X.env.scope.names.lookup y=some .local:=kl
   rcases af with z | z
   ·exact absurd (z.symm.trans ah) (by decide)
   ·exact absurd (z.symm.trans ah) (by decide)
  ·obtain⟨k',e',z⟩:=yB (env:=X.env) a0
   have eq:((x,C+1)::jh X.env.cells scope.names []).lookup y=some c:=by
    rw[jI,show(y==x)=false from by simpa using yx]
    show(jh X.env.cells scope.names []).lookup y=some c;rw[yg a0,ec];rfl
   refine⟨?_,c,eq,o,k4 c o (k3 c o eo),ed⟩
   rcases z with z | z
   ·subst z;exact .inl e'
   ·subst z;exact .inr e'
 ·rcases look _ _ e with ⟨a1,a2⟩ | ⟨a1,a2⟩
  ·rw[a2];exact⟨none,aa⟩
  ·obtain⟨v,o,eo,ed⟩:=I.cell y c (qM a2 O)
   exact⟨v,o,k4 c o (k3 c o eo),ed⟩
 ·exact I3.hok.fresh (yK hC.symm)
 ·rcases look _ _ e with ⟨a1,a2⟩ | ⟨a1,a2⟩
  ·rw[a2]
   exact I3.hok.fresh (by show Y.objs.size<=C+1;rw[hC];exact wZ _)
  ·exact I.freeC y c (qM a2 O)
 ·rw[zac,<- B.len]
  show _=([x]++fr).length;rw[zW];rfl
end
end L2
namespace L2
end L2
namespace L2
open PySem PySem.W PySem.Spec PyProof.Rows
abbrev bmV:List Value:=[.type "ValueError",.type "Exception",.type "BaseException",.type "object"]
def ziN(K:Frag)(C:Addr)(c:Option Value):Bool:=match K.lookup C with
 | some ⟨.type "type",_,.cls b,l⟩=>(match b.mro with
  | .ref g::i=>(match l.toList with
   | [_,_,_,_,some (.builtin n),_]=>g==C&&(n == "ValueError.__new__" && (!b.hasDel&&(tailIn K bmV i&&(nsOkIn K b.ns&&nsIn K b.ns "__init__" == some c))))
   | _=>false)
  | _=>false)
 | _=>false
structure Xc(h:Heap)(C:Addr)(ini:Option Value):Prop where
 is:∃(bm:List Value) (N:Addr) (nm qn:Str) (bs:List Value) (hd:Bool) (sn:List Str) (sub:List Value) (ab:Bool) (col:Option Bool) (dd:Option Addr) (k0 k1 k2 k3 k5:Option Value) (mN:Str->Option Value),
  h.get? C=some (excClassObj nm qn C N bs bm hd sn sub ab col dd k0 k1 k2 k3 k5 "ValueError.__new__")/\h.Ns N mN/\mN "__init__" = ini/\OwnTail h bmV bm
end L2
namespace L2
open PySem PySem.W PySem.Spec PyProof.Rows
section
variable{P:Program}{w:World}{H:Hp}{h b:Heap}{a:Addr}{o:HO}
theorem ObjOk.has(x:ObjOk P w H h a o):∃u,h.get? a=some u:=by
 cases o with
 | lst i=>obtain⟨_,_,_,_,e⟩:=x;exact⟨_,e⟩
 | tup i=>obtain⟨_,_,_,⟨u,e,_⟩,_⟩:=x;exact⟨u,e⟩
 | dK c=>obtain⟨_,_,_,_,u,_,_,e,_⟩:=x;exact⟨u,e⟩
 | dT c=>obtain⟨_,_,_,_,u,_,_,e,_⟩:=x;exact⟨u,e⟩
 | set S n=>obtain⟨u,_,_,_,e,_⟩:=x;exact⟨u,e⟩
 | ins C l g=>obtain⟨_,_,_,e,_⟩:=x;exact⟨_,e⟩
 | own y=>obtain⟨u,e⟩:=x;exact⟨u,e⟩
 | xd g=>obtain⟨_,⟨u,_,_,e,_⟩,_⟩:=x;exact⟨u,e⟩
 | rng lo m=>obtain⟨_,_,_,e⟩:=x;exact⟨_,e⟩
 | frz s u=>obtain⟨e,_⟩:=x;exact⟨_,e⟩
 | tbl A=>exact⟨_,show h.get? a=some _ from x⟩
 | met f y=>exact⟨_,show h.get? a=some _ from x⟩
 | ext φ=>obtain⟨_,⟨u,e⟩,_⟩:=x;exact⟨u,e⟩
theorem HOk.none_of(x:HOk P w H h)(e:h.get? a=none):H a=none:=by
 cases q:H a with
 | none=>rfl
 | some u=>obtain⟨z,c⟩:=(x a u q).has;rw[e] at c;cases c
end
section
variable{X:Cx}{g:List (Addr×Obj)}{σ:St}{H:Hp}{s:Shared}{i:Heap}
theorem Inv.laidN{a:Addr}{o:HO}{t':Nat}(I:Inv X g σ H s)(k:∀b u,s.heap.get? b=some u->i.get? b=some u)(w:s.heap.get? a=none)(m:ObjOk X.prog X.w (upd H a o) i a o) :
  Inv X g σ (upd H a o) { s with heap:=i,toks:=t' }:=by
 have B:=I.hok.none_of w;have ne:∀b u,s.heap.get? b=some u->b≠a:=fun b u q z=>by rw[z,w] at q;cases q
 have l:∀b u,H b=some u->b≠a:=fun b u q z=>by rw[z,B] at q;cases q
 refine I.un ⟨fun b u q _ _ _=>k b u q,fun b u q _ _ _=>⟨u.slots,k b u q⟩,fun b u q n _=>by rw[zj (ne b u q)];exact n,fun b u q _=>⟨u,k b u q⟩,
  fun b A q=>by rw[zj (l b _ q)];exact q,fun b u A q=>by rw[zj (l b _ q)];exact q,fun b C q=>⟨#[],by rw[zj (l b _ q),q];simp⟩⟩ ?_
 intro b u e;by_cases hb:b=a
 ·subst hb;rw[zb] at e;cases e;exact m
 ·rw[zj hb] at e
  exact(I.hok b u e).stay (fun c v _ q=>k c v q) (fun c q=>by rw[zj (l c _ q)];exact q) fun c A q=>by rw[zj (l c _ q)];exact q
end
section
variable{b:Program}{w:World}{A:Around}{E:Value->Shared->Prop}{h:Heap}{g:Array GenState}{d:Drawn}{t:Nat}{os:OsState}{C:Addr}
end
section
variable{c:Program}{w:World}{A:Around}{E:Value->Shared->Prop}{h:Heap}{g:Array GenState}{d:Drawn}{t:Nat}{os:OsState}
variable{J q:Str}{C N:Addr}{s m:List Value}{b:Bool}{sn:List Str}{sub:List Value}{l:Bool}{i:Option Bool}{u:Option Addr}{B D G H I:Option Value}
end
end L2
namespace L2
open PySem PySem.W PySem.Spec PyProof.Rows
structure XK2(K:Frag)(C:Addr)(ini:Option Value):Prop where
 cls:ziN K C ini=true
 sa:findIn K (.ref C) "__setattr__" = some (some (.builtin "object.__setattr__"))
 ga:findIn K (.ref C) "__getattribute__" = some (some (.builtin "BaseException.__getattribute__"))
 gh:findIn K (.ref C) "__getattr__" = some none
 ob:mroIn K C (.type "object")=some true
 be:mroIn K C (.type "BaseException")=some true
 hd:hasDictIn K C=true
section
variable{b:Program}{w:World}{A:Around}{E:Value->Shared->Prop}{h:Heap}{g:Array GenState}{d:Drawn}{t:Nat}{os:OsState}{K:Frag}{C e i:Addr}{c:Option Value}{f:Str}{v:Value}
end
end L2
namespace L2
open PySem PySem.W PySem.Spec PyProof.Rows
section
variable{b:Program}{w:World}{A:Around}{E:Value->Shared->Prop}{h:Heap}{g:Array GenState}{d:Drawn}{t:Nat}{os:OsState}{K:Frag}{C e s i:Addr}{m:Option Addr}{c:Option Value}{f:Str}{v:Value}{l:Str->Option Value}
end
end L2
namespace L2
open PySem PySem.W PySem.Spec PyProof.Rows
structure XKc(K:Frag)(C:Addr):Prop where
 lk:findIn K (.ref C) "__class__" = some (some (.builtin "object.__class__"))
 gt:specialIn K (.builtin "object.__class__") "__get__" = some (some (.builtin "getset_descriptor.__get__"))
 tk:takesIn K (.builtin "object.__class__")=some true
section
variable{b:Program}{w:World}{A:Around}{E:Value->Shared->Prop}{h:Heap}{g:Array GenState}{d:Drawn}{t:Nat}{os:OsState}{K:Frag}{C i e s:Addr}{l:Option Addr}{c:Option Value}{m:Option Obj}
end
end L2
namespace L2
open PySem PySem.W PySem.Spec PyProof.Rows
structure XOk(K:Frag)(C:Addr)(ini:Option Value):Prop where
 k:XK2 K C ini
 c:XKc K C
 kp:keepIn K (.ref C)=true
 ty:typeIn K (.ref C)=some (.type "type")
 cd:∃cd,clsIn K C=some cd
 ve:mroIn K C (.type "ValueError")=some true
section
variable{X:Cx}{s:CXT}{k:Nat}{f C:Addr}{A:FuncData}{B:List Str}{u:List Value}{g:List V}{D:Sp}{E:XK}{x m:Str}{p l c:Pos}{e o b:Expr}{w:List Expr}{t:TA}{G H:TE}{i:Option Value}
end
end L2
namespace L2
open PySem PySem.W PySem.Spec PyProof.Rows
section
variable{X:Cx}
inductive WY(K:W.Frag)(x:V)(y:V)(H:Hp)(Q:VK):Prop
 | mk (a b:Addr) (c:List V) (_:x=.ref a) (_:y=.ref b) (_:SqL K H a c) (_:SqL K H b c) (_:c.all jS=true) (_:(∀v∈c,eqV v v=true)) (_:Q (.bl false) H):WY K x y H Q
theorem Yo(hu:X.A.units<cLine):OpR X (compareOp .NotEq) (WY X.K):=by
 intro B s σ H x y v u Q I U Y h;obtain⟨a,b,m,rfl,rfl,hx,hy,G,E,q⟩:=h;cases U;cases Y;obtain⟨g,C,M,z1⟩:=I.list hx;obtain⟨l,D,N,z2⟩:=I.list hy;have l1:=C.length;have l2:=D.length;refine SeqAt.RcNeAt.lists (e:=fun _=>true) M.isList N.isList (by rw[z9,z9];omega) hu (fun j h1 h2=>?_) _ _ _ _ ⟨.bl _,H,I,rfl,?_⟩
 ·have c:j<m.length:=by rw[z9] at h1;omega
  obtain⟨w1,e1,O⟩:=C.get (i:=j) (x:=m[j]) (by simp[c])
  obtain⟨w2,e2,T⟩:=D.get (i:=j) (x:=m[j]) (by simp[c])
  have J:g.toArray[j]=w1:=by simpa using (zL.mp e1).2
  have L:l.toArray[j]=w2:=by simpa using (zL.mp e2).2
  have w:=xB.mp G _ (vY c);have z:=QV (A:=X.A.in1) (s:=s) O T w w;rw[E _ (vY c)] at z;rw[J,L];exact z
 ·rw[show((List.range g.toArray.size).all fun _=>true)=true from xB.mpr fun _ _=>rfl]
  exact q
end
structure Xs(K:Frag)(mg:Str->Option Value)(x:Str)(C:Addr)(ini:Option Value):Prop where
 ok:XOk K C ini
 gl:mg x=some (.ref C)
structure XsI(P:Program)(w:World)(K:Frag)(mg:Str->Option Value)(base:Heap)(x:Str)(C f:Addr)(k:Nat)(ps:List Str)(sp:Sp):Prop extends Xs K mg x C (some (.ref f)) where
 ex:∃fd oF,FnOk P w K mg base CX0 k f fd ps sp/\K.lookup f=some oF/\oF.cls=.type "function" /\ Binds K fd ps []
section
variable{X:Cx}{x:Str}{k:Nat}{C f:Addr}{g:List Str}{i:Sp}{p b:Pos}{e:Expr}{c:List Expr}{t:TA}
end
end L2
namespace L2
open PySem PySem.Spec PyProof.Rows
theorem Qn:∀{c:List Value} {b:List Int},IntsAre c b->Vals (b.map V.int) c
 | _,_,.nil=>.nil
 | _,_,.cons n t r=>.cons ⟨t,rfl⟩ (Qn r)
section
variable{X:Cx}
inductive w6(K:W.Frag)(g:List V)(H:Hp)(Q:VK):Prop
 | mk (a:Addr) (c:List Int) (_:g=[.ref a]) (_:SqL K H a (c.map V.int)) (_:c.length<64) (_:∀(p:Addr) (b:List Int),H p=none->b.Perm c->b.Pairwise (·<= ·)->Q (.ref p) (upd H p (.lst (b.map V.int)))):w6 K g H Q
theorem jF:CallR X (.builtin "sorted") (w6 X.K):=by
 intro l s σ H M L Q I r h;obtain⟨a,G,rfl,hx,D,q⟩:=h;obtain⟨u,rfl,C⟩:=Vals.one r;cases(show u=Value.ref a from C)
 obtain⟨c,m,B,E⟩:=I.list hx;have g:=m.length;rw[zp] at g;refine sorted_ints B.isList (YD m) (by omega) fun b i a1 a2 a3=>?_
 obtain⟨e,w⟩:=sortedAll_at s.heap c b;have A:H (s.heap.objs.size+1)=none:=I.hok.fresh (wZ _);refine⟨.ref (s.heap.objs.size+1),_,I.laid (a:=s.heap.objs.size+1) (o:=.lst (i.map V.int)) (t':=s.toks) (fun _ _=>sortedAll_old) (wZ _) ⟨?_,b.toList,e,Qn a1,?_⟩,rfl,q _ i A a2 a3⟩
 ·rw[zp,a2.length_eq,sizeLine_eq];omega
 ·rw[w]
end
section
variable{g:Program}{w:World}{κ:Type}[DecidableEq κ]{c:PySem.KeyKind g w κ}{A:Around}{E:Value->Shared->Prop}{s:Shared}
theorem zcF{d:Addr}{m:List (κ×Value)}{k:κ}{N dflt:Value}{Q:Value->Shared->Prop}(u:c.is k N=true)(hm:s.heap.DictOf c d m)(af:m.length<=sizeLine)
  (G:∀v,valueAt m k=some v->Q v { s with toks:=s.toks+1 })
  (L:valueAt m k=none->∀h',h'.DictOf c d (stored m k dflt)->Heap.SameBut d s.heap h'->Q dflt { s with heap:=h',toks:=s.toks+1 }) :
  wpAny (model g w) A (dictSetDefault d N dflt) Q E s:=by
 obtain⟨o,B,ep,M,hc,hd,hk,hp,hn⟩:=id hm;obtain⟨o',ac,ab,D,-,I,-,hf⟩:=hm.mapOf;rw[M] at D;injection D with D;subst D;rw[hd] at I;injection I with a0 ae;subst a0;have aa:B.size<=sizeLine:=by
  have e1:=hp.length;have e2:B.toList.length=B.size:=by simp
  omega
 have T:(B.findIdx? fun U=>c.is k U.key)=m.findIdx? fun p=>decide (p.1=k):=by
  obtain⟨l⟩:=B;rw[<- hp.findIdx k];simp
 unfold dictSetDefault;refine vW (zm (c.pyHash u (zm (wpAny_dictFind_of (s:={ s with toks:=s.toks+1 }) u M hd hk ?_))))
 cases O:B.findIdx? fun U=>c.is k U.key with
 | some i=>
  have J:i<B.size:=(Array.findIdx?_eq_some_iff_findIdx_eq.mp O).1
  have C:valueAt m k=(B[i]?).map (·.val):=by rw[<- hf k,findBy_of_findIdx?,O]
  rw[Js J] at C;refine zm (wpAny_dictEntries (s:={ s with toks:=s.toks+1 }) M hd ?_)
  rw[Js J];exact zm (xY (zJ (G _ C)))
 | none=>
  have fresh:k∉m.map (·.1):=not_mem_of_findIdx_none (T▸O)
  have H:¬(m.any fun kv=>decide (kv.1=k))=true:=fun z=>by
   obtain⟨kv,h1,h2⟩:=vZ.mp z;exact fresh (qo.mpr ⟨kv,h1,qQ h2⟩)
  have C:valueAt m k=none:=by rw[<- hf k,findBy_of_findIdx?,O]
  have Y:stored m k dflt=m++[(k,dflt)]:=by rw[stored,zo H]
  refine zm (xY (zm (wpAny_updateDictKeys (s:={ s with toks:=s.toks+1 }) (hz:=aa) M hd (zJ (L C _ ?_ (Jm ..))))))
  rw[Y];refine⟨_,_,ep+1,Q6 _ M (Obj.isFreed_of_dict (Obj.data_mapDictKeys hd _)),hc.mapDictKeys _,Obj.data_mapDictKeys hd _,hk.push u _,?_,?_⟩
  ·have z:=hp.append u (c.hash k) dflt
   obtain⟨l⟩:=B;simpa using z
  ·rw[zM,Zg]
   refine⟨hn,by simp,fun a ha b hb z=>fresh ?_⟩
   rw[show List.map (·.1) [(k,dflt)]=[k] from rfl,zR] at hb
   rw[<- hb,<- z];exact ha
end
section
variable{b:Program}{w:World}{κ:Type}[DecidableEq κ]{knd:PySem.KeyKind b w κ}
theorem zdl{d:Addr}{k:κ}{g x:Value}(l:knd.is k g=true)(hs:(d==sysModules)=false) :
  MeetsIn b w (Builtin.«dict.setdefault» ⟨[.ref d,g,x],[]⟩) (fun _ R s=>∃c,s.heap.DictOf knd d c/\c.length<=sizeLine/\(∀v,valueAt c k=some v->R (.ok (.ret v)) { s with toks:=s.toks+1 }) /\
   (valueAt c k=none->∀i,i.DictOf knd d (stored c k x)->Heap.SameBut d s.heap i->R (.ok (.ret x)) { s with heap:=i,toks:=s.toks+1 })):=
 .of_wp fun A R s ⟨c,C,E,h1,h2⟩=>by
  delta Builtin.«dict.setdefault» Builtin.Dict.keyAndDefault;refine zm (zm (wpAny_notOrdered_dict C.typeIs (zJ (a:=(d,g,some x)) ?_)))
  have B:¬(d==sysModules)=true:=by rw[hs];exact qH
  refine(show wpAny _ _ (if(d==sysModules)=true then _ else(dictSetDefault d g x >>= _)) _ _ _ from ?_)
  rw[zo B];exact zm (zcF l C E (fun v hv=>zJ ⟨v,rfl,h1 v hv⟩) fun D i m u=>zJ ⟨x,rfl,h2 D i m u⟩)
end
section
variable{X:Cx}{g ty i:TE}{o e f:Expr}{b c:Pos}
def ziX(g ty i:TE):TE:=fun σ H Q=>g σ H fun x s=>∃a,x=.ref a/\IsD s a/\ty σ s fun y u=>i σ u fun z m=>∃l k,m a=some (.dK l)/\y=kV k/\l.length<sizeLine /\
 (∀v,jf l k=some v->Q v m)/\(jf l k=none->Q z (upd m a (.dK (jB l k z))))
theorem zgF(ho:PE X o g)(he:PE X e ty)(hf:PE X f i)(m:M2 X o "setdefault" b e f c):PE X (.Call (.Attribute o "setdefault" b) [e,f] [] c) (ziX g ty i):=by
 intro A s σ H Q I h;refine wpAny_Call_method m.base m.few m.line Y1 zdU PySem.F.type_dict_setdefault (thn (ho A s σ H _ I h) fun u s1 ⟨x,U,L,rx,a,ex,d,q1⟩=>?_)
 subst ex;obtain rfl:u=Value.ref a:=rx;obtain⟨t1,t2,_⟩:=YC L d;refine⟨t1,t2,?_⟩
 rw[m.trees];refine Vv rfl (Vr (yR (thn (he A s1 σ U _ L q1) fun iv s2 ⟨y,Y,I2,ry,q2⟩=>
  yR (thn (hf A s2 σ Y _ I2 q2) fun fv s3 ⟨z,H3,G,O,w,k,N,ey,l,g1,g2⟩=>Jk ?_))))
 subst ey;obtain⟨zz,hd,T,B,M⟩:=WH G.hok N;have hz:T.length<=sizeLine:=by rw[<- B.length];exact zz
 refine call_meetsIn zdU M.typeIs PySem.F.entry_dict_setdefault (PySem.F.args_dict_setdefault_3 _ _ _) (zdl (knd:=qv X.prog X.w) (yj ry) hd) ⟨T,M,hz,fun v hv=>?_,fun hn h' E hs=>?_⟩
 ·have C:=B.val k
  rw[hv] at C;cases D:jf w k with
  | none=>rw[D] at C;exact C.elim
  | some J=>
   rw[D] at C;exact⟨J,H3,G.tok _,C,g1 J D⟩
 ·have C:=B.val k
  rw[hn] at C;have D:jf w k=none:=by
   cases D:jf w k with
   | none=>rfl
   | some J=>rw[D] at C;exact C.elim
  have hl:(jB w k z).length<=sizeLine:=by have:=xn w k z;omega
  have ee:∃q,h'.get? a=some q:=let ⟨q,_,_,hq,_⟩:=E;⟨q,hq⟩
  exact⟨z,_,Zc G (by rw[N];exact True.intro) hs ee (QW hl hd (B.put k O) E),O,g2 D⟩
end
theorem zdt{P:Program}{w:World}{k:Key}{u:Value}(h:(qv P w).is k u=true):RelV (kV k) u:=by
 rw[Yv] at h;rcases jg h with ⟨i,t,rfl,rfl⟩ | ⟨x,t,rfl,rfl⟩
 ·exact⟨t,rfl⟩
 ·exact⟨t,rfl⟩
theorem KV.get:∀{b:List (Key×V)} {c:List (Key×Value)} {j:Nat} {q:Key×Value},KV b c->c[j]? =some q->∃p,b[j]? =some p/\p.1=q.1/\RelV p.2 q.2
 | _,_,j,_,.nil,e=>by simp at e
 | _,_,0,_,.cons h _,e=>by simp at e;subst e;exact⟨_,rfl,h⟩
 | _,_,j+1,_,.cons _ t,e=>by
  obtain⟨p,e1,r⟩:=KV.get (j:=j) t (by simpa using e)
  exact⟨p,by simpa using e1,r⟩
theorem zab:∀{c:List V} {b:List Value},c.length=b.length->(∀(j:Nat) u,b[j]? =some u->∃x,c[j]? =some x/\RelV x u)->Vals c b
 | [],[],_,_=>.nil
 | [],_::_,h,_=>by simp at h
 | _::_,[],h,_=>by simp at h
 | x::c,u::b,h,f=>by
  refine .cons ?_ (zab (by simpa using h) fun j v e=>?_)
  ·obtain⟨y,e1,r⟩:=f 0 u rfl
   cases e1;exact r
  ·obtain⟨y,e1,r⟩:=f (j+1) v (by simpa using e)
   exact⟨y,by simpa using e1,r⟩
section
variable{X:Cx}
inductive yz(c:List V)(H:Hp)(Q:VK):Prop
 | mk (a:Addr) (b:List (Key×V)) (_:c=[.ref a]) (_:Rd H a (.dK b)) (_:∀p,H p=none->Q (.ref p) (upd H p (.lst (b.map fun g=>kV g.1)))):yz c H Q
theorem WN(M:X.A.handled=none):CallR X (.type "list") (yz):=by
 intro C s σ H xs us Q I r h;obtain⟨a,l,rfl,hx,q⟩:=h;obtain⟨u,rfl,U⟩:=Vals.one r;cases(show u=Value.ref a from U)
 obtain⟨zz,hd,vs,m,G⟩:=ZM I.hok hx;obtain⟨B,E⟩:=G.dictAt;have ln:=m.length;refine PySem.W.kdl_call (PySem.W.kdl_dict (prog:=X.prog) (w:=X.w) (knd:=qv X.prog X.w) (d:=a) (kvs:=vs) (ep:=B) hd) M E (by omega) fun h' Y b c i A g=>?_
 have N:H s.heap.objs.size=none:=I.hok.fresh (zQ _);refine⟨.ref s.heap.objs.size,_,I.laid (a:=s.heap.objs.size) (o:=.lst (l.map fun T=>kV T.1)) (t':=Y) i (zQ _) ⟨by rw[zp];exact zz,b.toList,c,zab ?_ ?_,by rw[A]⟩,rfl,q _ N⟩
 ·have z:=g.1
  have y:b.toList.length=b.size:=ZX;rw[zp];omega
 ·intro j u e
  rw[Jr] at e;obtain⟨k,x,e1,e2⟩:=g.2 j u e;obtain⟨p,J,L,_⟩:=KV.get m e1;exact⟨kV p.1,by rw[zU,J];rfl,by rw[L];exact zdt e2⟩
end
section
variable{X:Cx}{i ty:TE}{o e:Expr}{c g:Pos}
def zhG(i ty:TE):TE:=fun σ H Q=>i σ H fun x u=>∃a,x=.ref a/\IsD u a/\ty σ u fun y s=>∃b m l,y=.ref b/\a≠b/\s a=some (.dK m)/\s b=some (.dK l)/\m.length+l.length<=sizeLine/\Q .non (upd s a (.dK (j5 m l)))
theorem zes(ho:PE X o i)(he:PE X e ty)(m:M1 X o "update" c e g):PE X (.Call (.Attribute o "update" c) [e] [] g) (zhG i ty):=by
 intro w s σ H Q I h;refine wpAny_Call_method m.base m.few m.line Y1 PySem.F.slot_dict_update PySem.F.type_dict_update (thn (ho w s σ H _ I h) fun u s1 ⟨x,N,E,rx,a,Y,d,q1⟩=>?_)
 subst Y;obtain rfl:u=Value.ref a:=rx;obtain⟨t1,t2,_⟩:=YC E d;refine⟨t1,t2,?_⟩
 rw[m.trees];refine Vv rfl (Vr (yR (thn (he w s1 σ N _ E q1) fun iv s2 ⟨y,H2,C,ry,b,D,B,ey,ne,J,T,l,q2⟩=>Jk ?_)))
 subst ey;obtain rfl:iv=Value.ref b:=ry;obtain⟨_,sa,vs,L,G⟩:=WH C.hok J;obtain⟨_,sb,ws,M,O⟩:=WH C.hok T;have la:=L.length;have lb:=M.length;refine call_meetsIn PySem.F.slot_dict_update G.typeIs PySem.F.entry_dict_update (PySem.F.args_dict_update_2 _ _) (meets_dict_update (qv X.prog X.w) a b ne sb) ⟨vs,ws,G,O,by omega,fun h' A _ hs=>?_⟩
 have U:∃q,h'.get? a=some q:=let ⟨q,_,_,hq,_⟩:=A;⟨q,hq⟩
 exact⟨.non,_,Zc (t':=s2.toks) C (by rw[J];exact True.intro) hs U (QW (jd (xN B D) l) sa (M.merge L) A),rfl,q2⟩
end
theorem za0:∀{b:List Int} {c:List Value},b.length=c.length->(∀(j:Nat) u,c[j]? =some u->∃i t,b[j]? =some i/\u=.int i t)->IntsAre c b
 | [],[],_,_=>.nil
 | [],_::_,h,_=>by simp at h
 | _::_,[],h,_=>by simp at h
 | n::b,u::c,h,f=>by
  obtain⟨i,t,e1,e2⟩:=f 0 u rfl;cases e1;subst e2;refine .cons n t (za0 (by simpa using h) fun j v e=>?_)
  obtain⟨i,t,e1,e2⟩:=f (j+1) v (by simpa using e)
  exact⟨i,t,by simpa using e1,e2⟩
section
variable{X:Cx}
inductive wG(i:List V)(H:Hp)(Q:VK):Prop
 | mk (a:Addr) (b:List (Int×V)) (_:i=[.ref a]) (_:Rd H a (.dK (b.map fun g=>(Sum.inl g.1,g.2)))) (_:b.length<64) (_:∀(p:Addr) (c:List Int),H p=none->c.Perm (b.map (·.1))->c.Pairwise (·<= ·)->Q (.ref p) (upd H p (.lst (c.map V.int)))):wG i H Q
theorem JE(hh:X.A.handled=none):CallR X (.builtin "sorted") (wG):=by
 intro U s σ H xs us Q I r h;obtain⟨a,C,rfl,hx,a0,q⟩:=h;obtain⟨u,rfl,ru⟩:=Vals.one r;cases(show u=Value.ref a from ru)
 obtain⟨zz,hd,vs,E,dd⟩:=ZM I.hok hx;obtain⟨M,da⟩:=dd.dictAt;have ln:=E.length;rw[zp] at ln;have sz:sizeLine=16777216:=sizeLine_eq;refine Calls.call_function_entry kind_sorted plain_sorted entry_sorted (args_sorted1 _) ?_
 delta Builtin.«sorted»;refine zm (m:=checkCount "sorted" 1 1 _) (zJ (zm (PySem.W.kdu_collect (PySem.W.kdl_dict (prog:=X.prog) (w:=X.w) (knd:=qv X.prog X.w) (d:=a) (kvs:=vs) (ep:=M) hd) hh da (by omega) fun l tk c g B=>?_)))
 have al:c.toList.length=vs.length:=by rw[ZX];exact B.1
 have hI:IntsAre c.toList (C.map (·.1)):=za0 (by rw[zp];omega) fun j u e=>by
  rw[Jr] at e;obtain⟨k,x,e1,e2⟩:=B.2 j u e;obtain⟨p,L,G,_⟩:=KV.get E e1;rw[zU] at L;obtain⟨N,e5,rfl⟩:=qr.mp L;have G:Sum.inl N.1=k:=G;subst G;obtain⟨t,rfl⟩:=zdt e2;exact⟨N.1,t,by rw[zU,e5];rfl,rfl⟩
 refine zm (wpAny_newList ?_ (by omega))
 have i:(l.push (seqObj "list" c.toList.toArray 0)).get? l.objs.size=some (seqObj "list" c.toList.toArray 0):=qJ _ rfl;refine zm (vW (wD slot_list_sort ⟨_,i,rfl⟩ entry_list_sort (list_sort_tree (s:={ s with heap:=l.push (seqObj "list" c.toList.toArray 0),toks:=tk }) i hI (by omega) fun A T a1 a2 a3=>⟨_,rfl,?_⟩) (args_list_sort _)))
 have D:s.heap.get? l.objs.size=none:=by
  cases z:s.heap.get? l.objs.size with
  | none=>rfl
  | some o=>exact absurd (zN (g _ _ z)) (vz _)
 obtain⟨J,fin⟩:=sortedHeap_at (out:=A) i;refine zJ ⟨_,rfl,.ref l.objs.size,_,I.laidN (a:=l.objs.size) (o:=.lst (T.map V.int)) (t':=tk) (fun b o e=>?_) D ⟨?_,A.toList,J,Qn a1,?_⟩,rfl,q _ T (I.hok.none_of D) a2 a3⟩
 ·have O:=zN (g b o e)
  rw[sortedHeap_old (qw O) (by rw[j7];exact Zh O)]
  exact qG _ (g b o e)
 ·rw[zp,a2.length_eq,zp];omega
 ·rw[fin]
end
def zd1(d:Addr)(o:Obj)(b:List (Key×V)):It:=
 ⟨fun i H=>H d=some (.frz o (.dK b))/\i<b.length,fun i H x c=>c=H/\∃k v,b[i]? =some (k,v)/\x=kV k,fun i H=>H d=some (.frz o (.dK b))/\b.length<=i⟩
theorem J3{P:Program}{w:World}:∀{c:List DictEntry} {g:List (Key×Value)},Pairs (qv P w) c g->∀{i:Nat} {q:Key×Value},g[i]? =some q->∃b,c[i]? =some b/\(qv P w).is q.1 b.key=true
 | _,_,.nil,_,_,h=>by simp at h
 | _,_,.cons h1 _ t,0,_,h=>by simp at h;subst h;exact⟨_,rfl,h1⟩
 | _,_,.cons _ _ t,i+1,_,h=>by
  obtain⟨b,e,r⟩:=J3 t (i:=i) (by simpa using h)
  exact⟨b,by simpa using e,r⟩
theorem KV.back:∀{b:List (Key×V)} {c:List (Key×Value)} {j:Nat} {p:Key×V},KV b c->b[j]? =some p->∃q,c[j]? =some q/\p.1=q.1
 | _,_,j,_,.nil,e=>by simp at e
 | _,_,0,_,.cons h _,e=>by simp at e;subst e;exact⟨_,rfl,h.1⟩
 | _,_,j+1,_,.cons _ t,e=>by
  obtain⟨q,e1,r⟩:=KV.back (j:=j) t (by simpa using e)
  exact⟨q,by simpa using e1,r⟩
theorem WE{P:Program}{w:World}{H:Hp}{h:Heap}{d:Addr}{o:Obj}{b:List (Key×V)}{c:Array DictEntry}{m:Nat}(ok:HOk P w H h)(e:H d=some (.frz o (.dK b)))(A:o.data=.dict c m):RawD h d c m/\c.size=b.length /\
  ∀(i:Nat) (k:Key) (v:V),b[i]? =some (k,v)->∃g:DictEntry,c[i]? =some g/\RelV (kV k) g.key:=by
 obtain⟨e1,z,y,O,r,N,E,D,h1,h2,s,G,u,I⟩:=(show ObjOk P w H h d (.frz o (.dK b)) from ok d _ e)
 rw[e1] at h1;cases h1;rw[A] at s;cases s;have J:=u.length;have L:=r.length;have M:c.toList.length=c.size:=ZX;refine⟨⟨o,e1,h2,A⟩,by omega,fun i k v hk=>?_⟩
 obtain⟨q,e2,l⟩:=KV.back r hk;obtain⟨g,B,C⟩:=J3 u e2;have l:k=q.1:=l;exact⟨g,by rw[<- Jr];exact B,by rw[l];exact zdt C⟩
theorem W7{P:Program}{w:World}{K:W.Frag}{tg:Expr}(d l:Addr)(o:Obj)(m:List (Key×V))(Y:Array DictEntry)(U:Nat)(he:o.data=.dict Y U):Zk P w K tg (zd1 d o m) [l] l (fun i h=>h.IsKeyIter l d i Y.size U) where
 mem:=by simp
 obj:=fun i h st b hb=>by
  have e:b=l:=by simpa using hb
  subst e;obtain⟨o,e,c,d⟩:=st;exact⟨o,e,fun v z=>by rw[d] at z;cases z⟩
 keep:=fun i h A st k=>st.at fun o e=>k l (by simp) o e
 item:=by
  intro X N Q M hc i g s σ H E I B st hg;subst N Q M;obtain⟨hd,hi⟩:=hg;obtain⟨T,sz,all⟩:=WE I.hok hd he;obtain⟨⟨k,v⟩,hx⟩:∃p,m[i]? =some p:=⟨m[i],by simp[hi]⟩
  obtain⟨en,O,ek⟩:=all i k v hx;obtain⟨C,D,f2,G,J,L⟩:=B l (by simp)
  refine zcY st T O fun A u sb=>?_
  have I1:Inv X g σ H { s with heap:=A }:=I.turned (t':=s.toks) (fun b o hb e=>(sb.2 b hb).trans e) C D G J L
  obtain⟨o',e',c',d'⟩:=id u;exact⟨_,rfl,za4 (s:={ s with heap:=A }) e' c' d' (by decide) ⟨kV k,H,I1,ek,⟨rfl,k,v,hx,rfl⟩,u,fun b hb=>(B b hb).1⟩⟩
 done:=by
  intro X N Q M hc i g s σ H E I B st hg;subst N Q M;obtain⟨hd,hi⟩:=hg;obtain⟨T,sz,_⟩:=WE I.hok hd he;obtain⟨C,D,f2,G,J,L⟩:=B l (by simp)
  exact zee (I.ok.hd hc) st T (by omega) fun A eb=>⟨rfl,I.turned (t':=s.toks) (fun b o hb e=>eb b o hb e) C D G J L⟩
 self:=fun _ _ _ _ _ st h=>wpAny_pyIter_keyiter st h
section
variable{X:Cx}{c:Expr}
def zhe(i:TE):TI:=fun σ H R=>i σ H fun x g=>∃d b,x=.ref d/\g d=some (.dK b)/\∀o,R (zd1 d o b) (upd g d (.frz o (.dK b)))
theorem zc4{l:Expr}{D:TE}(M:PE X l D):PI X c l (zhe D):=by
 intro g s σ H R I h;refine thn (M g s σ H _ I h) fun v s1 ⟨x,C,m,O,N⟩=>?_
 obtain⟨d,i,e,hd,q⟩:=N;subst e;cases O;obtain⟨z,y,Q,r,o,A,w,h1,h2,B,G,J,L⟩:=(show ObjOk X.prog X.w C s1.heap d (.dK i) from m.hok d _ hd)
 refine zcX y ⟨o,h1,h2,B⟩ ?_
 have E:Inv X g σ (upd C d (.frz o (.dK i))) { s1 with heap:=s1.heap.push { cls:=.type "dict_keyiterator",data:=.fields #[.ref d,.int 0 0,.int A.size 0,.int w 0] },toks:=s1.toks }:=by
  refine m.write (x:=d) (e:=d) (by rw[hd];exact True.intro) (.inl rfl) (fun b u _ e=>qG _ e) ⟨o,qG _ h1⟩ ?_
  exact⟨qG _ h1,z,y,Q,r,o,A,w,qG _ h1,h2,B,G,J,L⟩
 refine⟨s1.heap.objs.size,[s1.heap.objs.size],_,_,_,rfl,E,W7 d _ o i A w B,⟨_,qJ _ rfl,rfl,rfl⟩,fun b hb=>?_,q o⟩
 have e:b=s1.heap.objs.size:=by simpa using hb
 subst e;refine m.fpOk (zQ _) ?_
 rw[zj (qz (zg hd (m.hok.fresh (zQ _))))];exact m.hok.fresh (zQ _)
end
theorem zdp{d:Addr}{o:Obj}{kvs:List (Key×V)}{n:Nat}{g:TG}{J:TT}{I:TE}{A:St}{R:List V->Hp->Prop}{H:Hp}(Pv:Nat->List V->Hp->Prop)(h0:Pv 0 [] H)
  (h1:∀i c H,Pv i c H->H d=some (.frz o (.dK kvs)))
  (hs:∀i k v c H,kvs[i]? =some (k,v)->Pv i c H->g (kV k) A H fun s D=>s.drop n=A.drop n/\J s D fun b u=>if b=true then I s u fun v E=>c.length<sizeLine/\Pv (i+1) (c++[v]) E else Pv (i+1) c u)
  (hd:∀c H,Pv kvs.length c H->c.length<=sizeLine/\R c H) :
  ∃W:Nat->Nat->List V->Hp->Prop,(∃m,W 0 m [] H)/\∀i m c l,W i m c l ->
   ((zd1 d o kvs).stop i l/\c.length<=sizeLine/\R c l) \/
   ((zd1 d o kvs).go i l/\∃M:List V->Hp->Prop,(∀c B,M c B->∃G,G<m/\W (i+1) G c B)/\∀x C,(zd1 d o kvs).yld i l x C->g x A C fun s D=>s.drop n=A.drop n/\J s D fun b u=>
    if b=true then I s u fun y E=>c.length<sizeLine/\M (c++[y]) E else M c u):=by
 refine⟨fun i m c l=>m=kvs.length-i/\i<=kvs.length/\Pv i c l,⟨_,rfl,qX _,h0⟩,?_⟩
 rintro i m c l ⟨rfl,T,p⟩;by_cases w:i<kvs.length
 ·refine .inr ⟨⟨h1 i c l p,w⟩,Pv (i+1),fun Q B L=>⟨_,by omega,rfl,w,L⟩,fun x C y=>?_⟩
  obtain⟨e,k,v,hk,rfl⟩:=y;subst e;exact hs i k v c _ hk p
 ·have e:i=kvs.length:=by omega
  subst e;obtain⟨N,O⟩:=hd c l p;exact .inl ⟨⟨h1 _ c l p,zQ _⟩,N,O⟩
section
variable{X:Cx}{c:Expr}
def zir(K:W.Frag)(i:TE):TI:=fun σ H R=>i σ H fun x b=>∃a,x=.ref a/\(((∃g,SqL K b a g)/\R (Itl K a) b)\/((∃g,SqT K b a g)/\R (Itt K a) b))
theorem zc3{l:Expr}{A:TE}(B:PE X l A):PI X c l (zir X.K A):=by
 intro m s σ H R I h;refine thn (B m s σ H _ I h) fun v s1 ⟨x,u,g,E,D⟩=>?_
 obtain⟨a,e,q⟩:=D;subst e;cases E;have w:∀b∈[s1.heap.objs.size],_:=fun b hb=>by
  have e:b=s1.heap.objs.size:=by simpa using hb
  subst e;exact g.fpOk (zQ _) (g.hok.fresh (zQ _))
 rcases q with ⟨⟨L,hq⟩,q⟩ | ⟨⟨L,hq⟩,q⟩
 ·obtain⟨i,G,p,C⟩:=g.list hq
  refine wpAny_pyIter_list p.isList ⟨s1.heap.objs.size,[s1.heap.objs.size],_,_,u,rfl,g.kept (t':=s1.toks) fun b o e=>qG _ e,JI a _,⟨_,qJ _ rfl,rfl,rfl⟩,?_,q⟩
  exact w
 ·obtain⟨i,G,p,C⟩:=g.tuple hq
  refine wpAny_pyIter_tuple (show s1.heap.IsTuple a i.toArray from p) ⟨s1.heap.objs.size,[s1.heap.objs.size],_,_,u,rfl,g.kept (t':=s1.toks) fun b o e=>qG _ e,Qo a _,⟨_,qJ _ rfl,rfl,rfl⟩,?_,q⟩
  exact w
end
open Sem (wp)
theorem XN:typeLookup (.type "list") "keys" = pure none:=by rw[typeLookup_type,builtinLookup_eq_fast];kernel_rfl
theorem XO:typeLookup (.type "list") "__getattr__" = pure none:=by rw[typeLookup_type,builtinLookup_eq_fast];kernel_rfl
theorem Zo:isSubtype (.type "AttributeError") (.type "AttributeError")=pure true:=by rw[isSubtype_type];kernel_rfl
section
variable{c:Program}{w:World}{A:Around}{E:Value->Shared->Prop}{s:Shared}
theorem Yj{α:Type}{M:Model}{o:Value}{i g:Str}{Q:α->Shared->Prop}(B:A.handled=none)(C:g.length<=sizeLine)
  (hq:∀l D e,(∀b p,s.heap.get? b=some p->l.get? b=some p)->(∃u,l.get? e=some u/\u.cls=.type "AttributeError")->E (.ref e) { s with heap:=l,toks:=D }) :
  wpAny M A (raiseAttrError o i g:Sem α) Q E s:=by
 unfold raiseAttrError newExc newTuple;refine zm (wpAny_mkStr (zm (zm (vo (zm (m:=firstArgMember _ _) (Zy (a:=Value.none) (by simp only[firstArgMember];rfl) (vo ?_)))))) C)
 refine zm (wpAny_mkText (zm (show wpAny _ _ (noteAttr _ _ _) _ _ _ from ?_)))
 unfold noteAttr;dsimp only;unfold lacksNameAndObj;refine zm (zm (ZT (T:= "AttributeError") ⟨_,qJ _ rfl,rfl⟩ Zo ?_))
 refine zm (wpAny_load (qJ _ rfl) ?_)
 refine zJ ?_
 refine zm (xY (zm (Zz (T:= "AttributeError") ⟨_,qJ _ rfl,rfl⟩ ?_)))
 refine wpAny_layMembers (qJ _ rfl) rfl ?_
 unfold raiseNew;refine zm (wpAny_handled ?_);rw[B];refine zm (zJ (wpAny_throw ?_))
 refine hq _ _ _ (fun b p e=>?_) ⟨_,Q6 _ (qJ _ rfl) (YY (Jl rfl _)),YS _ _⟩
 rw[Xw _ _ (vn (jY (zN e) (by simp)))]
 exact qG _ (qG _ e)
end
section
variable{c:Program}{w:World}{A:Around}{E:Value->Shared->Prop}{h:Heap}{g:Array GenState}{d:Drawn}{t:Nat}{os:OsState}{a:Addr}{n:Nat}{i:Array Value}
theorem Z6{B:Tok}{Q:Fin->Shared->Prop}(s:A.handled=none)(hx:h.get? a=some { cls:=.type "list",data:=.seq i n })
  (hq:∀l u e,(∀b p,h.get? b=some p->l.get? b=some p)->(∃m,l.get? e=some m/\m.cls=.type "AttributeError")->E (.ref e) ⟨l,g,d,u,os⟩) :
  wpAny (model c w) A (Builtin.«object.__getattribute__» ⟨[.ref a,.str "keys" B],[]⟩) Q E ⟨h,g,d,t,os⟩:=by
 have D:(⟨h,g,d,t,os⟩:Shared).TypeIs (.ref a) "list" :=⟨_,hx,rfl⟩;have C:=XN;repeat(any_goals (first| assumption | wp_step))
 refine Yj s ?_ hq
 rw[sizeLine_eq];decide +kernel
theorem QM{B:Tok}{R:Result->Shared->Prop}(s:A.handled=none)(hx:h.get? a=some { cls:=.type "list",data:=.seq i n })
  (hq:∀l u e,(∀b p,h.get? b=some p->l.get? b=some p)->(∃m,l.get? e=some m/\m.cls=.type "AttributeError")->R (.error (.ref e)) ⟨l,g,d,u,os⟩) :
  codeAny (model c w) A (.call (.builtin "list.__getattribute__") ⟨[.ref a,.str "keys" B],[]⟩) R ⟨h,g,d,t,os⟩:=
 codeAny_call_builtin Vx.plain F.entry_list_ga (Vx.check _ _ _ _ _ _ _ _ (show(⟨h,g,d,t,os⟩:Shared).TypeIs (.ref a) "list" from ⟨_,hx,rfl⟩) (F.args_list_getattribute_2 _ _) (Z6 s hx hq))
theorem XQ{C:Tok}{Q:Value->Shared->Prop}(B:A.handled=none)(hx:h.get? a=some { cls:=.type "list",data:=.seq i n })
  (hq:∀l s e,(∀b p,h.get? b=some p->l.get? b=some p)->(∃m,l.get? e=some m/\m.cls=.type "AttributeError")->E (.ref e) ⟨l,g,d,s,os⟩):wpAny (model c w) A (getAttrBy (.ref a) (.str "keys" C) false) Q E ⟨h,g,d,t,os⟩:=by
 have H:(⟨h,g,d,t,os⟩:Shared).TypeIs (.ref a) "list" :=⟨_,hx,rfl⟩;have D:=Vx.lookup;have G:=Vx.bind (.ref a);repeat(any_goals (first| assumption | wp_step))
 refine QM B hx fun l s e k ⟨m,u,hc⟩=>?_
 dsimp only;unfold getattributeRaised;refine zm (ZT (T:= "AttributeError") ⟨_,u,hc⟩ Zo ?_)
 rw[zu rfl];unfold hookBehind;refine zm ?_
 rw[zo (by decide)]
 refine Zy XO ?_
 unfold hookOrError attributeErrorLeaves;dsimp only;rw[zu (show(!false)=true from rfl)]
 first
  | exact wpAny_throw (hq l s e k ⟨m,u,hc⟩)
  | exact zm (wpAny_throw (hq l s e k ⟨m,u,hc⟩))
theorem QN{Q:Option Value->Shared->Prop}(s:A.handled=none)(hx:h.get? a=some { cls:=.type "list",data:=.seq i n })
  (hq:∀l m,(∀b p,h.get? b=some p->l.get? b=some p)->Q none ⟨l,g,d,m,os⟩):wpAny (model c w) A (getAttr? (.ref a) "keys") Q E ⟨h,g,d,t,os⟩:=by
 unfold getAttr? getAttrBy?;refine zm (wpAny_mkText (zm (yL (XQ s hx fun l m e k ⟨B,u,hc⟩=>?_))))
 dsimp only;refine zm (ZT (T:= "AttributeError") ⟨_,u,hc⟩ Zo ?_)
 rw[zu rfl];exact zJ (hq l m k)
end
end L2
namespace L2
open PySem PySem.Spec PyProof.Rows
theorem ym:entryFor table "dict.update.loop" = some Builtin.«dict.update.loop»:=entryFor_of_tree (by kernel_rfl)
theorem xL:plainId "dict.update.loop" = true:=by decide +kernel
theorem Wv{K:Type}[DecidableEq K](c b:List (K×Value))(i:Nat)(g:K×Value)(h:b[i]? =some g):merged (stored c g.1 g.2) (b.drop (i+1))=merged c (b.drop i):=by
 obtain⟨h1,h2⟩:=zL.mp h;rw[List.drop_eq_getElem_cons h1,h2];rfl
section
variable{c:Program}{w:World}{K:Type}[DecidableEq K]{knd:KeyKind c w K}{A:Around}{R:Result->Shared->Prop}{it l D:Addr}{items:Array Value}{pairs:List (K×Value)}{res:Value}
theorem ze8(hh:A.handled=none)(O:l≠it)(Q:l≠D)(G:it≠D)(a0:pairs.length=items.size) :
  ∀(m:Nat) (s:Shared) (i:Nat) (g:List (K×Value)),items.size-i=m->i<=items.size->s.heap.IsListIter it l i->s.heap.IsList l items->s.heap.DictOf knd D g->g.length+m<=sizeLine ->
   (∀(j:Nat) (u:Value),items[j]? =some u->∃(T:Addr) (k:K) (B v:Value),u=.ref T/\T≠it/\T≠D/\IsTup s.heap T #[B,v]/\knd.is k B=true/\pairs[j]? =some (k,v)) ->
   (∀E tk,E.DictOf knd D (merged g (pairs.drop i))->(∀b o,b≠it->b≠D->s.heap.get? b=some o->E.get? b=some o)->R (.ok (.ret res)) { s with heap:=E,toks:=tk }) ->
   codeAny (model c w) A (.builtin "dict.update.loop" ⟨[.ref D,.ref it,.int i 0,res],[]⟩) R s:=by
 intro m;induction m with
 | zero=>
  intro s i g hm hi Y L M hz U q;have H:items[i]? =none:=by simp;omega
  refine codeAny_builtin ym ?_
  rw[Jo xL _];show wpAny _ A.in1 (pyNext (.ref it) >>= _) _ _ s;refine zm (wpAny_pyNext_list_end hh Y L H fun E hx=>?_)
  show wpAny _ _ (Builtin.Dict.addKeywords D [] >>= _) _ _ _;refine zm (zJ (zJ ?_))
  have e0:merged g (pairs.drop i)=g:=by rw[List.drop_eq_nil_of_le (by omega)];rfl
  have:=q E s.toks (by rw[e0];exact M.extBut hx (qz G)) (fun b o hb _ e=>?_)
  ·exact this
  ·exact hx b o hb e
 | succ m ih=>
  intro s i g hm hi Y L M hz U q;have I:i<items.size:=by omega
  obtain⟨u,hu⟩:∃u,items[i]? =some u:=⟨_,Js I⟩;obtain⟨T,k,B,v,rfl,nT,nD,tT,kk,ep⟩:=U i u hu;refine codeAny_builtin ym ?_
  rw[Jo xL _];show wpAny _ A.in1 (pyNext (.ref it) >>= _) _ _ s;refine zm (wpAny_pyNext_list_item Y L hu fun h1 i1 s1=>?_)
  dsimp only;refine zm (vW (zm ?_))
  obtain⟨oT,eT,cT,nn,dT⟩:=tT;have k1:∀b o,b≠it->s.heap.get? b=some o->h1.get? b=some o:=fun b o hb e=>(s1.2 b hb).trans e
  have N:({ s with heap:=h1 }:Shared).TypeIs (.ref T) "tuple" :=⟨_,k1 _ _ nT eT,cT⟩;show wpAny _ _ (tryCatch (Builtin.Dict.pairItems (.ref T)) _) _ _ _;refine ZB ?_
  unfold Builtin.Dict.pairItems;refine zm (Zz N ?_)
  rw[zu (show(Value.type "tuple" == Value.type "list" || Value.type "tuple" == Value.type "tuple")=true by decide)]
  refine zm (wA (k1 _ _ nT eT) dT (zJ ?_))
  show wpAny _ _ (holding [B,v] (dictSet D B v)) _ _ _;refine vW (wpAny_dictSet_pairs kk (M.sameBut s1 (qz G)) (hsz:=by omega) fun h2 d2 s2=>?_)
  refine zJ ⟨plainId_quiet xL _,?_⟩
  have k2:∀b o,b≠it->b≠D->s.heap.get? b=some o->h2.get? b=some o:=fun b o hb C e=>(s2.2 b C).trans (k1 b o hb e)
  have lst:(stored g k v).length<=g.length+1:=stored_length_le g k v;have:=ih { s with heap:=h2,toks:=s.toks+1 } (i+1) (stored g k v) (by omega) I (i1.at fun o e=>(s2.2 it G).trans e) (L.at fun o e=>k2 l o O Q e) d2 (by omega)
   (fun j u hj=>by
    obtain⟨T',k',J,v',z1,z2,z3,z4,z5,z6⟩:=U j u hj;obtain⟨o',e',r'⟩:=z4;exact⟨T',k',J,v',z1,z2,z3,⟨o',k2 _ _ z2 z3 e',r'⟩,z5,z6⟩)
   (fun E tk d' kp=>q E tk (by rw[<- Wv g pairs i (k,v) ep];exact d') fun b o hb C e=>kp b o hb C (k2 b o hb C e))
  exact this
end
def zhk:Obj:={ cls:=.type "dict",data:=.dict #[] }
theorem JA:(Value.type "list" != Value.type "dict")=true:=by decide
section
variable{c:Program}{w:World}{K:Type}[DecidableEq K]{knd:KeyKind c w K}{A:Around}{E:Value->Shared->Prop}{s:Shared}
theorem Z9{l:Addr}{items:Array Value}{n:Nat}{pairs:List (K×Value)}{Q:Value->Shared->Prop}(Y:A.handled=none)(G:s.heap.get? l=some { cls:=.type "list",data:=.seq items n })(C:pairs.length=items.size)(J:items.size<=sizeLine)
  (ht:∀(j:Nat) (u:Value),items[j]? =some u->∃(T:Addr) (k:K) (g v:Value),u=.ref T/\IsTup s.heap T #[g,v]/\knd.is k g=true/\pairs[j]? =some (k,v))
  (h:∀B O,B.DictOf knd s.heap.objs.size (merged [] pairs)->(∀b o,s.heap.get? b=some o->B.get? b=some o)->Q (.ref s.heap.objs.size) { s with heap:=B,toks:=O }) :
  wpAny (model c w) A (call (.type "dict") [.ref l]) Q E s:=by
 have I:(s.heap.push zhk).DictOf knd s.heap.objs.size []:=.new s.heap;have i:=qG zhk G;refine callType_codes (Q₁:=fun u s1=>u=.ref s.heap.objs.size/\s1={ s with heap:=s.heap.push zhk }) F.kt_called_dict (F.kt_typeCall_dict_1 _) F.entry_dict_init (kt_code_dict_new _ ⟨rfl,rfl⟩) fun u s1 e=>?_
 obtain⟨eu,es⟩:=e;subst eu es;refine⟨I.typeIs,F.args_dict_init_2 _ _,?_⟩
 show wpAny _ _ (Builtin.Dict.selfAndRest _ _ >>= fun x=>Builtin.Dict.updateCommon _ _ x.1 x.2 _) _ _ _
 refine zm (zm (wpAny_notOrdered_dict I.typeIs ?_))
 refine zJ (show wpAny _ _ (Builtin.Dict.updateFrom "dict.__init__" s.heap.objs.size (.ref l) [] .none) _ _ _ from ?_)
 refine zm (Zz (T:= "list") ⟨_,i,rfl⟩ ?_)
 rw[zu JA];refine zm (QN Y i fun h1 t1 H=>?_)
 rw[zu (show(none:Option Value).isNone=true from rfl)]
 refine zm (xY (zm (wpAny_pyIter_list ⟨_,H _ _ i,rfl,n,rfl⟩ ?_)))
 have U:=I.keep H;have N:=zN G;obtain⟨oD,_,_,eD,_⟩:=id U;have M:=zN eD;have L:∀b o,s.heap.get? b=some o->(h1.push { cls:=.type "list_iterator",data:=.fields #[.ref l,.int 0 0] }).get? b=some o:=fun b o e=>qG _ (H _ _ (qG _ e))
 have m:∀b o,s.heap.get? b=some o->b<h1.objs.size:=fun b o e=>zN (H _ _ (qG _ e))
 refine zJ ⟨plainId_quiet xL _,?_⟩
 refine ze8 (knd:=knd) (s:=⟨h1.push { cls:=.type "list_iterator",data:=.fields #[.ref l,.int 0 0] },s.gens,s.drawn,t1,s.os⟩) (l:=l) (it:=h1.objs.size) (D:=s.heap.objs.size) (items:=items) (pairs:=pairs) (A:=A.in1) (res:=.none) Y (qw (m _ _ G)) (qw N) (vn M) C items.size 0 [] rfl (qX _) ⟨_,qJ _ rfl,rfl,rfl⟩ ⟨_,L _ _ G,rfl,n,rfl⟩ (U.push _) (by simpa using J) (fun j u hj=>?_) (fun B O d' kp=>?_)
 ·obtain⟨T,k,g,v,rfl,⟨o,e,r⟩,z,y⟩:=ht j u hj
  exact⟨T,k,g,v,rfl,qw (m _ _ e),qw (zN e),⟨o,L _ _ e,r⟩,z,y⟩
 ·exact⟨rfl,h B O (by simpa using d') fun b o e=>kp b o (qw (m _ _ e)) (qw (zN e)) (L _ _ e)⟩
end
def PrsL(H:Hp)(c:List V)(b:List (Key×V)):Prop:=c.length=b.length/\∀(j:Nat) (x:V),c[j]? =some x->∃(T:Addr) (k:Key) (v:V),x=.ref T/\H T=some (.tup [kV k,v])/\b[j]? =some (k,v)
theorem PrsL.nil{H:Hp}:PrsL H [] []:=⟨rfl,fun j x e=>by simp at e⟩
theorem PrsL.same{H i:Hp}{l:List V}{g:List (Key×V)}(h:PrsL H l g)(s:Same H i):PrsL i l g:=⟨h.1,fun j x e=>let ⟨T,k,v,a,b,c⟩:=h.2 j x e;⟨T,k,v,a,s _ _ b,c⟩⟩
theorem PrsL.snoc{H:Hp}{m:List V}{i:List (Key×V)}{T:Addr}{k:Key}{v:V}(h:PrsL H m i)(e:H T=some (.tup [kV k,v])):PrsL H (m++[.ref T]) (i++[(k,v)]):=by
 refine⟨by rw[zW,zW,h.1];rfl,fun j x g=>?_⟩
 have l:=h.1;by_cases u:j<m.length
 ·rw[j9 u] at g
  obtain⟨s,w,A,a,b,c⟩:=h.2 j x g;exact⟨s,w,A,a,b,by rw[j9 (by omega)];exact c⟩
 ·rw[xa (by omega)] at g
  have:j=m.length:=by
   have:=(zL.mp g).1;simp at this;omega
  subst this;simp at g;subst g;exact⟨T,k,v,rfl,e,by rw[l,xa (zQ _)];simp⟩
theorem zfZ:∀{b:List (Key×V)} {c:List (Key×Value)},b.length=c.length->(∀(j:Nat) p,c[j]? =some p->∃q,b[j]? =some q/\q.1=p.1/\RelV q.2 p.2)->KV b c
 | [],[],_,_=>.nil
 | [],_::_,h,_=>by simp at h
 | _::_,[],h,_=>by simp at h
 | x::i,u::g,h,f=>by
  refine .cons ?_ (zfZ (by simpa using h) fun j v e=>?_)
  ·obtain⟨y,e1,r⟩:=f 0 u rfl
   cases e1;exact r
  ·obtain⟨y,e1,r⟩:=f (j+1) v (by simpa using e)
   exact⟨y,by simpa using e1,r⟩
theorem ZQ{α β:Type}:∀(P:Nat->α->β->Prop) (l:List α),(∀j u,l[j]? =some u->∃b,P j u b)->∃g:List β,g.length=l.length/\∀j u,l[j]? =some u->∃b,g[j]? =some b/\P j u b
 | _,[],_=>⟨[],rfl,fun j u e=>by simp at e⟩
 | P,x::l,f=>by
  obtain⟨b,hb⟩:=f 0 x rfl;obtain⟨g,h1,h2⟩:=ZQ (fun j=>P (j+1)) l fun j u e=>f (j+1) u (by simpa using e)
  refine⟨b::g,by simp[h1],fun j u e=>?_⟩
  cases j with
  | zero=>simp at e;subst e;exact⟨b,rfl,hb⟩
  | succ j=>
   obtain⟨c,i,m⟩:=h2 j u (by simpa using e)
   exact⟨c,by simpa using i,m⟩
theorem Vals.at:∀{b:List V} {c:List Value} {i:Nat} {u:Value},Vals b c->c[i]? =some u->∃x,b[i]? =some x/\RelV x u:=fun {b c i u} r e=>by
 have l:=Vals.length r;have h:=(zL.mp e).1;obtain⟨v,e1,g⟩:=r.get (i:=i) (x:=b[i]'(by omega)) (qR _)
 rw[e] at e1;cases e1;exact⟨_,qR _,g⟩
section
variable{X:Cx}
inductive Zn(c:List V)(H:Hp)(Q:VK):Prop
 | mk (a:Addr) (g:List V) (b:List (Key×V)) (_:c=[.ref a]) (_:H a=some (.lst g)) (_:PrsL H g b) (_:∀p,H p=none->Q (.ref p) (upd H p (.dK (j5 [] b)))):Zn c H Q
theorem YG(U:X.A.handled=none):CallR X (.type "dict") (Zn):=by
 intro E s σ H xs us Q I r h;obtain⟨a,ys,i,rfl,hx,G,q⟩:=h;obtain⟨u,rfl,ru⟩:=Vals.one r;cases(show u=Value.ref a from ru)
 obtain⟨zz,l,n,m,Y⟩:=(show ObjOk X.prog X.w H s.heap a (.lst ys) from I.hok a _ hx)
 have ln:=m.length;have kn:=G.1;have w:∀(j:Nat) (u:Value),l[j]? =some u->∃(T:Addr) (k:Key) (g v:Value) (y:V),u=.ref T/\IsTup s.heap T #[g,v]/\(qv X.prog X.w).is k g=true/\i[j]? =some (k,y)/\RelV y v:=fun j u D=>by
  obtain⟨x,O,rx⟩:=Vals.at m D;obtain⟨T,k,v,rfl,M,N⟩:=G.2 j x O;cases(show u=Value.ref T from rx)
  obtain⟨_,ts,rt,it,_⟩:=(show ObjOk X.prog X.w H s.heap T (.tup [kV k,v]) from I.hok T _ M)
  obtain⟨u1,u2,rfl,r1,C⟩:=Vals.two rt;exact⟨T,k,u1,u2,v,rfl,it,yj r1,N,C⟩
 obtain⟨J,lp,hp⟩:=ZQ (fun j u (p:Key×Value)=>∃(T:Addr) (g:Value) (y:V),u=.ref T/\IsTup s.heap T #[g,p.2]/\(qv X.prog X.w).is p.1 g=true/\i[j]? =some (p.1,y)/\RelV y p.2) l fun j u e=>by
  obtain⟨T,k,g,v,y,a,b,c,d,f⟩:=w j u e;exact⟨(k,v),T,g,y,a,b,c,d,f⟩
 have kv:KV i J:=zfZ (by omega) fun j p e=>by
  have D:=(zL.mp e).1;obtain⟨b,e1,T,g,y,_,_,_,e2,C⟩:=hp j _ (qR (by omega))
  rw[e] at e1;cases e1;exact⟨_,e2,rfl,C⟩
 have mg:(j5 [] i).length<=sizeLine:=by
  have:=xN i [];rw[Ji] at this;omega
 have hn:H s.heap.objs.size=none:=I.hok.fresh (zQ _);refine Z9 (knd:=qv X.prog X.w) (pairs:=J) (items:=l.toArray) U Y (by simp[lp]) (by simp;omega) (fun j u e=>?_) fun h' tk L kp=>?_
 ·rw[List.getElem?_toArray] at e
  obtain⟨p,e1,T,g,y,a,b,c,d,f⟩:=hp j u e;exact⟨T,p.1,g,p.2,a,b,c,e1⟩
 ·have ns:(s.heap.objs.size==sysModules)=false:=beq_eq_false_iff_ne.mpr (vn I.big)
  exact⟨.ref s.heap.objs.size,_,I.laid (a:=s.heap.objs.size) (o:=.dK (j5 [] i)) (t':=tk) kp (zQ _) (QW mg ns (KV.merge kv .nil) L),rfl,q _ hn⟩
theorem zeo{K:W.Frag}(h:X.K=K){g l:Expr}{b:TE}(c:PE X l b):PI X g l (zir K b):=by rw[<- h];exact zc3 c
end
section
variable{X:Cx}{w U m:Expr}{A:List Expr}{scope:Scope}{E:Pos}{Y:TI}{g:TG}{O:TT}{L:TE}{x:Str}
theorem zgv{yt:Str}{G am:Pos}{g2:TG}(fr:List Str)(js:List Nat)(hc:X.calm=true)(hk:scope.kind=.function)(hb:X2 scope.names X.env.scope.names X.N x fr js=true)(hi:PI X U m Y)
  (hg:∀C s H ex,PG (jT X ([x]++fr) scope x C s H ex) U g) (hf:∀C s H ex,PF (jT X ([x]++fr) scope x C s H ex) A O) (he:∀C s H ex,PE (jT X ([x]++fr) scope x C s H ex) w L)
  (bt:PG X (.Name yt G) g2) (bw:swapsWith (.ListComp w [⟨U,m,A,0⟩] scope E) (some (.Name yt G)) am.line X.env=pure true:=by rfl)
  (hs:∀x,foldedSetIterable m X.env x=pure x:=by intro _;rfl):PS X (.Assign [.Name yt G] (.ListComp w [⟨U,m,A,0⟩] scope E) am) (W9 (tLC Y 1 js g O L) g2):=by
 intro aa s σ H Dn I h;have B:=Xp hb;have ai:∀y∈scope.names,y.2=NameKind.free->∃c,X.env.cells.lookup y.1=some c:=fun y hy e=>I.ok.has y.1 (B.free y hy e)
 rw[exec_Assign_Name_used _ _ _ _ bw];refine zm (yo (zm ?_))
 show wpAny _ X.A (do let _<-comprehension (.ListComp w [⟨U,m,A,0⟩] scope E) scope X.env _ (newList []) false (eval m X.env) (some (assign (.Name yt G) X.env))) _ _ s
 refine zm (qW (wpAny_comprehension_free (use:=some (assign (.Name yt G) X.env)) (Q:=fun _ s'=>∃σ' H',Inv X aa σ' H' s'/\Dn.nx σ' H') rfl hs (zbd ai) hk (fun y hy e=>B.loc y hy e) (thn (hi aa s σ H _ I h) fun v s1 h1=>thn h1 fun c9 s2 h2=>?_)) (fun _ s' hq=>zJ (zJ hq)) fun _ _ e=>e)
 obtain⟨it,fp,tn,J,H2,e,I2,T,ar,f2,W,⟨m0,w0⟩,bh⟩:=h2;subst e;have fl:∀b∈fp,b<s2.heap.objs.size:=fun b hb=>let ⟨o,e,_⟩:=T.obj _ _ ar b hb;zN e
 refine vo (Ys B.one ?_)
 dsimp only;generalize e3:s2.heap.push { cls:=.type "list",dict:=none,data:=.seq ([]:List Value).toArray }=h3;have ba:((h3.push { cls:=.type "dict",data:=.dict #[] }).push { cls:=.type "cell",data:=.cell none }).Ns h3.objs.size (fun _=>none):=(Heap.Ns.new h3 (.type "dict")).keeps fun b o e=>qG _ e
 have ac:((h3.push { cls:=.type "dict",data:=.dict #[] }).push { cls:=.type "cell",data:=.cell none }).IsCell (h3.objs.size+1) none:=⟨_,by have:=qJ (h3.push { cls:=.type "dict",data:=.dict #[] }) (o:={ cls:=.type "cell",data:=.cell none }) rfl;rwa[j7] at this,rfl⟩
 have k4:∀b o,h3.get? b=some o->((h3.push { cls:=.type "dict",data:=.dict #[] }).push { cls:=.type "cell",data:=.cell none }).get? b=some o:=fun b o e=>qG _ (qG _ e)
 generalize (h3.push { cls:=.type "dict",data:=.dict #[] }).push { cls:=.type "cell",data:=.cell none }=h1 at ba ac k4;have k3:∀b o,s2.heap.get? b=some o->h3.get? b=some o:=fun b o e=>by rw[<- e3];exact qG _ e
 have I4:Inv (jT X ([x]++fr) scope x h3.objs.size { s2 with heap:=h3 } H2 (s2.heap.objs.size::fp)) [] (upS 1 js σ) H2 { s2 with heap:=h1 }:=
  YH fr js I2 B hk f2 fl rfl e3.symm rfl ba ac k4
 have I3:Inv X aa σ H2 { s2 with heap:=h3 }:=I2.kept (t':=s2.toks) k3;have hz:h3.objs.size=s2.heap.objs.size+1:=by rw[<- e3,j7]
 have af:s2.heap.objs.size≠h3.objs.size:=by rw[hz];exact qw (ZU _)
 have ax:h1.get? s2.heap.objs.size=some { cls:=.type "list",data:=.seq ([]:List Value).toArray }:=k4 _ _ (by rw[<- e3];exact qJ _ rfl)
 have au:=(I3.fpOk (b:=h3.objs.size) (zQ _) (I3.hok.fresh (zQ _))).2;generalize eD:s2.heap.objs.size=D at *
 generalize eC:h3.objs.size=C at *
 have fD:∀b∈fp,D≠b:=fun b hb=>vn (fl b hb)
 have look:∀y c,((x,C+1)::jh X.env.cells scope.names []).lookup y=some c->c=C+1\/X.env.cells.lookup y=some c:=fun y c e=>by
  rw[jI] at e;by_cases q:(y==x)=true
  ·rw[q] at e
   exact .inl (jH e).symm
  ·rw[(Jj _).mp q] at e
   exact .inr (qM e ai)
 have hx:∀y c,((x,C+1)::jh X.env.cells scope.names []).lookup y=some c->c≠D:=fun y c e=>by
  rcases look y c e with z | z
  ·rw[z,hz];exact vn (Zh (ZU _))
  ·obtain⟨v,q⟩:=I2.cell y c z
   rw[<- eD];exact qw q.lt
 have bx:∀b∈fp,∀y c,((x,C+1)::jh X.env.cells scope.names []).lookup y=some c->c≠b:=fun b hb y c e=>by
  rcases look y c e with z | z
  ·rw[z,hz];exact vn (Zh (Zh (fl b hb)))
  ·exact(f2 b hb).2.2.2.2.1 y c z
 have bf:∀b∈D::fp,b∉frs X.stack:=I4.ok.exfs;have bn:∀{a0:List (Addr×Obj)} {H':Hp} {b:Addr},b∈fp->H' b=none->(∀p∈a0,p.1≠b)->xw (jT X ([x]++fr) scope x C { s2 with heap:=h3 } H2 (D::fp)) a0 H' b:=fun {a0 H' b} hb hn hp=>
  ⟨hn,(I4.ok.exf b (jA _ hb)).1,bf b (jA _ hb),.inl (jA _ hb),fun x c e=>bx b hb x c e,fun p h=>hp p (by simpa using h)⟩
 have bo:∀{a0:List (Addr×Obj)} {H':Hp},H' D=none->(∀p∈a0,p.1≠D)->xw (jT X ([x]++fr) scope x C { s2 with heap:=h3 } H2 (D::fp)) a0 H' D:=fun {a0 H'} hn hp=>
  ⟨hn,af,bf D qI,.inl qI,fun x c e=>hx x c e,fun p h=>hp p (by simpa using h)⟩
 have ak:∀s4:Shared,s4={ s2 with heap:=h1 } ->
   codeAny (model X.prog X.w) X.A (.compLoop (.ListComp w [⟨U,m,A,0⟩] scope E) 0 (.ref it) (.ref D) (compEnvC scope ((x,C+1)::jh X.env.cells scope.names []) C X.env))
    (compPost (model X.prog X.w) X.A X.xe (some (assign (.Name yt G) X.env)) (fun _ s'=>∃σ' H',Inv X aa σ' H' s'/\Dn.nx σ' H') (.ref D) C) s4:=by
  intro s4 e4;refine WU (fun n s'=>∃i ys ab H',∃z:Nat,Inv (jT X ([x]++fr) scope x C { s2 with heap:=h3 } H2 (D::fp)) [] (upS 1 js σ) H' s'/\tn i s'.heap/\(∀b∈fp,H' b=none)/\H' D=none /\
   s'.heap.get? D=some { cls:=.type "list",data:=.seq (ab:List Value).toArray z }/\Vals ys ab/\W i n ys H') ?_ m0 ?_
  ·rintro n s5 ⟨i,ys,ab,H5,z5,I5,bg,av,br,bc,ag,w5⟩
   have as:=I5.pinned (fp:=[D]) (fun b hb=>by rw[zR.mp hb];exact bo br (fun p hp=>absurd hp (by simp))) (fun b hb=>by
    rw[zR.mp hb];exact⟨_,bc,fun v q=>nomatch q⟩)
   have pD:∀p∈[]++qL [D] s5.heap,p.1=D:=fun p hp=>by
    rw[vX] at hp;exact zR.mp (vN hp).1
   have mD:(D,({ cls:=.type "list",data:=.seq ab.toArray z5 }:Obj))∈[]++qL [D] s5.heap:=by
    rw[vX];exact jm (zR.mpr rfl) bc
   have ap:∀{H':Hp},(∀b∈fp,H' b=none)->∀b∈fp,xw (jT X ([x]++fr) scope x C { s2 with heap:=h3 } H2 (D::fp)) ([]++qL [D] s5.heap) H' b:=fun hn b hb=>bn hb (hn b hb) fun p hp=>by
    rw[pD p hp];exact fD b hb
   rcases bh i n ys H5 w5 with ⟨stop,az,q⟩ | ⟨go,N,hN,step⟩
   ·refine thn (T.done (jT X ([x]++fr) scope x C { s2 with heap:=h3 } H2 (D::fp)) rfl rfl rfl hc i _ s5 _ H5 _ as (ap av) bg stop) fun r s6 ⟨hr,I6⟩=>?_
    subst hr;obtain⟨m6,b0,_⟩:=I6.loc;obtain⟨o6,be,_⟩:=I6.pin (D,_) (qE _ mD);have k7:∀b o,b≠C->s6.heap.get? b=some o->s6.heap.get? b=some o:=fun b o _ e=>e
    have J0:Inv X aa σ (upd H5 D (.lst ys)) s6:=by
     refine I3.call' (s':=s6) (ch:=D::fp) I6.os (VH (zck I6.base (yK eC) k7) qI (I2.hok.fresh ?_)) (Xd (za3 I6.hok I6.free k7) be ⟨az,ab,z5,ag,k7 D _ af o6⟩) I6.bare fun b hb=>?_
     ·rw[<- eD];exact zQ _
     ·rcases qg.mp hb with y | hb
      ·subst y
       refine⟨.inr (by rw[<- eD];exact I2.sz),by rw[<- eD];exact vn I2.lt,fun x c e=>?_,fun p hp=>?_⟩
       ·obtain⟨v,q⟩:=I2.cell x c e
        rw[<- eD];exact qw q.lt
       ·rw[<- eD];exact qw (zN (I2.pin p hp).1)
      ·obtain⟨_,g1,_,g3,g4,g5⟩:=f2 b hb
       exact⟨g3,g1,g4,g5⟩
    obtain⟨oC,ao,dC⟩:∃o,s6.heap.get? C=some o/\∀v,o.data≠.cell v:=by
     obtain⟨o,es,ep,ho,hd,_⟩:=b0;exact⟨o,ho,fun v z=>by rw[hd] at z;cases z⟩
    have bq:(upd H5 D (.lst ys)) C=none:=by
     rw[zj (qz af)];exact I6.free
    have J1:=J0.pinned (fp:=[C]) (fun b hb=>by rw[zR.mp hb];exact⟨bq,au⟩) (fun b hb=>by rw[zR.mp hb];exact⟨oC,ao,dC⟩)
    have mC:(C,oC)∈aa++qL [C] s6.heap:=qE _ (jm (zR.mpr rfl) ao);refine thn (bt _ s6 σ _ (.ref D) (.ref D) _ J1 rfl (q D be)) fun _ s8 ⟨σ8,H8,I8,q8⟩=>?_
    obtain⟨e8,n8,_⟩:=I8.pin (C,oC) (qE _ mC);refine⟨m6,?_,fun h9 bv=>⟨σ8,H8,?_,q8⟩⟩
    ·obtain⟨o,es,ep,ho,r⟩:=b0
     have bb:s6.heap.get? C=some o:=ho;rw[ao] at bb;cases bb
     exact⟨oC,es,ep,e8,r⟩
    ·obtain⟨g1,_,g3,g4,g5⟩:=au
     exact(I8.unpinned).turned (t':=s8.toks) (it:=C) (fun b o hb e=>bv.extBut b o hb e) n8 g1 g3 g4 g5
   ·refine thn (T.item (jT X ([x]++fr) scope x C { s2 with heap:=h3 } H2 (D::fp)) rfl rfl rfl hc i _ s5 _ H5 _ as (ap av) bg go) fun r s6 ⟨u,hr,h6⟩=>?_
    subst hr;refine thn h6 fun _ s7 ⟨x7,H7,I7,r7,y7,ah,bp⟩=>?_
    have bj:=I7.pinned (ap bp) (T.obj _ _ ah);refine thn (hg _ _ _ _ _ s7 _ H7 x7 u _ bj r7 (step x7 H7 y7)) fun _ s8 ⟨σ8,H8,I8,bs,q8⟩=>?_
    refine thn (hf _ _ _ _ _ s8 σ8 H8 _ I8 q8) fun ok s9 ⟨H9,I9,q9⟩=>?_
    have an:∀{H':Hp} {s':Shared},Inv (jT X ([x]++fr) scope x C { s2 with heap:=h3 } H2 (D::fp)) (([]++qL [D] s5.heap)++qL fp s7.heap) σ8 H' s' ->
      Inv (jT X ([x]++fr) scope x C { s2 with heap:=h3 } H2 (D::fp)) [] (upS 1 js σ) H' s':=fun {H' s'} J=>by
     refine(J.unpinned).unpinned.weak (I5.len.trans J.len.symm) fun k v e=>?_
     obtain⟨hn,e1,_⟩:=yT e;rw[<- bs,Vm] at e1;rw[<- e1];congr 1
     omega
    have mF:∀b∈fp,∀o,s7.heap.get? b=some o->(b,o)∈([]++qL [D] s5.heap)++qL fp s7.heap:=fun b hb o e=>qE _ (jm hb e)
    have bd:=qm (qL fp s7.heap) mD;have aw:∀{H':Hp} {s':Shared},Inv (jT X ([x]++fr) scope x C { s2 with heap:=h3 } H2 (D::fp)) (([]++qL [D] s5.heap)++qL fp s7.heap) σ8 H' s'->∀b∈fp,H' b=none:=fun {H' s'} J b hb=>by
     obtain⟨o,e,_⟩:=T.obj _ _ ah b hb;exact(J.pin (b,o) (qE _ (mF b hb o e))).2.1
    cases ok with
    | false=>
     have aq:N ys H9:=by simpa using q9
     obtain⟨m',hm,w'⟩:=hN _ _ aq;obtain⟨o9,c0,_⟩:=I9.pin (D,_) (qE _ bd);exact⟨m',hm,i+1,ys,ab,H9,z5,an I9,T.keep _ _ _ ah fun b hb o e=>(I9.pin (b,o) (qE _ (mF b hb o e))).1,aw I9,c0,o9,ag,w'⟩
    | true=>
     have aq:L σ8 H9 fun y H6=>ys.length<sizeLine/\N (ys++[y]) H6:=by simpa using q9
     refine thn (he _ _ _ _ _ s9 σ8 H9 _ I9 aq) fun yv c4 ⟨y,bi,ae,c3,bu,c5⟩=>?_
     obtain⟨m',hm,w'⟩:=hN _ _ c5;obtain⟨c2,al,_⟩:=ae.pin (D,_) (qE _ bd);refine wpAny_list_append_plain (l:=D) (items:=ab.toArray) (hsz:=by rw[z9,<- ag.length];exact ZA bu) ⟨_,c2⟩ fun c7 ay aj=>?_
     obtain⟨c6,bm⟩:=ay;refine⟨m',hm,i+1,ys++[y],ab++[yv],bi,c6,?_,T.keep _ _ _ ah fun b hb o e=>aj.extBut b o (qz (fD b hb)) (ae.pin (b,o) (qE _ (mF b hb o e))).1,aw ae,al,?_,ag.append (.cons c3 .nil),w'⟩
     ·exact(an ae).turned (t':=c4.toks) (it:=D) (fun b o hb e=>aj.extBut b o hb e) al af (.inl qI) (fun x c e=>hx x c e) fun p hp=>absurd (show p∈([]:List (Addr×Obj)) from hp) (by simp)
     ·rw[bm];simp
  ·subst e4
   exact⟨0,[],[],H2,0,I4,T.keep _ _ _ ar fun b hb o e=>k4 b o (k3 b o e),fun b hb=>(f2 b hb).1,I2.hok.fresh (by rw[<- eD];exact zQ _),ax,.nil,w0⟩
 exact codeAny_compStart_list (ak _ rfl) (T.self X.A 0 _ _ _ (T.keep _ _ _ ar fun b hb o e=>k4 b o (k3 b o e)) (ak _ rfl))
theorem zgu{M:Pos}{I:Str}{G b:Pos}{J:TG}(i:List Str)(D:List Nat)(hc:X.calm=true)(hk:scope.kind=.function)(hb:X2 scope.names X.env.scope.names X.N x i D=true)(T:PI X (.Name x M) m Y)
  (Q:∀C s H c,PF (jT X ([x]++i) scope x C s H c) A O) (N:∀C s H c,PE (jT X ([x]++i) scope x C s H c) w L)
  (l:PG X (.Name I G) J) (u:swapsWith (.ListComp w [⟨.Name x M,m,A,0⟩] scope E) (some (.Name I G)) b.line X.env=pure true:=by rfl)
  (hs:∀x,foldedSetIterable m X.env x=pure x:=by intro _;rfl):PS X (.Assign [.Name I G] (.ListComp w [⟨.Name x M,m,A,0⟩] scope E) b) (W9 (tLC Y 1 D (vm 0) O L) J):=by
 have B:=Xp hb;refine zgv i D hc hk hb T (fun C s H c=>?_) Q N l u hs
 have lk:(compEnvC scope ((x,C+1)::jh X.env.cells scope.names []) C X.env).scope.names.lookup x=some .cell:=yC B.lk;exact zA (X:=jT X ([x]++i) scope x C s H c) B.nd rfl (.inr lk) (.inl (by show(x==x)=true;simp))
variable{y:Str}{M G tp:Pos}{kk:Nat}
theorem zeq{K:W.Frag}(l:X.K=K)(b:List Str)(i:List Nat)(hc:X.calm=true)(hk:scope.kind=.function)(hb:wX scope.names X.env.scope.names X.N [x,y] b i=true)(D:PI X (.Tuple [.Name x M,.Name y G] kk tp) m Y)
  (B:∀C s H c,PF (zZ X ([x,y]++b) scope C s H c) A O) (u:∀C s H c,PE (zZ X ([x,y]++b) scope C s H c) w L)
  (hs:∀x,foldedSetIterable m X.env x=pure x:=by intro _;rfl):PE X (.ListComp w [⟨.Tuple [.Name x M,.Name y G] kk tp,m,A,0⟩] scope E) (tLC Y 2 i (zb0 K 2 (yk (vm 0) (yk (vm 1) zdx))) O L):=by
 subst l;exact wj b i hc hk hb D B u hs
end
def Up(b:Array Nat):Prop:=b.toList.Pairwise (·< ·)
theorem Up.lt{g:Array Nat}(h:Up g){i j:Nat}{a b:Nat}(l:g[i]? =some a)(m:g[j]? =some b)(c:i<j):a<b:=by
 have h1:=Y3.mp l;have h2:=Y3.mp m;obtain⟨s,e1⟩:=h1;obtain⟨u,e2⟩:=h2;have:=zdL.mp h i j (by simpa using s) (by simpa using u) c
 simpa [e1,e2] using this
structure TabOk(b:Bool)(t:SetTable):Prop where
 up:Up t.place
 no:t.dummies=#[]
 led:t.led=b
theorem zcj(n:Nat):Up (Array.range n):=by
 unfold Up;rw[Array.toList_range];exact List.pairwise_lt_range
theorem TabOk.stand{b:Bool}{t:SetTable}(h:TabOk b t)(n:Nat):TabOk b (t.standIn n):=⟨zcj n,rfl,h.led⟩
theorem TabOk.plain{b p:Bool}{t:SetTable}(h:TabOk b t):TabOk b { t with plain:=p }:=⟨h.up,h.no,h.led⟩
theorem TabOk.or{b:Bool}{t:SetTable}(h:TabOk b t)(n:Nat):TabOk b (t.orStandIn n):=by
 unfold SetTable.orStandIn;split
 ·exact h
 ·exact h.stand n
theorem TabOk.fresh(b:Bool):TabOk b (.fresh 0 0 b):=⟨List.Pairwise.nil,rfl,rfl⟩
theorem Wm{α β:Type}{R:α->β->Prop}{s g:List β}(p:g.Perm s):∀{c:List α},Paired R c s->∃b,b.Perm c/\Paired R b g:=by
 induction p with
 | nil=>intro c h;exact⟨c,.refl _,h⟩
 | cons y _ w=>
  intro c h;cases h with
  | cons r t=>
   obtain⟨b,A,u⟩:=w t;exact⟨_::b,A.cons _,.cons r u⟩
 | swap y z l=>
  intro c h;cases h with
  | cons r t=>
   cases t with
   | cons D E=>exact⟨_,.swap _ _ _,.cons D (.cons r E)⟩
 | trans _ _ i m=>
  intro c h;obtain⟨H,B,h1⟩:=m h;obtain⟨G,C,h2⟩:=i h1;exact⟨G,C.trans B,h2⟩
theorem QE{α β:Type}{R:α->β->Prop}{x:α}{y:β}(r:R x y):∀{b:List α} {c:List β},Paired R b c->Paired R (b++[x]) (c++[y])
 | _,_,.nil=>.cons r .nil
 | _,_,.cons h t=>.cons h (QE r t)
theorem QD{α β:Type}{R:α->β->Prop}:∀{c:List α} {g:List β},Paired R c g->(∀x∈c,∃y∈g,R x y)/\∀y∈g,∃x∈c,R x y
 | _,_,.nil=>⟨fun x h=>(nomatch h),fun y h=>(nomatch h)⟩
 | _,_,.cons h t=>by
  obtain⟨a,b⟩:=QD t;refine⟨fun x hx=>?_,fun y hy=>?_⟩
  ·rcases qg.mp hx with z | z
   ·rw[z];exact⟨_,qI,h⟩
   ·obtain⟨y,hy,r⟩:=a x z
    exact⟨y,jA _ hy,r⟩
  ·rcases qg.mp hy with z | z
   ·rw[z];exact⟨_,qI,h⟩
   ·obtain⟨x,hx,r⟩:=b y z
    exact⟨x,jA _ hx,r⟩
section
variable{g:Program}{w:World}{K:Type}[DecidableEq K](c:KeyKind g w K)
def ElX(i:List (Int×Value))(l:List K):Prop:=ElemsOf c i/\∃b,b.Perm l/\Paired (fun k (e:Int×Value)=>c.is k e.2=true) b i
def ObX(b:Bool)(o:Obj)(l:List K):Prop:=∃i m t,o.ExactSet/\o.data=.set i m t/\ElX c i.toList l/\l.Nodup/\i.size<scanBound/\t.fits i.size=true/\TabOk b t
def SetX(b:Bool)(h:Heap)(a:Addr)(i:List K):Prop:=∃o,h.get? a=some o/\ObX c b o i
variable{c}
theorem ElX.perm{l b:List (Int×Value)}{m:List K}(h:ElX c l m)(p:b.Perm l):ElX c b m:=by
 obtain⟨h1,u,B,D⟩:=h;obtain⟨i,C,pr2⟩:=Wm p D;exact⟨h1.perm p,i,C.trans B,pr2⟩
theorem ElX.len{b:List (Int×Value)}{i:List K}(h:ElX c b i):b.length=i.length:=by
 obtain⟨_,l,m,u⟩:=h;rw[<- m.length_eq];exact(Vc u).symm
theorem ElX.mem{i:List (Int×Value)}{l:List K}(h:ElX c i l)(k:K):k∈l↔∃e∈i,c.is k e.2=true:=by
 obtain⟨_,u,B,C⟩:=h;obtain⟨a,b⟩:=QD C;rw[<- B.mem_iff];refine⟨a k,fun ⟨e,m,r⟩=>?_⟩
 obtain⟨G,hk,D⟩:=b e m;rwa[c.inj _ _ _ r D]
theorem ElX.snoc{i:List (Int×Value)}{l:List K}(h:ElX c i l){k:K}{x:Value}(hk:c.is k x=true)(hx:x.scannable=true):ElX c (i++[(c.hash k,x)]) (l++[k]):=by
 obtain⟨h1,b,m,u⟩:=h;exact⟨h1.push hk hx,b++[k],m.append_right _,QE (R:=fun k (e:Int×Value)=>c.is k e.2=true) hk u⟩
theorem SetX.at{b:Bool}{h i:Heap}{a:Addr}{l:List K}(x:SetX c b h a l)(k:∀o,h.get? a=some o->i.get? a=some o):SetX c b i a l:=let ⟨o,e,r⟩:=x;⟨o,k o e,r⟩
variable{A:Around}{E:Value->Shared->Prop}{s:Shared}
end
section
variable{K:Type}[DecidableEq K]
variable{c:Program}{w:World}{m:KeyKind c w K}{A:Around}{R:Result->Shared->Prop}{s l S:Addr}{g:Array Value}{i:List K}{b:Bool}
end
section
variable{b:Program}{w:World}{A:Around}{E:Value->Shared->Prop}{s:Shared}
end
section
variable{b:Program}{w:World}{K:Type}[DecidableEq K]{c:KeyKind b w K}{A:Around}{E:Value->Shared->Prop}{s:Shared}
end
section
variable{M:Model}{A:Around}{E:Value->Shared->Prop}{s:Shared}
end
section
variable{b:Program}{w:World}{A:Around}{E:Value->Shared->Prop}{h:Heap}{g:Array GenState}{d:Drawn}{s:Nat}{os:OsState}{m a:Addr}{o:Obj}{l:Array (Int×Value)}{c:Nat}{t:SetTable}{i:Nat}
end
section
variable{b:Program}{w:World}{A:Around}{E:Value->Shared->Prop}{s:Shared}{a:Addr}{o:Obj}{g:Array (Int×Value)}{c:Nat}{t:SetTable}{i l:Nat}
end
section
variable{b:Program}{w:World}{A:Around}{E:Value->Shared->Prop}{h:Heap}{g:Array GenState}{d:Drawn}{C:Nat}{os:OsState}{s a T:Addr}{o u:Obj}{m:Array (Int×Value)}{l:Nat}{t:SetTable}{i n c:Nat}{B:Array Value}
end
section
variable{b:Program}{w:World}{A:Around}{E:Value->Shared->Prop}{s:Shared}{c:Addr}{g:Obj}
end
section
variable{b:Program}{w:World}{A:Around}
variable{l a T:Addr}{o m:Obj}{i:Array (Int×Value)}{g c:Nat}{t:SetTable}
end
section
variable{b:Program}{w:World}{A:Around}{E:Value->Shared->Prop}{s:Shared}{a:Addr}{o:Obj}{g:Array (Int×Value)}{c:Nat}{t:SetTable}
end
section
variable{X:Cx}
end
theorem Inv.drawn{X:Cx}{c:List (Addr×Obj)}{σ:St}{H:Hp}{s:Shared}(I:Inv X c σ H s)(d:Drawn):Inv X c σ H { s with drawn:=d }:=
 I.call' (s':={ s with drawn:=d }) (ch:=[]) rfl Un.refl I.hok I.bare fun b hb=>(nomatch hb)
section
variable{X:Cx}
end
section
variable{X:Cx}{E A C:Expr}{B G:List Expr}{scope:Scope}{L:Pos}{wi O:TI}{tf M:TT}{te:TE}{x y z u:Str}{px py pz Y tp N:Pos}{U J:Nat}
inductive XB(K:W.Frag)(x:V)(y:V)(H:Hp)(Q:VK):Prop
 | mk (a b:Addr) (s i:List Int) (_:x=.ref a) (_:y=.ref b) (_:SqL K H a (s.map V.int)) (_:SqL K H b (i.map V.int)) (_:Q (.bl (decide (s=i))) H):XB K x y H Q
theorem zez(hu:X.A.units<cLine):OpR X (compareOp .Eq) (XB X.K):=by
 intro ae s σ H x y v u Q I rx ry h;obtain⟨a,b,ns,ms,rfl,rfl,hx,hy,q⟩:=h;cases rx;cases ry;obtain⟨a0,r1,p1,z1⟩:=I.list hx;obtain⟨ac,r2,p2,z2⟩:=I.list hy;have l1:=r1.length;have l2:=r2.length;rw[zp] at l1 l2;by_cases hl:ns.length=ms.length
 ·refine SeqAt.RcAt.lists (e:=fun j=>decide (ns.getD j 0=ms.getD j 0)) p1.isList p2.isList (by rw[z9,z9];omega) hu (fun j h1 h2=>?_) _ _ _ _ ⟨.bl _,H,I,rfl,?_⟩
  ·have aa:j<ns.length:=by rw[z9] at h1;omega
   have ab:j<ms.length:=by omega
   obtain⟨w1,e1,q1⟩:=r1.get (i:=j) (x:=.int ns[j]) (by simp[aa])
   obtain⟨w2,e2,q2⟩:=r2.get (i:=j) (x:=.int ms[j]) (by simp[ab])
   have g1:a0.toArray[j]=w1:=by simpa using (zL.mp e1).2
   have g2:ac.toArray[j]=w2:=by simpa using (zL.mp e2).2
   rw[g1,g2,show ns.getD j 0=ns[j] by simp[aa],show ms.getD j 0=ms[j] by simp[ab]]
   exact QV q1 q2 rfl rfl
  ·have e:((List.range a0.toArray.size).all fun j=>decide (ns.getD j 0=ms.getD j 0))=decide (ns=ms):=by
    rw[z9,<- l1,wB,xB,wE];constructor
    ·intro h
     refine List.ext_getElem hl fun j h1 h2=>?_
     have:=qQ (h j (x5.mpr h1));simpa [h1,h2] using this
    ·intro h j _
     rw[h];exact qk rfl
   rw[e];exact q
 ·rw[jM (fun e=>hl (by rw[e]))] at q
  exact SeqAt.RcAt.lists_lengths p1.isList p2.isList (by rw[z9,z9];simpa using fun e=>hl (by omega)) hu _ _ _ _ ⟨.bl _,H,I,rfl,q⟩
variable{w e:Expr}{g:List Expr}{to:TE}{D:TA}{l:Str}{m c:Pos}{T id:String}{r:V->List V->Hp->VK->Prop}
theorem zgG{K:W.Frag}(hK:X.K=K)(pa:PlainAttrs T)(I:Slot T l id)(Q:typeOf (.builtin id)=pure (.type "method_descriptor"))(hm:MtR X id r)(ho:PE X w to)(ha:PA X (e::g) D)
  (i:attributeBase w l X.env (eval w X.env)=eval w X.env:=by rfl)
  (H:((backTo c (starEach (e::g) X.env)).all (fun x=>!x.1)&&(backToKw c (keywordEach [] X.env)).all (fun x=>x.1.isSome)&&decide ((e::g).length+([]:List Keyword).length+(if([]:List Keyword).isEmpty then 0 else 1)<30))=true:=by rfl)
  (s:(m.endLine==c.line)=true:=by rfl) (hs:starEach (e::g) X.env=(false,eval e X.env)::starEach g X.env:=by rfl) (b:(backTo c (starEach g X.env)).any (·.1)=false:=by rfl) :
  PE X (.Call (.Attribute w l m) (e::g) [] c) (tBM K T r to D):=by
 subst hK;exact jO pa I Q hm ho ha i H s hs b
end
end L2
namespace L2
open PySem PySem.Spec PyProof.Rows PySem.W
def KRun{α:Type}(b:Nat->Nat->Bool)(n:Nat):KasT α->(α->Prop)->Prop
 | .ret a,Q=>Q a
 | .ask i j k,Q=>i<n/\j<n/\KRun b n (k (b i j)) Q
theorem KRun.mono{α:Type}{l:Nat->Nat->Bool}{n:Nat}{Q g:α->Prop}(h:∀a,Q a->g a):∀{t:KasT α},KRun l n t Q->KRun l n t g
 | .ret a,x=>h a x
 | .ask i j k,⟨a,b,c⟩=>⟨a,b,KRun.mono h c⟩
theorem KRun.bind{α β:Type}{g:Nat->Nat->Bool}{n:Nat}{f:α->KasT β}{Q:β->Prop}:∀{t:KasT α},KRun g n t (fun a=>KRun g n (f a) Q)->KRun g n (t.bind f) Q
 | .ret a,x=>x
 | .ask i j k,⟨a,b,c⟩=>⟨a,b,KRun.bind c⟩
theorem KRun.wp{α:Type}{m:Nat->Nat->Bool}{n:Nat}{ask:Nat->Nat->(Bool->Shared->Prop)->Shared->Prop}{J:Shared->Prop}{Q:α->Prop}{G:α->Shared->Prop}
  (u:∀i j,i<n->j<n->∀(C:Bool->Shared->Prop) s,J s->(∀l,J l->C (m i j) l)->ask i j C s) (hg:∀a s,Q a->J s->G a s):∀{t:KasT α} {s:Shared},KRun m n t Q->J s->t.kasWp ask G s
 | .ret a,s,x,j=>hg a s x j
 | .ask i j k,s,⟨a,b,c⟩,w=>u i j a b _ s w fun l g=>KRun.wp u hg c g
section
variable{n:Nat}{r:Nat->Nat}
def vA(r:Nat->Nat)(p:Array Nat)(k:Nat):Nat:=r (p.getD k 0)
structure Gd(n:Nat)(p:Array Nat):Prop where
 pm:p.toList.Perm (List.range n)
theorem Gd.sz{p:Array Nat}(g:Gd n p):p.size=n:=by have:=g.pm.length_eq;rwa[ZX,xV] at this
theorem Gd.at{p:Array Nat}(g:Gd n p){k:Nat}(h:k<n):p[k]? =some (p.getD k 0):=by
 rw[zdR,Js (by rw[g.sz];exact h)]
 rfl
theorem Gd.lt{p:Array Nat}(g:Gd n p)(i:0<n)(k:Nat):p.getD k 0<n:=by
 by_cases h:k<n
 ·have:=g.at h
  rw[<- Jr] at this;exact x5.mp (g.pm.mem_iff.mp (je this))
 ·rw[zdR,Array.getElem?_eq_none (by rw[g.sz];omega)]
  exact i
theorem Gd.inj{p:Array Nat}(g:Gd n p)(b:∀i j,i<n->j<n->r i=r j->i=j){i j:Nat}(s:i<n)(u:j<n)(e:vA r p i=vA r p j):i=j:=by
 have l:0<n:=by omega
 have h1:=b _ _ (g.lt l i) (g.lt l j) e;have w:p.toList.Nodup:=g.pm.nodup_iff.mpr ZS;have a1:=g.at s;have a2:=g.at u;rw[<- Jr] at a1 a2;obtain⟨b1,c1⟩:=zL.mp a1;obtain⟨b2,m⟩:=zL.mp a2;exact(yQ w).mp (by rw[c1,m,h1])
def AscA(r:Nat->Nat)(p:Array Nat)(m:Nat):Prop:=∀i j,i<j->j<m->vA r p i<vA r p j
def DscA(r:Nat->Nat)(p:Array Nat)(m:Nat):Prop:=∀i j,i<j->j<m->vA r p j<vA r p i
theorem AscA.step{p:Array Nat}{m:Nat}(h:AscA r p m)(h1:1<=m)(h2:vA r p (m-1)<vA r p m):AscA r p (m+1):=fun i j g l=>by
 by_cases e:j=m
 ·subst e
  by_cases e2:i=j-1
  ·subst e2;exact h2
  ·have:=h i (j-1) (by omega) (by omega)
   omega
 ·exact h i j g (by omega)
theorem DscA.step{p:Array Nat}{m:Nat}(h:DscA r p m)(h1:1<=m)(h2:vA r p m<vA r p (m-1)):DscA r p (m+1):=fun i j g l=>by
 by_cases e:j=m
 ·subst e
  by_cases e2:i=j-1
  ·subst e2;exact h2
  ·have:=h i (j-1) (by omega) (by omega)
   omega
 ·exact h i j g (by omega)
variable{c:Nat->Nat->Bool}(b:∀i j,i<n->j<n->r i=r j->i=j)(hb:∀i j,i<n->j<n->c i j=decide (r i<r j))
include b hb
end
end L2
namespace L2
open PySem PySem.Spec PyProof.Rows PySem.W
section
variable{b:Program}{w:World}{A:Around}{E:Value->Shared->Prop}{s:Shared}
end
end L2
namespace L2
open PySem PySem.Spec PyProof.Rows PySem.W
section
variable{X:Cx}{b:List (Addr×Obj)}{σ:St}{s:Shared}
end
end L2
namespace L2
open PySem PySem.Spec PyProof.Rows PySem.W
section
variable{X:Cx}
end
end L2
namespace L2
open PySem PySem.Spec PyProof.Rows
section
variable{X:Cx}
variable{c b:Expr}{g:List Expr}{scope:Scope}{i:Pos}{C:TI}{A:TT}{w:TE}{x y z:Str}{m s u B:Pos}{l:Nat}
end
section
variable{X:Cx}
end
section
variable{X:Cx}{c u b:Expr}{i:List Expr}{scope:Scope}{l:Pos}{w:TI}{g:TG}{s:TT}{m:TE}{x:Str}
end
end L2
namespace L2
open PySem PySem.Spec PyProof.Rows PySem.W
section
variable{b:Program}{w:World}{A:Around}{E:Value->Shared->Prop}{s:Shared}
end
end L2
namespace L2
open PySem PySem.Spec PyProof.Rows PySem.W
def PrR(H:Hp)(c:List V)(b:List (Int×Int)):Prop:=c.length=b.length/\∀(j:Nat) q,b[j]? =some q->∃T,c[j]? =some (.ref T)/\H T=some (.tup [.int q.1,.int q.2])
theorem PrR.nil{H:Hp}:PrR H [] []:=⟨rfl,fun j q e=>by simp at e⟩
theorem PrR.same{H c:Hp}{i:List V}{g:List (Int×Int)}(h:PrR H i g)(s:Same H c):PrR c i g:=⟨h.1,fun j k e=>let ⟨T,a,b⟩:=h.2 j k e;⟨T,a,s _ _ b⟩⟩
theorem PrR.snoc{H:Hp}{l:List V}{c:List (Int×Int)}{q:Int×Int}{T:Addr}(h:PrR H l c)(e:H T=some (.tup [.int q.1,.int q.2])):PrR H (l++[.ref T]) (c++[q]):=by
 refine⟨by rw[zW,zW,h.1];rfl,fun j r b=>?_⟩
 by_cases g:j<c.length
 ·rw[j9 g] at b
  obtain⟨U,e1,e2⟩:=h.2 j r b;exact⟨U,by rw[j9 (by rw[h.1];exact g)];exact e1,e2⟩
 ·have i:=(zL.mp b).1
  rw[zW] at i;have m:j=c.length:=by simp at i;omega
  subst m;rw[xa (zQ _),wY] at b;have:q=r:=by simpa using b
  subst this;exact⟨T,by rw[<- h.1,xa (zQ _),wY];rfl,e⟩
section
variable{X:Cx}
def zf2(X:Cx)(f:Value)(i:List (Str×Value))(r:List V->Hp->VK->Prop):Prop:=
 ∀(b:List (Addr×Obj)) (s:Shared) (σ:St) (H:Hp) (g:List V) (c:List Value) (Q:VK),Inv X b σ H s->Vals g c->r g H Q->wpAny (model X.prog X.w) X.A (call f c i) (EP X b σ Q) X.xe s
end
end L2
namespace L2
open PySem PySem.Spec PyProof.Rows
section
variable{X:Cx}
end
def AtQ(K:W.Frag)(H:Hp)(t:Bool)(a:Addr)(b:List V):Prop:=if t=true then SqT K H a b else H a=some (.lst b)
def SqQ(K:W.Frag)(H:Hp)(t:Bool)(a:Addr)(b:List V):Prop:=if t=true then SqT K H a b else SqL K H a b
theorem AtQ.sq{K:W.Frag}{H:Hp}{t:Bool}{a:Addr}{b:List V}(h:AtQ K H t a b):SqQ K H t a b:=by
 cases t with
 | true=>exact h
 | false=>exact u7 h
theorem AtQ.same{K:W.Frag}{H b:Hp}{t:Bool}{a:Addr}{c:List V}(h:AtQ K H t a c)(s:Same H b):AtQ K b t a c:=by
 cases t with
 | true=>exact s.sqT h
 | false=>exact s _ _ h
def oQ(t:Bool)(b:List V):HO:=if t=true then .tup b else .lst b
def Tkn(H:Hp)(b:List Addr):Prop:=∀e∈b,∃o,H e=some o
theorem Tkn.out{H:Hp}{b:List Addr}{p:Addr}(h:Tkn H b)(hp:H p=none):p∉b:=fun z=>by
 obtain⟨o,e⟩:=h p z;rw[hp] at e;cases e
theorem AtQ.new{K:W.Frag}{H:Hp}{c:List Addr}{p:Addr}(T:Tkn H c)(hp:H p=none)(t:Bool)(b:List V):AtQ K (WX c (upd H p (oQ t b))) t p b:=by
 have:=WX.at (T.out hp) (zb (H:=H) (a:=p) (o:=oQ t b));cases t with
 | true=>exact u8 this
 | false=>exact this
section
variable{X:Cx}
theorem zbF{t u:Addr}{b:Array Value}{G H:Value}{lo C:Option Int}{g:Program}{w:World}{A:Around}{E:Value->Shared->Prop}{s:Shared}{Q:Value->Shared->Prop}(c:IsTup s.heap t b)(hs:s.heap.IsSliceOf u G H .none)(L:IsPart G lo)(M:IsPart H C)
  (h1:HT.sIx b.size 0 lo=0) (h2:HT.sIx b.size b.size C=b.size) (h:Q (.ref t) s):wpAny (model g w) A (getItem (.ref t) (.ref u)) Q E s:=by
 obtain⟨os,l,i,J⟩:=id hs;have I:s.TypeIs (.ref u) "slice" :=⟨os,l,i⟩;unfold getItem;try with_reducible refine vW ?_
 first| refine zm (zJ ?_) | skip
 refine zm (wpAny_sequenceKey c.typeIs (by decide) ?_)
 refine zm (yw (name:=Str.ofString "__getitem__") c.typeIs slot_tuple_getitem (wD slot_tuple_getitem c.typeIs entry_tuple_getitem ?_ (args_tuple_getitem _ _)))
 refine zm (m:=Builtin.Tuple.tupleItemsOf (.ref t)) (tupleItemsOf_ c ?_)
 refine zm (Zz I ?_)
 rw[zu (by decide)]
 refine zm (HT.sliceApplied_gen hs L M ?_)
 rw[h1,h2];have B:((((0:Nat):Int)==0&&(1:Int)==1&&(b.size-0)==b.size)=true):=by simp
 show wpAny _ _ (if(((0:Nat):Int)==0&&(1:Int)==1&&(b.size-0)==b.size)=true then _ else _) _ _ s
 rw[zu B];refine zm (m:=Builtin.Tuple.tupleIsExact (.ref t)) (zm (Zz c.typeIs (zJ ?_)))
 rw[zu (by decide)]
 exact zm (xY (zJ ⟨_,rfl,zJ h⟩))
inductive zh2(K:W.Frag)(x:V)(lo:Option Int)(i:Option Int)(H:Hp)(Q:VK):Prop
 | mk (t:Bool) (a:Addr) (l:List V) (g:List Addr) (_:x=.ref a) (_:Tkn H g) (_:SqQ K (WX g H) t a l) (_:∀c b,Same H b->AtQ K (WX g b) t c (jE l lo i)->Q (.ref c) b):zh2 K x lo i H Q
theorem zi0:SlR X (zh2 X.K):=by
 intro c s σ H x v D E lo i C Q I w hs m u h;obtain⟨t,a,b,J,rfl,T,g,q⟩:=h;cases t with
 | false=>exact ya c s σ H _ v D E lo i C Q I w hs m u ⟨a,b,rfl,WX.le.seq g,fun p hp=>q p _ (zc hp) (AtQ.new T hp false _)⟩
 | true=>
  by_cases e:HT.sIx b.length 0 lo=0/\HT.sIx b.length b.length i=b.length
  ·have G:jE b lo i=b:=by
    unfold jE;rw[e.1,e.2,List.drop_zero,Nat.sub_zero,qY]
   cases w;obtain⟨l,r,B,L⟩:=I.tuple (WX.le.sqT g);have A:l.toArray.size=b.length:=by rw[z9];exact r.length.symm
   refine⟨"tuple",_,slot_tuple_getitem.lookup,B.typeIs,zbF B hs m u (by rw[A];exact e.1) (by rw[A];exact e.2) ⟨.ref a,H,I,rfl,q a H (u9 _) ?_⟩⟩
   rw[G];exact g
  ·exact Yi c s σ H _ v D E lo i C Q I w hs m u ⟨a,b,rfl,WX.le.sqT g,e,fun p hp=>q p _ (zc hp) (AtQ.new T hp true _)⟩
end
end L2
namespace PySem
section
variable{b:Program}{w:World}{A:Around}{d:Addr}{g:Array DictEntry}{c:Nat}
end
end PySem
namespace L2
open PySem PySem.Spec PyProof.Rows
section
variable{X:Cx}
end
section
variable{X:Cx}
variable{o e:Expr}{i:List Expr}{to:TE}{t:TA}{g:Str}{b c:Pos}{id:String}{r:V->List V->Hp->VK->Prop}
end
end L2
namespace L2
open PySem PySem.Spec PyProof.Rows PySem.W
section
variable{X:Cx}
end
end L2
namespace L2
open PySem PySem.Spec PyProof.Rows PySem.W
section
variable{X:Cx}
end
end L2
namespace L2
open PySem PySem.Spec PyProof.Rows PySem.W
section
variable{X:Cx}
end
end L2
namespace L2
open PySem PySem.Spec PyProof.Rows PySem.W
section
variable{c:Program}{w:World}{A:Around}{E:Value->Shared->Prop}{s:Shared}
inductive zce(c:Program)(w:World)(A:Around)(s:Shared):List Value->List Value->Bool->Prop
 | nil:zce c w A s [] [] false
 | nl {y l}:zce c w A s [] (y::l) true
 | ln {x i}:zce c w A s (x::i) [] false
 | eq {x y i l b} (h:∀(Q:Bool->Shared->Prop) E,Q true s->wpAny (model c w) A (eqBool x y) Q E s) (t:zce c w A s i l b):zce c w A s (x::i) (y::l) b
 | ne {x y i l b} (h:∀(Q:Bool->Shared->Prop) E,Q false s->wpAny (model c w) A (eqBool x y) Q E s) (g:∀(Q:Value->Shared->Prop) E,Q (.bool b) s->wpAny (model c w) A (richCompare .Lt x y) Q E s):zce c w A s (x::i) (y::l) b
theorem eq_int(x y:Int)(t u:Tok){Q:Bool->Shared->Prop}(h:Q (decide (x=y)) s):wpAny (model c w) A (eqBool (.int x t) (.int y u)) Q E s:=by
 refine(qv c w).eqBool (a:=Sum.inl x) (b:=Sum.inl y) (yj ⟨t,rfl⟩) (yj ⟨u,rfl⟩) ?_
 rw[show decide ((Sum.inl x:Key)=Sum.inl y)=decide (x=y) from decide_eq_decide.mpr ⟨fun z=>vp z,fun z=>by rw[z]⟩]
 exact h
theorem zeZ(x y:Int)(t u:Tok){Q:Value->Shared->Prop}(h:Q (.bool (decide (x<y))) s):wpAny (model c w) A (richCompare .Lt (.int x t) (.int y u)) Q E s:=
 richCompare_gives (op:=.Lt) (typeIs_int s _ t) (typeIs_int s _ u) F.slot_int_lt F.entry_int_lt (F.args_int_lt_2 _ _) (gives_int_lt _ _ t u) (fun x=>nomatch x) h
end
section
variable{b:Program}{w:World}{A:Around}{R:Result->Shared->Prop}{I S:Addr}{c g:List Addr}{n:Nat}{P:Nat->Value->Prop}{St:Nat->Heap->Prop}
end
end L2
namespace L2
open PySem PySem.Spec PyProof.Rows PySem.W
def WkR(H:Hp)(c:List V)(b:List (Int×List Int)):Prop:=c.length=b.length/\∀(j:Nat) q,b[j]? =some q->∃T U,c[j]? =some (.ref T)/\H T=some (.tup [.int q.1,.ref U])/\H U=some (.tup (q.2.map V.int))
theorem WkR.nil{H:Hp}:WkR H [] []:=⟨rfl,fun j q e=>by simp at e⟩
theorem WkR.same{H g:Hp}{l:List V}{i:List (Int×List Int)}(h:WkR H l i)(s:Same H g):WkR g l i:=⟨h.1,fun j k e=>let ⟨T,U,a,b,c⟩:=h.2 j k e;⟨T,U,a,s _ _ b,s _ _ c⟩⟩
theorem WkR.snoc{H:Hp}{l:List V}{c:List (Int×List Int)}{q:Int×List Int}{T U:Addr}(h:WkR H l c)(e:H T=some (.tup [.int q.1,.ref U]))(u:H U=some (.tup (q.2.map V.int))):WkR H (l++[.ref T]) (c++[q]):=by
 refine⟨by rw[zW,zW,h.1];rfl,fun j r b=>?_⟩
 by_cases g:j<c.length
 ·rw[j9 g] at b
  obtain⟨m,s,e1,e2,w⟩:=h.2 j r b;exact⟨m,s,by rw[j9 (by rw[h.1];exact g)];exact e1,e2,w⟩
 ·have i:=(zL.mp b).1
  rw[zW] at i;have A:j=c.length:=by simp at i;omega
  subst A;rw[xa (zQ _),wY] at b;have:q=r:=by simpa using b
  subst this;exact⟨T,U,by rw[<- h.1,xa (zQ _),wY];rfl,e,u⟩
theorem WkR.set{H:Hp}{m:List V}{l:List (Int×List Int)}{q:Int×List Int}{T U:Addr}{i:Nat}(h:WkR H m l)(e:H T=some (.tup [.int q.1,.ref U]))(w:H U=some (.tup (q.2.map V.int))):WkR H (m.set i (.ref T)) (l.set i q):=by
 refine⟨by rw[ZE,ZE,h.1],fun j r b=>?_⟩
 by_cases c:i=j
 ·subst c
  have g:=(zL.mp b).1;rw[ZE] at g;rw[Vw g] at b;cases b;exact⟨T,U,Vw (by rw[h.1];exact g),e,w⟩
 ·rw[Vs c] at b
  obtain⟨s,u,e1,e2,A⟩:=h.2 j r b;exact⟨s,u,by rw[Vs c];exact e1,e2,A⟩
section
variable{X:Cx}
end
end L2
namespace L2
open PySem PySem.Spec PyProof.Rows PySem.W
section
variable{X:Cx}
end
end L2
namespace L2
open PySem PySem.Spec PyProof.Rows
section
variable{X:Cx}
end
section
variable{b:Program}{w:World}{K:Type}[DecidableEq K]{c:KeyKind b w K}{A:Around}{E:Value->Shared->Prop}{s:Shared}
end
section
variable{X:Cx}
end
end L2
namespace L2
open PySem PySem.Spec PyProof.Rows PySem.W
theorem zcb(a:Value):argsOk "min" ⟨[a],[(Str.ofString "default",.none)]⟩:=by unfold argsOk;kernel_rfl
section
variable{g:Program}{w:World}{A:Around}{R:Result->Shared->Prop}{I S:Addr}{m l:List Addr}{n:Nat}{P:Nat->Value->Prop}{St:Nat->Heap->Prop}
theorem Yw(W:Walks g w A.in1 I m l n P St)(L:Nat->Nat->Bool)(J:Heap->Prop)(hJ:∀h u,J h->(∀b o,b∉l->b≠S->h.get? b=some o->u.get? b=some o)->J u)
  (hc:∀i j vi vj (s:Shared) (Q:Value->Shared->Prop) (E:Value->Shared->Prop),J s.heap->P i vi->P j vj->Q (.bool (L i j)) s->wpAny (model g w) A.in1 (richCompare .Lt vi vj) Q E s) (N:S∉m) :
  ∀(k j:Nat) (s:Shared) (B:Value) (c:Nat),n=j+1+k->St (j+1) s.heap->J s.heap->P (argBest L j) B->s.heap.get? S=some (seqObj "list" #[B,B] c) ->
   (∀v u T,P (argBest L (n-1)) v->(∀b o,b∉l->b≠S->s.heap.get? b=some o->u.get? b=some o)->R (.ok (.ret v)) { s with heap:=u,toks:=T }) ->
   codeAny (model g w) A (.builtin "min.loop" ⟨[.ref I,.none,.ref S],[("default",.none)]⟩) R s:=by
 have nw:S∉l:=fun h=>N (W.sub _ h)
 have nm:(toString "min" ++ toString ".loop" : String) = "min.loop" :=by decide
 intro k;induction k with
 | zero=>
  intro j s B c hn st j0 Y M U;refine codeAny_builtin YQ ?_
  rw[Jo yP _];show wpAny _ A.in1 (seqItems? (.ref S) >>= _) _ _ s;refine zm (wA M rfl ?_)
  show wpAny _ A.in1 (tryCatch (pyNext (.ref I)) _ >>= _) _ _ s;have a0:St n s.heap:=by rw[hn];exact st
  refine zm (ZB (W.done s _ _ a0 fun u T D=>?_))
  show wpAny _ A.in1 (updateSeq S (fun _=>#[]) >>= _) _ _ _
  refine zm (wpAny_updateSeq (D S _ nw M) rfl (zm (yJ (zJ ?_))))
  exact U B _ T (by rw[hn];exact Y) fun b o b1 b2 e=>(Xw _ _ (qz b2)).trans (D b o b1 e)
 | succ k ih=>
  intro j s B c hn st j0 Y M U;refine codeAny_builtin YQ ?_
  rw[Jo yP _];show wpAny _ A.in1 (seqItems? (.ref S) >>= _) _ _ s;refine zm (wA M rfl ?_)
  show wpAny _ A.in1 (tryCatch (pyNext (.ref I)) _ >>= _) _ _ s;refine zm (ZB (W.item (j+1) s _ _ (by omega) st fun v u T pv O D=>?_))
  have C:=D S _ nw M;have j2:J u:=hJ _ _ j0 fun b o b1 _ e=>D b o b1 e
  show wpAny _ A.in1 (tryCatch (holding [v,v] (richCompare .Lt v B >>= _)) _ >>= _) _ _ _;refine zm (ZB (vW (zm (hc (j+1) (argBest L j) v B { s with heap:=u,toks:=T } _ _ j2 pv Y ?_))))
  refine zm (vW (yq (zm (yJ (zJ ?_)))))
  cases hb:L (j+1) (argBest L j) with
  | true=>
   simp only[if_true];refine zm (wpAny_updateSeq C rfl (zm (yJ ?_)))
   rw[nm];have G:∀b o,b≠S->u.get? b=some o->(u.update S (Obj.mapSeq fun _=>#[v,v])).get? b=some o:=fun b o b2 e=>(Xw _ _ (qz b2)).trans e
   refine zJ ⟨plainId_quiet yP _,ih (j+1) _ v _ (by omega) (W.frame _ _ _ O fun b bf o e=>G b o (fun z=>N (by rw[<- z];exact bf)) e) (hJ _ _ j2 fun b o _ b2 e=>G b o b2 e) (by simp only[argBest,hb,if_true];exact pv) (Q6 _ C rfl) fun v' h2 H p2 k2=>?_⟩
   exact U v' h2 H p2 fun b o b1 b2 e=>k2 b o b1 b2 (G b o b2 (D b o b1 e))
  | false=>
   simp only[ZH,if_false];refine zm (yJ ?_)
   rw[nm];refine zJ ⟨plainId_quiet yP _,ih (j+1) _ B c (by omega) O j2 (by simp only[argBest,hb,ZH,if_false];exact Y) C fun v' h2 H p2 k2=>?_⟩
   exact U v' h2 H p2 fun b o b1 b2 e=>k2 b o b1 b2 (D b o b1 e)
end
section
variable{X:Cx}
theorem Ym{id:String}{r:List V->Hp->VK->Prop}{x:Str}{p c N:Pos}{e w:Expr}{i:List Expr}{t:TA}(hc:zf2 X (.builtin id) [(Str.ofString "default",.none)] r)(hg:Gl X x)(L:X.mg x=none)(hv:bootBuiltins x=some (.builtin id))(G:PA X (e::i) t)(hk:PE X w (tC .non))
  (M:x ≠ "__name__" :=by decide) (m:(x==("__debug__":Str))=false:=by decide)
  (J:backTo c (starEach (e::i) X.env)=(false,eval e X.env)::backTo c (starEach i X.env):=by rfl)
  (g:(backTo c (starEach (e::i) X.env)).any (·.1)=false:=by rfl) :
  PE X (.Call (.Name x p) (e::i) [⟨some (Str.ofString "default"),w,N⟩] c) (tCB r t):=by
 intro b s σ H Q I h;refine wpAny_Call_Name_kw (vD I hg L hv ?_ M m)
 refine callWith_kw (thn (G c b s σ H _ I h) fun us s1 ⟨A,B,C,U,O⟩=>kws_cons (thn (hk b s1 σ B (fun u l=>u=.non/\r A l Q) C ⟨rfl,O⟩) fun v s2 ⟨u,l,D,Y,E,T⟩=>kws_nil ?_)) J g rfl rfl
 subst E;cases(show v=Value.none from Y)
 exact hc b s2 σ l A us Q D U T
end
end L2
namespace L2
open PySem PySem.Spec PyProof.Rows
section
variable{X:Cx}
end
end L2
namespace L2
open PySem PySem.Spec PyProof.Rows PySem.W
theorem zbh(f:Nat->Int):∀n,argBest (fun i j=>decide (f i<f j)) n<=n/\∀j,j<=n->f (argBest (fun i j=>decide (f i<f j)) n)<=f j
 | 0=>⟨zQ _,fun j c=>by rw[show j=0 by omega];exact X7 _⟩
 | n+1=>by
  obtain⟨h1,h2⟩:=zbh f n;cases hb:decide (f (n+1)<f (argBest (fun i j=>decide (f i<f j)) n)) with
  | true=>
   have e:argBest (fun i j=>decide (f i<f j)) (n+1)=n+1:=by simp only[argBest,hb,if_true]
   rw[e];refine⟨zQ _,fun j c=>?_⟩
   have b:=qQ hb;rcases Nat.lt_or_ge j (n+1) with z | z
   ·have a:=h2 j (by omega)
    omega
   ·rw[show j=n+1 by omega];exact X7 _
  | false=>
   have e:argBest (fun i j=>decide (f i<f j)) (n+1)=argBest (fun i j=>decide (f i<f j)) n:=by simp only[argBest,hb,ZH,if_false]
   rw[e];refine⟨by omega,fun j c=>?_⟩
   have b:=of_decide_eq_false hb;rcases Nat.lt_or_ge j (n+1) with z | z
   ·exact h2 j (by omega)
   ·rw[show j=n+1 by omega];omega
section
variable{X:Cx}
inductive Zm(K:W.Frag)(c:List V)(H:Hp)(Q:VK):Prop
 | mk (p:Addr) (b:List Int) (_:c=[.ref p]) (_:SqL K H p (b.map V.int)) (_:(b=[]->Q .non H)) (_:∀m,m∈b->(∀k∈b,m<=k)->Q (.int m) H):Zm K c H Q
theorem YF(hc:X.calm=true)(hu:X.A.units+64<cLine):zf2 X (.builtin "min") [(Str.ofString "default",.none)] (Zm X.K):=by
 intro af s σ H xs us Q I r h;obtain⟨p,l,rfl,hq,qn,q⟩:=h;obtain⟨u,rfl,ru⟩:=vF r;cases(show u=_ from ru)
 obtain⟨g,rv,pl,hz⟩:=I.list hq;have hl:=pl.isList;have O:=rv.length;have wl:(l.map V.int).length=l.length:=zp ..;have ab:g.length=l.length:=by rw[<- wl];first| exact O | exact O.symm
 have B:p<s.heap.objs.size:=let ⟨_,e,_⟩:=hl;zN e
 have nm:(toString "min" ++ toString ".loop" : String) = "min.loop" :=by decide
 have ah:X.A.in1.in1.units<cLine:=Vn (YU (by decide:2<=64) _) hu
 have ai:X.A.in1.units<cLine:=Vn (YU (by decide:1<=64) _) hu
 have tup:∀(j:Nat) v,g[j]? =some v->∃q t,v=Value.int q t/\l[j]? =some q:=fun j v L=>by
  have ag:=(zL.mp L).1;have ek:l[j]? =some (l[j]'(by omega)):=qR _
  generalize l[j]'(by omega)=k at ek
  obtain⟨v',e4,e5⟩:=rv.get (show(l.map V.int)[j]? =some (.int k) by rw[zU,ek];rfl)
  rw[L] at e4;cases e4;obtain⟨t,rfl⟩:=e5;exact⟨k,t,rfl,ek⟩
 refine kmk_tree F.kind_min F.plain_min F.entry_min (zcb _) ?_
 show wpAny _ X.A.in1 (Builtin.Builtins.bindParams "min" ["key","default"] 0 ⟨[],[(Str.ofString "default",.none)]⟩ >>= _) _ _ s;refine zm (Zy (show Builtin.Builtins.bindParams "min" ["key","default"] 0 ⟨[],[(Str.ofString "default",.none)]⟩=pure [none,some .none] from rfl) (zm (zJ (zm (wpAny_pyIter_list hl ?_)))))
 refine zm (vo ?_)
 rw[nm];have hI:s.heap.objs.size<(s.heap.push { cls:=.type "list_iterator",data:=.fields #[.ref p,.int 0 0] }).objs.size:=by rw[j7];exact ZU _
 have J:(s.heap.push { cls:=.type "list_iterator",data:=.fields #[.ref p,.int 0 0] }).IsListIter s.heap.objs.size p 0:=⟨_,qJ _ rfl,rfl,rfl⟩;have E:(s.heap.push { cls:=.type "list_iterator",data:=.fields #[.ref p,.int 0 0] }).IsList p g.toArray:=hl.push _;have k1:∀b o,s.heap.get? b=some o->(s.heap.push { cls:=.type "list_iterator",data:=.fields #[.ref p,.int 0 0] }).get? b=some o:=fun b o e=>qG _ e
 generalize s.heap.push { cls:=.type "list_iterator",data:=.fields #[.ref p,.int 0 0] }=h1 at hI J E k1;have W:=Jc (prog:=X.prog) (w:=X.w) (A:=X.A.in1.in1) (I.ok.hd hc) s.heap.objs.size p (qw B) g.toArray;have Y:=Jc (prog:=X.prog) (w:=X.w) (A:=X.A.in1) (I.ok.hd hc) s.heap.objs.size p (qw B) g.toArray;have D:h1.objs.size∉[s.heap.objs.size,p]:=by
  intro z;rcases qg.mp z with z | z
  ·omega
  ·exact vz _ (Jd B (zR.mp z▸hI))
 have hS:(h1.push { cls:=.type "list",data:=.seq ([]:List Value).toArray }).get? h1.objs.size=some (seqObj "list" #[] 0):=qJ _ rfl;refine zJ ⟨plainId_quiet yP _,codeAny_builtin YQ ?_⟩
 rw[Jo yP _];show wpAny _ _ (seqItems? (.ref h1.objs.size) >>= _) _ _ _;refine zm (wA hS rfl ?_)
 show wpAny _ _ (tryCatch (pyNext (.ref s.heap.objs.size)) _ >>= _) _ _ _;by_cases G:l=[]
 ·have il:g.length=0:=by rw[ab,G];rfl
  have e0:g.toArray.size=0:=by rw[z9];exact il
  refine zm (ZB (Y.done { s with heap:=h1.push { cls:=.type "list",data:=.seq ([]:List Value).toArray } } _ _ (by rw[e0];exact⟨J.at fun o e=>qG _ e,E.push _⟩) fun C tk kk=>?_))
  show wpAny _ _ (rule _ >>= _) _ _ _;refine zm (xY ?_)
  refine zJ ?_
  exact⟨.non,H,I.kept (h':=C) (t':=tk) (fun b o e=>kk b o (fun z=>qw (zN e) (zR.mp z)) (qG _ (k1 b o e))),rfl,qn G⟩
 ·have h0:0<l.length:=Vp.mpr G
  refine zm (ZB (Y.item 0 { s with heap:=h1.push { cls:=.type "list",data:=.seq ([]:List Value).toArray } } _ _ (by rw[z9];omega) ⟨J.at fun o e=>qG _ e,E.push _⟩ fun v C tk pv ac kk=>?_))
  have nw:h1.objs.size∉[s.heap.objs.size]:=fun z=>D (by simp at z;omega)
  have M:=kk _ _ nw hS;show wpAny _ _ (updateSeq h1.objs.size (fun _=>#[v,v]) >>= _) _ _ _
  refine zm (wpAny_updateSeq M rfl ?_)
  rw[nm];have T:∀b o,b≠h1.objs.size->C.get? b=some o->(C.update h1.objs.size (Obj.mapSeq fun _=>#[v,v])).get? b=some o:=fun b o b2 e=>(Xw _ _ (qz b2)).trans e
  have all:∀b o,s.heap.get? b=some o->b≠s.heap.objs.size/\b≠h1.objs.size:=fun b o e=>⟨qw (zN e),qw (Jd (zN e) hI)⟩
  have j0:∀b o,s.heap.get? b=some o->(C.update h1.objs.size (Obj.mapSeq fun _=>#[v,v])).get? b=some o:=fun b o e=>
   T b o (all b o e).2 (kk b o (fun z=>(all b o e).1 (zR.mp z)) (qG _ (k1 b o e)))
  refine zJ ⟨plainId_quiet yP _,Yw (S:=h1.objs.size) Y (fun i j=>decide (l.getD i 0<l.getD j 0)) (fun h=>∀b o,s.heap.get? b=some o->h.get? b=some o) (fun h h2 a b c o e=>b c o (fun z=>(all c o e).1 (zR.mp z)) (all c o e).2 (a c o e)) ?_ D (g.length-1) 0 _ v _ (by rw[z9];omega) (Y.frame _ _ _ ac fun b bf o e=>T b o (fun z=>D (by rw[<- z];exact bf)) e) j0 pv (Q6 _ M rfl) fun v' h2 ae p2 k2=>?_⟩
  ·intro i j vi vj s2 Q2 E2 jj hi L N
   have ei:g[i]? =some vi:=by simpa using hi
   have ej:g[j]? =some vj:=by simpa using L
   obtain⟨qi,ti,rfl,fi⟩:=tup i vi ei;obtain⟨qj,tj,rfl,fj⟩:=tup j vj ej;rw[Ja,fi,Ja,fj] at N;exact zeZ _ _ _ _ N
  ·rw[z9] at p2
   have a0:g.length=l.length:=by omega
   have e2:g[argBest (fun i j=>decide (l.getD i 0<l.getD j 0)) (l.length-1)]? =some v':=by
    rw[<- a0];simpa using p2
   obtain⟨hm,aa⟩:=zbh (fun i=>l.getD i 0) (l.length-1)
   obtain⟨m,t,rfl,em⟩:=tup _ _ e2;have eg:l.getD (argBest (fun i j=>decide (l.getD i 0<l.getD j 0)) (l.length-1)) 0=m:=by rw[Ja,em];rfl
   refine⟨.int m,H,I.kept (h':=h2) (t':=ae) (fun b o e=>k2 b o (fun z=>(all b o e).1 (zR.mp z)) (all b o e).2 (j0 b o e)),⟨t,rfl⟩,q m (je em) fun k hk=>?_⟩
   obtain⟨j,L,ej⟩:=List.getElem_of_mem hk;have:=aa j (by omega)
   rw[eg,Ja,qR L,ej] at this;exact this
end
end L2
namespace L2
open PySem PySem.Spec PyProof.Rows
section
variable{X:Cx}
end
section
variable{b:Program}{w:World}{A:Around}{E:Value->Shared->Prop}{s:Shared}
end
section
variable{X:Cx}
end
section
variable{b:Program}{w:World}{A:Around}{E:Value->Shared->Prop}{R:Result->Shared->Prop}{s:Shared}
variable{K:Type}[DecidableEq K]{c:KeyKind b w K}
end
section
variable{X:Cx}{c u b:Expr}{i:List Expr}{scope:Scope}{l:Pos}{w:TI}{g:TG}{s:TT}{m:TE}
end
section
variable{X:Cx}{x y:Str}{m s A:Pos}{l:Nat}{c b:Expr}{g:List Expr}{scope:Scope}{i:Pos}{B:TI}{w:TT}{u:TE}
end
section
variable{X:Cx}
end
open Sem (wp)
section
variable{X:Cx}
end
end L2
namespace L2
open PySem PySem.Spec PyProof.Rows
section
variable{X:Cx}{b:Pos}
end
end L2
namespace L2
open PySem PySem.Spec PyProof.Rows PySem.W
section
variable{X:Cx}
theorem zeb(hu:X.A.units+1<cLine):zhr X (fun o i v H Q=>∃(a:Addr) (c:Hp),o=.ref a/\DPut H a i v c/\Q c):=by
 intro l s σ H o i v D C u Q I A w B h;obtain⟨a,c,rfl,g,q⟩:=h;cases A;exact Xj hu I g w B fun E m=>⟨c,m,q⟩
variable{b:Expr}
end
end L2
namespace L2
open PySem PySem.Spec PyProof.Rows
section
variable{i:Program}{w:World}{K:Type}[DecidableEq K](g:KeyKind i w K)
def IsPK(h:Heap)(k:List K×List K)(a:Addr):Prop:=∃o n B C,h.get? a=some o/\o.cls=.type "tuple" /\ o.data=.seq #[.ref B,.ref C] n/\IsTupleKey g h k.1 B/\IsTupleKey g h k.2 C
variable{g}
theorem IsPK.ty{s:Shared}{k:List K×List K}{a:Addr}(x:IsPK g s.heap k a):s.TypeIs (.ref a) "tuple" :=let ⟨o,_,_,_,p,q,_⟩:=x;⟨o,p,q⟩
theorem IsPK.inj{h:Heap}{a:Addr}{x y:List K×List K}(p:IsPK g h x a)(q:IsPK g h y a):x=y:=by
 obtain⟨o,n,B,C,e,_,d,b,c⟩:=p;obtain⟨J,I,G,H,m,_,l,u,D⟩:=q;rw[e] at m;cases m;rw[d] at l;cases l;exact Prod.ext (b.inj u) (c.inj D)
theorem IsPK.keeps{h m:Heap}{k:List K×List K}{a d:Addr}{o:Obj}{D u}(x:IsPK g h k a)(l:h.get? d=some o)(hd:o.data=.dict D u)(hs:Heap.SameBut d h m):IsPK g m k a:=by
 obtain⟨p,n,B,C,e,t,q,b,c⟩:=x;refine⟨p,n,B,C,(hs.2 a fun z=>?_).trans e,t,q,b.keeps l hd hs,c.keeps l hd hs⟩
 subst z;rw[e] at l;cases l;rw[hd] at q;exact nomatch q
variable{A:Around}{E:Value->Shared->Prop}{s:Shared}
end
end L2
namespace PySem
section
variable{b:Program}{w:World}{A:Around}{E:Value->Shared->Prop}{s:Shared}{d l:Addr}{g:Array DictEntry}{c i:Nat}
end
end PySem
namespace L2
open PySem PySem.Spec PyProof.Rows PySem.W
section
variable{X:Cx}{b:List (Addr×Obj)}{σ:St}{H:Hp}{s:Shared}
end
end L2
namespace L2
open PySem PySem.Spec PyProof.Rows PySem.W
section
variable{X:Cx}
end
end L2
namespace L2
open PySem PySem.Spec PyProof.Rows
abbrev zhq:=Addr->V->V->Hp->(Hp->Prop)->Prop
section
variable{X:Cx}{l A s b:Expr}{c:List Expr}{scope:Scope}{i:Pos}{B:TI}{g:TG}{m:TT}{u w:TE}{mk:Addr->HO}{t:zhq}
end
end L2
namespace L2
open PySem PySem.Spec PyProof.Rows PySem.W
section
variable{X:Cx}{c B N b:Expr}{g:List Expr}{scope:Scope}{m:Pos}{O:TI}{I:TT}{H J M:TE}{mk:Addr->HO}{t:zhq}{x y z u:Str}{D E G C L s w:Pos}{A i l:Nat}
end
def ziC(K:W.Frag)(H:Hp)(a:Addr)(p:Int×List Int):Prop:=∃U,SqT K H a [.int p.1,.ref U]/\SqT K H U (p.2.map V.int)
def WkO(h:Heap)(a:Addr)(p:Int×List Int):Prop:=∃o n t U,h.get? a=some o/\o.cls=.type "tuple" /\ o.data=.seq #[.int p.1 t,.ref U] n/\∃b g c,h.get? U=some b/\b.cls=.type "tuple" /\ b.data=.seq c g/\Vals (p.2.map V.int) c.toList
theorem WkO.keep{h c:Heap}{a:Addr}{p:Int×List Int}(x:WkO h a p)(k:∀b o,h.get? b=some o->c.get? b=some o):WkO c a p:=
 let ⟨o,n,t,U,a1,a2,a3,i,g,l,b1,b2,b3,b4⟩:=x;⟨o,n,t,U,k _ _ a1,a2,a3,i,g,l,k _ _ b1,b2,b3,b4⟩
end L2
namespace L2
open PySem PySem.Spec PyProof.Rows
section
variable{X:Cx}{l A s b:Expr}{c:List Expr}{scope:Scope}{i:Pos}{B:TI}{g:TG}{m:TT}{u w:TE}{mk:Addr->HO}{t:zhq}
end
end L2
namespace L2
open PySem PySem.Spec PyProof.Rows PySem.W
def WkS(K:W.Frag)(H:Hp)(c:List V)(b:List (Int×List Int)):Prop:=c.length=b.length/\∀(j:Nat) q,b[j]? =some q->∃T,c[j]? =some (.ref T)/\ziC K H T q
theorem WkS.nil{K:W.Frag}{H:Hp}:WkS K H [] []:=⟨rfl,fun j q e=>by simp at e⟩
theorem WkS.snoc{K:W.Frag}{H:Hp}{l:List V}{c:List (Int×List Int)}{q:Int×List Int}{T:Addr}(h:WkS K H l c)(e:ziC K H T q):WkS K H (l++[.ref T]) (c++[q]):=by
 refine⟨by rw[zW,zW,h.1];rfl,fun j r b=>?_⟩
 by_cases g:j<c.length
 ·rw[j9 g] at b
  obtain⟨m,e1,e2⟩:=h.2 j r b;exact⟨m,by rw[j9 (by rw[h.1];exact g)];exact e1,e2⟩
 ·have i:=(zL.mp b).1
  rw[zW] at i;have s:j=c.length:=by simp at i;omega
  subst s;rw[xa (zQ _),wY] at b;cases(show some q=some r from b)
  exact⟨T,by rw[<- h.1,xa (zQ _),wY];rfl,e⟩
end L2
namespace L2
open PySem PySem.W PySem.Spec PyProof.Rows
section
variable{X:Cx}
end
end L2
namespace L2
open PySem PySem.Spec PyProof.Rows
def pr2(q:Int×Int):List V:=[.int q.1,.int q.2]
theorem zeh{p q:Int×Int}(h:pr2 p=pr2 q):p=q:=by
 unfold pr2 at h;have h1:=V.int.inj (List.cons.inj h).1;have h2:=V.int.inj (List.cons.inj (List.cons.inj h).2).1;exact Prod.ext h1 h2
theorem zgy(p q:Int×Int):zb4 (pr2 p) (pr2 q)=decide (p=q):=by
 have e:∀a b:Int,eqV (.int a) (.int b)=decide (a=b):=fun a b=>by
  show(a==b)=_;rw[wB,xr,wE]
 show(eqV (.int p.1) (.int q.1)&&(eqV (.int p.2) (.int q.2)&&true))=_;rw[e,e,Va,wB,j8,wE,wE,wE,Prod.ext_iff]
section
variable{X:Cx}{b:List (Addr×Obj)}{σ:St}{H:Hp}{s:Shared}
theorem zhi(I:Inv X b σ H s){A:Around}(hu:A.units<cLine){a c:Addr}{p q:Int×Int}(hc:SqT X.K H c (pr2 q))(B:SqT X.K H a (pr2 p)):SeqAt.EqAt A s (.ref c) (.ref a) (decide (q=p)):=by
 by_cases e:c=a
 ·subst e
  rw[qk (zeh (I.tuple_inj hc B))];exact YN _
 ·obtain⟨g,C,M,U⟩:=I.tuple hc
  obtain⟨l,D,N,Y⟩:=I.tuple B;have J:=C.length;have L:=D.length;have h:=SeqAt.EqAt.of_refs e (SeqAt.RcAt.tuples (A:=A) (s:=s) (e:=fun j=>eqV ((pr2 q).getD j .non) ((pr2 p).getD j .non)) M N hu (fun j h1 h2=>?_))
  ·rw[z9,z9,<- J,<- L,QU,zgy] at h
   exact h
  ·have m:j<(pr2 q).length:=by rw[z9] at h1;omega
   have u:j<(pr2 p).length:=by rw[z9] at h2;omega
   obtain⟨w1,e1,O⟩:=C.get (i:=j) (x:=(pr2 q)[j]) (qR m);obtain⟨T,e2,Q⟩:=D.get (i:=j) (x:=(pr2 p)[j]) (qR u);have E:g.toArray[j]=w1:=by simpa using (zL.mp e1).2
   have G:l.toArray[j]=T:=by simpa using (zL.mp e2).2
   have w:∀(o:Int×Int) (v:V),v∈pr2 o->jS v=true:=fun o v hv=>by
    rcases qg.mp hv with rfl | hv
    ·rfl
    ·cases zR.mp hv;rfl
   rw[E,G,Ja,Ja,qR m,qR u];exact QV O Q (w _ _ (vY m)) (w _ _ (vY u))
end
section
variable{X:Cx}
end
def eqS:Dat->V->Bool
 | .non,.non=>true
 | .bl a,.bl b=>a==b
 | .bl a,.int b=>(if a then 1 else 0)==b
 | .int a,.bl b=>a==(if b then 1 else 0)
 | .int a,.int b=>a==b
 | .str a,.str b=>a==b
 | _,_=>false
section
variable{X:Cx}
inductive XC(K:W.Frag)(x:V)(y:V)(H:Hp)(Q:VK):Prop
 | mk (d:_) (_:Rep K H d x) (_:jS y=true) (_:Q (.bl (eqS d y)) H):XC K x y H Q
theorem zeA(hu:X.A.units<cLine):OpR X (compareOp .Eq) (XC X.K):=by
 intro A s σ H x y v u Q I w c h;obtain⟨d,m,l,q⟩:=h;have fin:∀{b:Bool},b=eqS d y->SeqAt.RcAt X.A s v u b->wpAny (model X.prog X.w) X.A (compareOp .Eq v u) (fun J G=>∃z C,Inv X A σ C G/\RelV z J/\Q z C) X.xe s:=fun e r=>r _ _ _ _ ⟨.bl _,H,I,rfl,by rw[e];exact q⟩
 cases d with
 | non=>
  cases(show x=_ from m)
  cases(show v=_ from w)
  cases y with
  | non=>cases c;exact fin rfl SeqAt.RcAt.none_none
  | bl b=>cases c;exact fin rfl (SeqAt.RcAt.none_bool b)
  | int b=>obtain⟨t,rfl⟩:=c;exact fin rfl (SeqAt.RcAt.none_int b t)
  | str b=>obtain⟨t,rfl⟩:=c;exact fin rfl (SeqAt.RcAt.none_str b t)
  | _=>exact absurd (show false=true from l) qH
 | bl a=>
  cases(show x=_ from m)
  cases(show v=_ from w)
  cases y with
  | non=>cases c;exact fin rfl (SeqAt.RcAt.bool_none a)
  | bl b=>cases c;exact fin rfl (SeqAt.RcAt.bool_bool a b)
  | int b=>obtain⟨t,rfl⟩:=c;exact fin rfl (SeqAt.RcAt.bool_int a b t)
  | str b=>obtain⟨t,rfl⟩:=c;exact fin rfl (SeqAt.RcAt.bool_str a b t)
  | _=>exact absurd (show false=true from l) qH
 | int a=>
  cases(show x=_ from m)
  obtain⟨i,rfl⟩:=w;cases y with
  | non=>cases c;exact fin rfl (SeqAt.RcAt.int_none a i)
  | bl b=>cases c;exact fin rfl (SeqAt.RcAt.int_bool a i b)
  | int b=>obtain⟨t,rfl⟩:=c;exact fin rfl (SeqAt.RcAt.int_int a i b t)
  | str b=>obtain⟨t,rfl⟩:=c;exact fin rfl (SeqAt.RcAt.int_str a i b t)
  | _=>exact absurd (show false=true from l) qH
 | str a=>
  cases(show x=_ from m)
  obtain⟨i,rfl⟩:=w;cases y with
  | non=>cases c;exact fin rfl (SeqAt.RcAt.str_none a i)
  | bl b=>cases c;exact fin rfl (SeqAt.RcAt.str_bool a i b)
  | int b=>obtain⟨t,rfl⟩:=c;exact fin rfl (SeqAt.RcAt.str_int a i b t)
  | str b=>obtain⟨t,rfl⟩:=c;exact fin rfl (SeqAt.RcAt.str_str a i b t)
  | _=>exact absurd (show false=true from l) qH
 | lst D=>
  obtain⟨a,L,rfl,hq,_⟩:=id m;cases(show v=_ from w)
  obtain⟨B,r,g,E⟩:=I.list hq;cases y with
  | non=>cases c;exact fin rfl (SeqAt.RcAt.list_none g.isList hu)
  | bl b=>cases c;exact fin rfl (SeqAt.RcAt.list_bool b g.isList hu)
  | int b=>obtain⟨t,rfl⟩:=c;exact fin rfl (SeqAt.RcAt.list_int b t g.isList hu)
  | str b=>obtain⟨t,rfl⟩:=c;exact fin rfl (SeqAt.RcAt.list_str b t g.isList hu)
  | _=>exact absurd (show false=true from l) qH
 | tup D=>
  obtain⟨a,L,rfl,hq,_⟩:=id m;cases(show v=_ from w)
  obtain⟨B,r,g,E⟩:=I.tuple hq;cases y with
  | non=>cases c;exact fin rfl (SeqAt.RcAt.tuple_none g hu)
  | bl b=>cases c;exact fin rfl (SeqAt.RcAt.tuple_bool b g hu)
  | int b=>obtain⟨t,rfl⟩:=c;exact fin rfl (SeqAt.RcAt.tuple_int b t g hu)
  | str b=>obtain⟨t,rfl⟩:=c;exact fin rfl (SeqAt.RcAt.tuple_str b t g hu)
  | _=>exact absurd (show false=true from l) qH
end
inductive zfR(K:W.Frag)(x:V)(y:V)(H:Hp)(Q:VK):Prop
 | mk (a b c g:Addr) (k i:Str) (p q:Int×Int) (_:x=.ref a) (_:y=.ref b) (_:SqT K H a [.str k,.ref c]) (_:SqT K H c [.int p.1,.int p.2]) (_:SqT K H b [.str i,.ref g]) (_:SqT K H g [.int q.1,.int q.2]) (_:Q (.bl (!((k==i)&&decide (p=q)))) H):zfR K x y H Q
section
variable{X:Cx}
theorem zex(hu:X.A.units+64<cLine):OpR X (compareOp .NotEq) (zfR X.K):=by
 intro w s σ H x y v u Q I J L h;obtain⟨a,b,c,A,k,g,p,q,rfl,rfl,B,hc,hb,i,r⟩:=h;cases J;cases L;obtain⟨l,E,C,Y⟩:=I.tuple B;obtain⟨m,G,D,z2⟩:=I.tuple hb;obtain⟨T,w1,rfl,⟨M,rfl⟩,e1⟩:=ZI E;obtain⟨U,O,rfl,⟨N,rfl⟩,e2⟩:=ZI G;cases(show w1=Value.ref c from e1)
 cases(show O=Value.ref A from e2)
 refine SeqAt.RcNeAt.tuples (e:=fun j=>if j=0 then(k==g) else decide (p=q)) C D (by omega) (fun j h1 h2=>?_) _ _ _ _ ⟨.bl _,H,I,rfl,?_⟩
 rotate_left
 ·have:((k==g)&&decide (p=q))=(((List.range 2).all fun j=>if j=0 then(k==g) else decide (p=q))&&(2==2)):=by
   show _=(((k==g)&&(decide (p=q)&&true))&&true);rw[Va,Va]
  rw[this] at r;exact r
 match j,h1,h2 with
 | 0,_,_=>exact SeqAt.EqAt.str_str k M g N
 | 1,_,_=>exact zhi I (by show X.A.units+1<cLine;omega) hc i
end
def BoxAt(H:Hp)(b:Addr)(n:Int):Prop:=∃c b1 b2:Int,H b=some (.lst [.int c,.int b1,.int b2])/\0<=c/\0<=b1/\b1<2147483648/\0<=b2/\b2<=n
def SameB(b:Addr)(H g:Hp):Prop:=∀c o,H c=some o->c≠b->g c=some o
theorem ZP{i j:Int}(h1:0<=i)(h2:i<18446744073709551616):CMul i j:=by
 have e1:(-(2^64):Int)= -18446744073709551616:=by decide
 have e2:((2^64):Int)=18446744073709551616:=by decide
 refine .inl ⟨?_,?_⟩
 ·rw[e1];omega
 ·rw[e2];exact h2
theorem zf1{a m j:Int}(h:0<m)(h2:m<18446744073709551616):CMul (a % m) j:=ZP (Ze _ (by omega)) (Int.lt_trans (Zi _ h) h2)
section
variable{P:Program}{w:World}{K:W.Frag}{D:Str->Option Value}{C:Heap}
inductive VU(i:List V)(H:Hp)(Q:VK):Prop
 | mk (b:Addr) (c n:Int) (_:i=[.ref b,.int c]) (_:BoxAt H b n) (_:n<1099511627776) (_:0<c) (_:c<1073741824) (_:∀(r:Int) g,0<=r->r<c->BoxAt g b (n+1)->SameB b H g->Q (.int r) g):VU  i H Q
def xH:Sp:=fun b H Q _=>VU  b H Q
theorem u5{N P:List Str}{S:Scope}(a:S.kind=.function:=by rfl)(b:S.isCoroutine=false:=by rfl)(c:S.isGenerator=false:=by rfl)(d:N.Nodup:=by decide +kernel)(e:N.take P.length=P:=by rfl)(f:∀x∈P,S.names.lookup x=some .local∨S.names.lookup x=some .cell:=by decide +kernel)(g:∀y∈S.names,y.2≠.free:=by decide +kernel):zD N P S:=⟨a,b,c,d,e,f,g⟩
theorem zcJ:zD ["_law_box_here","_law_size","_law_found","_law_step","_law_once","_law_twice"] ["_law_box_here","_law_size"] (zr (topL 36)):=u5
theorem zeF{f:Addr}{N:FuncData}(F:Fun K "_law_take" "_law_take" (topL 36) f N)(B:Blt D):FnOk P w K D C CX0 1 f N ["_law_box_here","_law_size"] xH:=by
 have G:=zcJ.nd;refine F.ok zcJ (fun vs H Q E h=>?_) (fun U A M s H vs Q E hr h=>?_)
 ·obtain⟨b,u,n,rfl,_⟩:=h
  rfl
 ·obtain⟨b,u,n,rfl,⟨I,b1,b2,hb,O,T,m,Y,a0⟩,hn,l,L,k⟩:=h
  refine⟨_,(zf (jq (zF J5 (zx qh (pv 0) ze (fun _ _=>rfl)) ze (zS _))
   (zf (xc (zy WO rfl B.divmod WR (za (zx qh (pv 0) ze (fun _ _=>rfl)) (za (pv 1) zd))) (jN rfl (zK (Zq (pv 0) ze wJ) (zK (zA (i:=2) G rfl (Or.inl rfl)) jv))))
    (zk (zC (pv 2))))
   qy)
   (zf (xc (zH qT (zx qh (pv 0) ze (fun _ _=>rfl)) ze) (Zq (pv 0) ze wJ))
   (zf (zG (i:=3) G rfl (Or.inl rfl) (zH qT ze (zH vk (zx qh (pv 0) ze (fun _ _=>rfl)) (zx qh (pv 0) ze (fun _ _=>rfl)))))
   (zf (zG (i:=4) G rfl (Or.inl rfl) (zH xX (zH vk (zH qT (zx qh (pv 0) ze (fun _ _=>rfl)) (zH vk ze (zx qh (pv 0) ze (fun _ _=>rfl)))) (pv 3)) ze))
   (zf (zG (i:=5) G rfl (Or.inl rfl) (zH xX (zH qT (zH vk (pv 4) (zH qT (zH xX (pv 4) ze) ze)) (zx qh (pv 0) ze (fun _ _=>rfl))) ze))
   (zk (zC (zH xX (zH zaS (zH xX (zH vk (pv 5) (zH qT (zH xX (pv 5) ze) ze)) ze) ze) (pv 1))))))))),?_⟩
  refine⟨_,rfl,b,_,_,_,rfl,rfl,u7 hb,rfl,_,_,rfl,rfl,_,rfl,?_⟩
  refine jX (fun c=>?_) (fun c=>?_)
  ·refine⟨_,rfl,b,_,_,_,rfl,rfl,u7 hb,rfl,_,rfl,_,_,rfl,⟨l,L⟩,fun p hp=>?_⟩
   have J:b≠p:=zg hb hp;refine⟨p,_,rfl,u8 zb,rfl,_,_,rfl,_,rfl,b,_,_,_,rfl,rfl,(by rw[zj J];exact hb),rfl,_,_,rfl,rfl,_,rfl,?_⟩
   refine k _ _ (Ze _ (by omega)) (Zi _ l) ⟨_,b1,b2,zb,Int.ediv_nonneg O (by omega),T,m,Y,by omega⟩ fun d o e hd=>?_
   rw[zj hd,zj (zg e hp)];exact e
  ·refine⟨_,rfl,b,_,_,_,rfl,rfl,u7 hb,rfl,_,_,rfl,rfl,_,rfl,b,_,_,_,rfl,rfl,hb,rfl,?_⟩
   have g:upd H b (.lst [.int I,.int b1,.int (b2+1)]) b=some (.lst [.int I,.int b1,.int (b2+1)]):=zb;refine⟨_,rfl,b,_,_,_,rfl,rfl,u7 g,rfl,_,rfl,b,_,_,_,rfl,rfl,u7 g,rfl,_,_,rfl,rfl,ZP (by omega) (by omega),_,_,rfl,rfl,?_⟩
   refine⟨_,rfl,b,_,_,_,rfl,rfl,u7 g,rfl,_,rfl,b,_,_,_,rfl,rfl,u7 g,rfl,_,_,rfl,rfl,ZP (by omega) (by omega),_,_,rfl,rfl,_,rfl,_,_,rfl,rfl,ZP (by omega) (by omega),_,_,rfl,rfl,(by show(0:Int)<_;decide),?_⟩
   refine⟨_,rfl,_,rfl,_,_,rfl,rfl,(by show(0:Int)<_;decide),_,_,rfl,rfl,_,_,rfl,rfl,zf1 (by decide) (by decide),_,rfl,b,_,_,_,rfl,rfl,u7 g,rfl,_,_,rfl,rfl,_,_,rfl,rfl,(by show(0:Int)<_;decide),?_⟩
   refine⟨_,rfl,_,rfl,_,_,rfl,rfl,(by show(0:Int)<_;decide),_,_,rfl,rfl,_,_,rfl,rfl,zf1 (by decide) (by decide),_,_,rfl,rfl,(by show(0:Int)<_;decide),_,_,rfl,rfl,⟨by decide,by decide⟩,_,rfl,_,_,rfl,rfl,l,?_⟩
   refine k _ _ (Ze _ (by omega)) (Zi _ l) ⟨I,b1,b2+1,g,O,T,m,by omega,by omega⟩ fun d o e hd=>?_
   rw[zj hd];exact e
inductive zaz(K:W.Frag)(b:List V)(H:Hp)(Q:VK):Prop
 | mk (a:Addr) (c:List Int) (j:Nat) (_:b=[.ref a,.int j]) (_:SqL K H a (c.map V.int)) (_:j<=100) (_:∀p o,H p=none->BoxAt (upd H p o) p 0->Q (.ref p) (upd H p o)):zaz K b H Q
def zfy(K:W.Frag):Sp:=fun b H Q _=>zaz K b H Q
theorem zfN:zD ["_law_script","_law_k","_law_cell"] ["_law_script","_law_k"] (zr (topL 35)):=u5
theorem zbg{c:Int}{j:Nat}(b:j<=100):CMul (yS c) (if decide (10^18<=yS c)=true then 1 else 0):=by
 refine .inr ?_
 split
 ·exact⟨by decide,by decide⟩
 ·exact⟨by decide,by decide⟩
theorem zdI{c:Int}:0<=yS c*(if decide (10^18<=yS c)=true then 1 else 0):=by
 have h:0<=yS c:=by unfold yS;split<;>omega
 split
 ·rw[Int.mul_one];exact h
 ·rw[Int.mul_zero];exact X7 0
theorem zgX{f:Addr}{l:FuncData}(F:Fun K "_law_box" "_law_box" (topL 35) f l)(B:Blt D):FnOk P w K D C CX0 1 f l ["_law_script","_law_k"] (zfy K):=by
 have J:=zfN.nd;refine F.ok zfN (fun L H Q E h=>?_) (fun G A g s H L Q E M h=>?_)
 ·obtain⟨a,b,j,rfl,_⟩:=h
  rfl
 ·obtain⟨a,b,j,rfl,m,u,k⟩:=h
  refine⟨_,(zf (zG (i:=2) J rfl (Or.inl rfl) (vf (zF zaR (pv 1) (zy zO rfl B.len boot_len (za (pv 0) zd)) (zS _)) (zx qh (pv 0) (pv 1) (fun _ _=>rfl)) ze))
   (zk (zC (zV (za (zH vk (zy vT rfl B.abs vU (za (pv 2) zd)) (ja yh rfl B.int wW (za (qZ zfW (zy vT rfl B.abs vU (za (pv 2) zd)) (zH zgH ze ze) (zS _)) zd))) (za (zH xX (zH vk (zH qT (zH qT (zH xX (pv 2) ze) (zH vk ze (pv 1))) ze) ze) ze) (za ze zd))))))),?_⟩
  refine⟨_,rfl,_,rfl,a,_,rfl,.inl m,_,_,rfl,rfl,_,rfl,?_⟩
  refine jX (fun c=>?_) (fun c=>?_)
  ·have I:j<b.length:=by
    have:=qQ c;rw[zp] at this;omega
   refine⟨_,rfl,_,rfl,a,_,_,.int b[j],rfl,rfl,m,zY (by simp[I]),?_⟩
   generalize b[j]=z;refine⟨_,rfl,_,rfl,_,rfl,_,rfl,_,_,rfl,rfl,⟨by decide,by decide,by decide⟩,_,_,rfl,rfl,.inr ⟨_,rfl,_,_,rfl,rfl,zbg u,_,rfl,_,_,rfl,rfl,(by show(0:Int)<_;decide),_,rfl,_,_,rfl,rfl,ZP (by decide) (by decide),_,_,rfl,rfl,_,_,rfl,rfl,_,_,rfl,rfl,?_,_,_,rfl,rfl,(by show(0:Int)<_;decide),(by rw[sizeLine_eq];exact(by decide:3<=16777216)),fun p hp=>k p _ hp ⟨_,_,_,zb,?_,?_,?_,by decide,by decide⟩⟩⟩
   ·refine ZP ?_ ?_
    ·have:=Ze z (show(2147483629:Int)≠0 by decide)
     omega
    ·have:=Zi z (show(0:Int)<2147483629 by decide)
     omega
   ·exact zdI
   ·exact Ze _ (by decide)
   ·exact Int.lt_trans (Zi _ (by decide)) (by decide)
  ·refine⟨_,rfl,_,rfl,_,rfl,_,rfl,_,_,rfl,rfl,⟨by decide,by decide,by decide⟩,_,_,rfl,rfl,.inr ⟨_,rfl,_,_,rfl,rfl,zbg u,_,rfl,_,_,rfl,rfl,(by show(0:Int)<_;decide),_,rfl,_,_,rfl,rfl,ZP (by decide) (by decide),_,_,rfl,rfl,_,_,rfl,rfl,_,_,rfl,rfl,?_,_,_,rfl,rfl,(by show(0:Int)<_;decide),(by rw[sizeLine_eq];exact(by decide:3<=16777216)),fun p hp=>k p _ hp ⟨_,_,_,zb,?_,?_,?_,by decide,by decide⟩⟩⟩
   ·refine ZP ?_ ?_
    ·have:=Ze 0 (show(2147483629:Int)≠0 by decide)
     omega
    ·have:=Zi 0 (show(0:Int)<2147483629 by decide)
     omega
   ·exact zdI
   ·exact Ze _ (by decide)
   ·exact Int.lt_trans (Zi _ (by decide)) (by decide)
theorem zdD{b:List V}{lo c:Option Int}{x:V}(h:x∈jE b lo c):x∈b:=List.mem_of_mem_drop (List.mem_of_mem_take h)
theorem XR{n j:Nat}(h:j<n):ixN n (j:Int)=some j:=by
 unfold ixN;rw[zu (by omega),zu (by omega)];simp
theorem zdE(b:List Int)(lo c:Option Int):∃g:List Int,jE (b.map V.int) lo c=g.map V.int:=by
 refine⟨(b.drop (HT.sIx b.length 0 lo)).take (HT.sIx b.length b.length c-HT.sIx b.length 0 lo),?_⟩
 unfold jE;rw[zp,List.map_take,List.map_drop]
theorem zfc(b:List Int)(z:Nat):(jE (b.map V.int) none (some (z:Int))).length=min z b.length:=by
 unfold jE;rw[HT.sIx_nat,HT.sIx_none,qP,ZV,zp];omega
theorem zfd(b:List Int)(z:Nat)(c:Option Int):(jE (b.map V.int) (some (z:Int)) c).length<=b.length-min z b.length:=by
 unfold jE;rw[HT.sIx_nat,qP,ZV,zp];omega
inductive V6(K:W.Frag)(i:List V)(H:Hp)(Q:VK):Prop
 | mk (a:Addr) (g:List Int) (z:Nat) (_:i=[.ref a,.int z]) (_:SqL K H a (g.map V.int)) (_:g.length<=63) (_:1<=z) (_:z<=63) (_:∀(p:Addr) (c:List Int) b,Same H b->SqL K b p (c.map V.int)->c.length<=z->Q (.ref p) b):V6 K i H Q
def zcB(K:W.Frag):Sp:=fun b H Q _=>V6 K b H Q
theorem zcT:zD ["_law_script","_law_size","_law_cells","_law_k","_law_cell"] ["_law_script","_law_size"] (zr (topL 37)):=u5
def zbw(a:_)(z:Nat)(p:_)(H:_)(q:_)(g:List Int):=fun(i:Nat) (σ:St) (b:Hp)=>(Ex3 fun(c:List Int) (l m:Option V)=>An5 (σ=[some (.ref a),some (.int z),some (.ref p),l,m]) (Same H b) (b p=some (.lst (c.map V.int))) (b q=some (.lst (jE (g.map V.int) (some (z:Int)) (some 63)))) (c.length=min z g.length):Prop)
theorem zeR{f:Addr}{fd:FuncData}(F:Fun K "_law_folded" "_law_folded" (topL 37) f fd)(B:Blt D):FnOk P w K D C CX0 1 f fd ["_law_script","_law_size"] (zcB K):=by
 have nd:=zcT.nd;refine F.ok zcT (fun vs H Q E h=>?_) (fun af A ac s H vs Q E hr h=>?_)
 ·obtain⟨a,b,z,rfl,_⟩:=h
  rfl
 ·obtain⟨a,b,z,rfl,hS,ae,ah,ai,k⟩:=h
  refine⟨_,(zf (zG (i:=2) nd rfl (Or.inl rfl) (ja X1 rfl B.list xK (za (xR ya (pv 0) wc (x6 (pv 1))) zd)))
   (zf (qS jr rfl (zep rfl B.enumerate (za (xR ya (pv 0) (x6 (pv 1)) (x6 ze)) zd)) (jN rfl (zK (zA (i:=3) nd rfl (Or.inl rfl)) (zK (zA (i:=4) nd rfl (Or.inl rfl)) jv)))
   (zk (xc (zH qT (zx qh (pv 2) (zH xX (pv 3) (pv 1)) (fun _ _=>rfl)) (zH vk (pv 4) (zH qT (pv 3) ze))) (Zq (pv 2) (zH xX (pv 3) (pv 1)) wJ))))
   (zk (zC (pv 2))))),?_⟩
  refine⟨_,rfl,_,rfl,_,rfl,a,_,rfl,hS,fun l hl=>⟨l,_,rfl,.inl (u7 zb),fun p hp=>?_⟩⟩
  have s1:Same H (upd (upd H l (.lst (jE (b.map V.int) none (some (z:Int))))) p (.lst (jE (b.map V.int) none (some (z:Int))))):=(zc hl).trans (zc hp);generalize Y:upd (upd H l (.lst (jE (b.map V.int) none (some (z:Int))))) p (.lst (jE (b.map V.int) none (some (z:Int))))=H1 at s1;have J:H1 p=some (.lst (jE (b.map V.int) none (some (z:Int)))):=by rw[<- Y];exact zb
  have np:H p=none:=(zc hl).free hp;refine⟨_,rfl,_,rfl,_,rfl,_,rfl,a,_,rfl,s1.seq hS,fun q hq=>⟨q,rfl,⟨_,u7 zb⟩,?_⟩⟩
  have N:p≠q:=zg J hq;obtain⟨a0,m⟩:=zdE b none (some (z:Int));have lo:=zfc b z;have hi:=zfd b z (some 63);refine zdy (K:=K) (a:=q) (xs:=jE (b.map V.int) (some (z:Int)) (some 63)) (zbw a z p H q b)
   ⟨a0,none,none,rfl,s1.trans (zc hq),by rw[zj N,J,m],zb,by rw[<- lo,m,zp]⟩ (fun i σ O _ ⟨_,_,_,_,_,_,h,_⟩=>u7 h) ?_ ?_
  ·rintro i x σ O T hx ⟨G,v3,v4,rfl,U,g,u,I⟩ hT
   have ag:i<(jE (b.map V.int) (some (z:Int)) (some 63)).length:=(zL.mp hx).1;obtain⟨c,rfl⟩:∃c,x=V.int c:=by
    have:=zdD (je hx);obtain⟨c,_,e⟩:=qo.mp this;exact⟨c,e.symm⟩
   have hj:i % z<G.length:=by
    have:=Nat.mod_lt i (show 0<z by omega)
    omega
   have aa:p≠T:=zg g hT;have ab:q≠T:=zg u hT;have L:upd O T (.tup [.int i,.int c]) p=some (.lst (G.map V.int)):=by rw[zj aa];exact g
   have em:((i % z:Nat):Int)=(i:Int) % (z:Int):=Int.natCast_emod i z;have M:(0:Int)<(z:Int):=by omega
   refine⟨T,_,rfl,u8 zb,rfl,_,_,rfl,_,_,rfl,rfl,?_⟩
   refine⟨_,rfl,_,rfl,_,rfl,_,_,rfl,rfl,M,p,_,_,.int G[i % z],rfl,rfl,u7 L,(by rw[<- em];exact zY (by simp[hj])),?_⟩
   refine⟨_,rfl,_,rfl,_,_,rfl,rfl,_,_,rfl,rfl,.inr ⟨?_,?_⟩,_,_,rfl,rfl,?_⟩
   ·have e1:(-(2^64):Int)= -18446744073709551616:=by decide
    rw[e1];omega
   ·have e2:((2^64):Int)=18446744073709551616:=by decide
    rw[e2];omega
   refine⟨_,rfl,_,rfl,_,rfl,_,_,rfl,rfl,M,p,_,_,i % z,rfl,rfl,L,(by rw[<- em,zp];exact XR hj),?_⟩
   refine⟨G.set (i % z) (G[i % z]+c*((i:Int)+2)),_,_,rfl,fun d o e=>?_,by rw[zb,List.map_set],?_,by rw[ZE];exact I⟩
   ·rw[zj (zg e np),zj (zg (U d o e) hT)]
    exact U d o e
   ·rw[zj (qz N),zj ab]
    exact u
  ·rintro σ O ⟨G,v3,v4,rfl,U,g,u,I⟩
   exact⟨_,rfl,k p G O U (u7 g) (by omega)⟩
theorem le0:([]:List V).length<=sizeLine:=qX _
theorem le2{x y:V}:[x,y].length<=sizeLine:=by rw[sizeLine_eq];exact(by decide:2<=16777216)
theorem SameB.refl(b:Addr)(H:Hp):SameB b H H:=fun _ _ e _=>e
def ue:=@SameB.refl
theorem SameB.trans{b:Addr}{H g i:Hp}(a:SameB b H g)(c:SameB b g i):SameB b H i:=fun d o e hd=>c d o (a d o e hd) hd
theorem SameB.of{b:Addr}{H c:Hp}(a:Same H c):SameB b H c:=fun d o e _=>a d o e
def uf:=@SameB.of
theorem SameB.new{b p:Addr}{o:HO}{H c:Hp}(a:SameB b H c)(h:c p=none):SameB b H (upd c p o):=a.trans (.of (zc h))
theorem BoxAt.new{b p:Addr}{o:HO}{H:Hp}{n:Int}(a:BoxAt H b n)(h:H p=none):BoxAt (upd H p o) b n:=by
 obtain⟨c,b1,b2,e,r⟩:=a;exact⟨c,b1,b2,by rw[zj (zg e h)];exact e,r⟩
theorem BoxAt.same{b:Addr}{H c:Hp}{n:Int}(a:BoxAt H b n)(s:Same H c):BoxAt c b n:=by
 obtain⟨g,b1,b2,e,r⟩:=a;exact⟨g,b1,b2,s _ _ e,r⟩
theorem BoxAt.ne{b t:Addr}{H:Hp}{n:Int}{o:HO}(a:BoxAt H b n)(h:H t=some o)(c:∀x y z,o≠.lst [x,y,z]):t≠b:=by
 obtain⟨g,b1,b2,e,r⟩:=a;exact zaT h e (c _ _ _)
theorem BoxAt.some{b:Addr}{H:Hp}{n:Int}(a:BoxAt H b n):∃o,H b=.some o:=let ⟨_,_,_,e,_⟩:=a;⟨_,e⟩
theorem BoxAt.mono{b:Addr}{H:Hp}{n m:Int}(a:BoxAt H b n)(h:n<=m):BoxAt H b m:=by
 obtain⟨c,b1,b2,e,g,i,l,s,u⟩:=a;exact⟨c,b1,b2,e,g,i,l,s,by omega⟩
theorem le1{x:V}:[x].length<=sizeLine:=by rw[sizeLine_eq];exact(by decide:1<=16777216)
theorem le3{x y z:V}:[x,y,z].length<=sizeLine:=by rw[sizeLine_eq];exact(by decide:3<=16777216)
theorem le4{x y z u:V}:[x,y,z,u].length<=sizeLine:=by rw[sizeLine_eq];exact(by decide:4<=16777216)
theorem leN{b:List V}(h:b.length<=1000):b.length<=sizeLine:=by rw[sizeLine_eq];omega
theorem X4{α:Type}{xs:List α}{i:Int}(h:0<=i)(c:i<xs.length):∃v,atI xs i=some v/\xs[i.toNat]? =some v:=by
 have b:i.toNat<xs.length:=by omega
 refine⟨xs[i.toNat],?_,by simp[b]⟩
 have:=zY (xs:=xs) (j:=i.toNat) (v:=xs[i.toNat]) (by simp[b])
 rwa[show((i.toNat:Nat):Int)=i by omega] at this
theorem fm{α:V->Prop}{x:V}{b:List V}(h:α x)(hs:∀y∈b,α y):∀y∈x::b,α y:=fun y hy=>(qg.mp hy).elim (fun e=>e▸h) (hs y)
theorem SameB.put{b m:Addr}{H g:Hp}{o:HO}(s:SameB b H g)(h:H m=none):SameB b H (upd g m o):=fun c u e hc=>by
 rw[zj (zg e h)];exact s c u e hc
theorem SameB.none{b m:Addr}{H c:Hp}(s:SameB b H c)(h:c m=none)(g:m≠b):H m=none:=by
 cases q:H m with
 | none=>rfl
 | some o=>have:=s m o q g;rw[h] at this;cases this
def wu(x:Str):Prop:=(x.cps.toList.map WA).all id=true
theorem zg2{r:Int}(h0:0<=r)(h1:r<26):∃c,atI zhX.cps.toList r=some c/\WA c=true:=by
 rw[zdn];obtain⟨c,e,b⟩:=X4 (xs:=List.range' 97 26) h0 (by rw[List.length_range'];omega)
 have g:=List.mem_range'_1.mp (je b);refine⟨c,e,?_⟩
 unfold WA;rw[qk (by omega),qk (by omega)]
 rfl
theorem zdm{c:Nat}{y:Str}(h:WA c=true)(hy:wu y):wu ((⟨#[c]⟩:Str)++y):=by
 unfold wu at hy ⊢;show((#[c]++y.cps).toList.map WA).all id=true;rw[Array.toList_append,zM,List.all_append,hy,Va];show(WA c&&true)=true;rw[h];rfl
theorem zdo{c:Nat}{y:Str}:((⟨#[c]⟩:Str)++y).length=y.length+1:=by
 show(#[c]++y.cps).size=y.cps.size+1;rw[Array.size_append];show 1+_=_;omega
theorem BoxAt.nne{b p:Addr}{H:Hp}{n:Int}(a:BoxAt H b n)(h:H p=none):p≠b:=by
 obtain⟨o,e⟩:=a.some;exact(zg e h).symm
theorem BoxAt.other{b l:Addr}{H:Hp}{n:Int}{o:HO}(a:BoxAt H b n)(h:l≠b):BoxAt (upd H l o) b n:=by
 obtain⟨c,b1,b2,e,r⟩:=a;exact⟨c,b1,b2,by rw[zj (qz h)];exact e,r⟩
def Nm(x:Str):Prop:=x.length<=8/\∀c∈x.cps.toList,c<1000000
theorem zih{x:Str}(h:x.length<=8)(l:wu x):Nm x:=⟨h,fun c hc=>by
 unfold wu at l;have:=xB.mp l (WA c) (qo.mpr ⟨c,hc,rfl⟩);unfold WA at this;simp at this;omega⟩
theorem vI:∀(b:List Str),(b.map V.str).all jS=true
 | []=>rfl
 | n::b=>by
  show(true&&(b.map V.str).all jS)=true;rw[vI b];rfl
inductive JQ(g:List V)(H:Hp)(Q:VK):Prop
 | mk (c b:Int) (_:g=[.int c,.int b]) (_:0<=c) (_:1<=b) (_:b<=8) (_:∀y:Str,(y.length:Int)=b->wu y->Q (.str y) H):JQ  g H Q
def zah:Sp:=fun b H Q _=>JQ  b H Q
theorem zaE:zD ["_law_number","_law_size","_law_word","_law_k"] ["_law_number","_law_size"] (zr (topL 38)):=u5
def zbv(c:_)(H:_):=fun(i:Nat) (σ:St) (g:Hp)=>(Ex3 fun(b:Int) (y:Str) (l:Option V)=>An5 (σ=[some (.int b),some (.int c),some (.str y),l]) (0<=b) (y.length=i) (wu y) (g=H):Prop)
theorem zdd{f:Addr}{J:FuncData}(F:Fun K "_law_spelled" "_law_spelled" (topL 38) f J)(B:Blt D):FnOk P w K D C CX0 1 f J ["_law_number","_law_size"] zah:=by
 have u:=zaE.nd;refine F.ok zaE (fun vs H Q E h=>?_) (fun T A I s H vs Q E hr h=>?_)
 ·obtain⟨m,g,rfl,_⟩:=h
  rfl
 ·obtain⟨m,g,rfl,Y,s0,s1,k⟩:=h
  have L:=bG100000;have l:=bGe;refine⟨_,(zf (zG (i:=2) u rfl (Or.inl rfl) jz)
   (zf (qS jr rfl (qN rfl B.range (za (pv 1) zd)) (zA (i:=3) u rfl (Or.inl rfl))
   (zf (zG (i:=2) u rfl (Or.inl rfl) (zH Yp (zx zha jz (zH xX (pv 0) ze) (fun _ _=>rfl)) (pv 2)))
    (zk (zG (i:=0) u rfl (Or.inl rfl) (zH zaS (pv 0) ze)))))
   (zk (zC (pv 2))))),?_⟩
  refine⟨_,rfl,_,rfl,(by rw[l];omega),(by rw[l];omega),?_⟩
  refine ju (zbv g H) ⟨m,_,_,rfl,Y,rfl,rfl,rfl⟩ ?_ ?_
  ·rintro i σ O hi ⟨b,y,v3,rfl,N,M,G,rfl⟩
   obtain⟨c,hc,U⟩:=zg2 (r:=b % 26) (Ze _ (by decide)) (Zi _ (by decide))
   refine⟨_,rfl,_,_,rfl,rfl,(by show(0:Int)<26;decide),_,_,c,rfl,rfl,(by rw[sizeLine_eq];decide),hc,_,rfl,_,_,rfl,rfl,?_,?_⟩
   ·show 1+y.length<=sizeLine
    omega
   ·exact⟨_,rfl,_,_,rfl,rfl,⟨by decide,by decide⟩,_,_,_,rfl,Int.ediv_nonneg N (by decide),by rw[zdo,M],zdm U G,rfl⟩
  ·rintro σ O ⟨b,y,v3,rfl,N,M,G,rfl⟩
   exact⟨_,rfl,k y (by omega) G⟩
inductive zar(i:List V)(H:Hp)(Q:VK):Prop
 | mk (b t:Addr) (n:Int) (g:List Str) (_:i=[.ref b,.ref t]) (_:BoxAt H b n) (_:n<1099511000000) (_:t≠b) (_:H t=some (.lst (g.map V.str))) (_:g.length<=1000) (_:∀(y:Str) c,SameB b H c->BoxAt c b (n+12)->1<=y.length->y.length<=8->wu y->Q (.str y) c):zar  i H Q
def zft:Sp:=fun b H Q _=>zar  b H Q
theorem zfE:zD ["_law_box_here","_law_taken","_law_size","_law_number","_law_k","_law_word","_law_turn"] ["_law_box_here","_law_taken"] (zr (topL 39)):=u5
theorem zgB{r:Int}(h0:0<=r)(h1:r<4):∃z:Int,atI [V.int 3,V.int 3,V.int 3,V.int 8] r=some (.int z)/\3<=z/\z<=8:=by
 have hc:r=0\/r=1\/r=2\/r=3:=by omega
 rcases hc with rfl | rfl | rfl | rfl
 ·exact⟨3,rfl,by decide,by decide⟩
 ·exact⟨3,rfl,by decide,by decide⟩
 ·exact⟨3,rfl,by decide,by decide⟩
 ·exact⟨8,rfl,by decide,by decide⟩
def zbu(b:_)(t:_)(l:_)(H:_)(n:_):=fun(i:Nat) (σ:St) (g:Hp)=>(Ex2 fun(c:Int) (m:Option V)=>An4 (σ=[some (.ref b),some (.ref t),some (.int (1+l)),some (.int c),m,none,none]) (0<=c) (SameB b H g) (BoxAt g b (n+2+i)):Prop)
def zbt(b:_)(t:_)(m:_)(c:_)(g:_):=fun(i:Nat) (σ:St) (l:Hp)=>(Ex3 fun(s u:Option V) (y:Str)=>An5 (σ=[some (.ref b),some (.ref t),some (.int (1+m)),some (.int c),s,some (.str y),u]) (1<=y.length) (y.length<=8) (wu y) (l=g):Prop)
theorem zgO{f:Addr}{fd:FuncData}(F:Fun K "_law_name" "_law_name" (topL 39) f fd)(B:Blt D)(m:Dfn P w K D C "_law_take" 1 ["_law_box_here","_law_size"] xH)(g:Dfn P w K D C "_law_spelled" 1 ["_law_number","_law_size"] zah):FnOk P w K D C CX0 2 f fd ["_law_box_here","_law_taken"] zft:=by
 have G:=zfE.nd;refine F.ok zfE (fun vs H Q E h=>?_) (fun ae A ac s H vs Q E L h=>?_)
 ·obtain⟨b,t,n,O,rfl,_⟩:=h
  rfl
 ·obtain⟨b,t,n,O,rfl,B0,hn,ab,ht,af,k⟩:=h
  have u:=bGe;refine⟨_,(zf (zG (i:=2) G rfl (Or.inl rfl) (zH qT ze (zi m L.m rfl (za (pv 0) (za (zx qh (zV (za ze (za ze (za ze (za ze zd))))) (zi m L.m rfl (za (pv 0) (za ze zd))) (fun _ _=>rfl)) zd)))))
   (zf (zG (i:=3) G rfl (Or.inl rfl) ze)
   (zf (qS jr rfl (qN rfl B.range (za (pv 2) zd)) (zA (i:=4) G rfl (Or.inl rfl))
   (zk (zG (i:=3) G rfl (Or.inl rfl) (zH qT (zH vk (pv 3) ze) (zi m L.m rfl (za (pv 0) (za ze zd)))))))
   (zf (zG (i:=5) G rfl (Or.inl rfl) (zi g L.m rfl (za (pv 3) (za (pv 2) zd))))
   (zf (qS jr rfl (qN rfl B.range (za (zH qT (zy zO rfl B.len boot_len (za (pv 1) zd)) ze) zd)) (zA (i:=6) G rfl (Or.inl rfl))
   (zk (jq (zF jJ (pv 5) (pv 1) (by with_unfolding_all rfl))
    (zk (zG (i:=5) G rfl (Or.inl rfl) (zi g L.m rfl (za (zH qT (pv 3) (pv 6)) (za ze zd)))))
    qy)))
   (zk (zC (pv 5)))))))),?_⟩
  refine⟨_,rfl,le4,fun l hl=>⟨_,rfl,b,4,n,rfl,B0.new hl,by omega,by decide,by decide,fun r H1 r0 r1 B1 S1=>?_⟩⟩
  have L1:=S1 l _ (zb (H:=H)) ((B0.new hl).ne (zb (H:=H) (o:=.lst [.int 3,.int 3,.int 3,.int 8])) (by intro x y z e;cases e))
  have U:=((ue b H).new (o:=.lst [.int 3,.int 3,.int 3,.int 8]) hl).trans S1;obtain⟨z,ez,z0,z1⟩:=zgB r0 r1;refine⟨l,_,_,_,rfl,rfl,u7 L1,ez,b,z,n+1,rfl,B1,by omega,by omega,by omega,fun r2 H2 a0 a1 B2 S2=>⟨_,_,rfl,rfl,?_⟩⟩
  have Y:=U.trans S2;refine⟨_,rfl,_,rfl,(by rw[u];omega),(by rw[u];omega),?_⟩
  refine ju (zbu b t r2 H n) ⟨0,_,rfl,by decide,Y,B2.mono (by omega)⟩ ?_ ?_
  ·rintro i σ H4 hi ⟨I,v4,rfl,m0,N,T⟩
   refine⟨_,rfl,_,_,rfl,rfl,.inr ⟨by decide,by decide⟩,_,rfl,b,26,_,rfl,T,by omega,by decide,by decide,fun r3 H5 c0 c1 B5 S5=>⟨_,_,rfl,rfl,_,_,rfl,?_,N.trans S5,B5.mono (by omega)⟩⟩
   omega
  ·rintro σ H4 ⟨I,v4,rfl,m0,N,T⟩
   refine⟨_,rfl,_,rfl,I,1+r2,rfl,m0,by omega,by omega,fun y ly J=>?_⟩
   have M:=N t _ ht ab;have el:(O.map V.str).length=O.length:=zp ..;refine⟨_,rfl,t,_,rfl,.inl (u7 M),_,_,rfl,rfl,_,rfl,(by rw[u,el];omega),(by rw[u,el];omega),?_⟩
   refine ju (zbt b t r2 I H4) ⟨_,_,y,rfl,by omega,by omega,J,rfl⟩ ?_ ?_
   ·rintro i σ H5 hi ⟨v4,v6,y,rfl,y0,y1,J,rfl⟩
    refine⟨_,rfl,_,rfl,t,_,rfl,.inl (u7 M),rfl,vI O,_,rfl,jX (fun c=>?_) (fun c=>⟨_,_,y,rfl,y0,y1,J,rfl⟩)⟩
    exact⟨_,rfl,_,rfl,_,_,rfl,rfl,_,8,rfl,by omega,by decide,by decide,fun y' ag aa=>⟨_,_,y',rfl,by omega,by omega,aa,rfl⟩⟩
   ·rintro σ H5 ⟨v4,v6,y,rfl,y0,y1,J,rfl⟩
    exact⟨_,rfl,k y _ N (T.mono (by omega)) y0 y1 J⟩
def Row(H:Hp)(l:Addr)(b:List Str):Prop:=H l=some (.lst (b.map V.str))/\∀x∈b,Nm x
theorem Row.same{H b:Hp}{l:Addr}{c:List Str}(r:Row H l c)(s:Same H b):Row b l c:=⟨s _ _ r.1,r.2⟩
theorem Row.draw{H c:Hp}{b l:Addr}{g:List Str}(r:Row H l g)(s:SameB b H c)(h:l≠b):Row c l g:=⟨s _ _ r.1 h,r.2⟩
inductive JV(i:List V)(H:Hp)(Q:VK):Prop
 | mk (b:Addr) (m n:Int) (_:i=[.ref b,.int m]) (_:BoxAt H b n) (_:n<1000000) (_:0<=m) (_:m<=12) (_:∀(l:Addr) (g:List Str) c,SameB b H c->BoxAt c b (n+150)->l≠b->H l=none->Row c l g->(g.length:Int)=m->Q (.ref l) c):JV  i H Q
def zaq:Sp:=fun b H Q _=>JV  b H Q
theorem zaH:zD ["_law_box_here","_law_many","_law_found","_law_k"] ["_law_box_here","_law_many"] (zr (topL 40)):=u5
def zbs(b:_)(m:_)(l:_)(H:_)(n:_):=fun(i:Nat) (σ:St) (c:Hp)=>(Ex2 fun(g:List Str) (s:Option V)=>An5 (σ=[some (.ref b),some (.int m),some (.ref l),s]) (SameB b H c) (BoxAt c b (n+12*i)) (Row c l g) (g.length=i):Prop)
theorem zdg{f:Addr}{Y:FuncData}(F:Fun K "_law_names" "_law_names" (topL 40) f Y)(B:Blt D)(c:Dfn P w K D C "_law_name" 2 ["_law_box_here","_law_taken"] zft):FnOk P w K D C CX0 3 f Y ["_law_box_here","_law_many"] zaq:=by
 have nd:=zaH.nd;refine F.ok zaH (fun vs H Q E h=>?_) (fun aa A N s H vs Q E hr h=>?_)
 ·obtain⟨b,m,n,rfl,_⟩:=h
  rfl
 ·obtain⟨b,m,n,rfl,O,hn,m0,m1,k⟩:=h
  have a0:=bG100000;have G:=bGe;refine⟨_,(zf (zG (i:=2) nd rfl (Or.inl rfl) (zV zd))
   (zf (qS jr rfl (qN rfl B.range (za (pv 1) zd)) (zA (i:=3) nd rfl (Or.inl rfl))
   (zk (qK (jO jV xG xF qF (pv 2) (za (zi c hr.m rfl (za (pv 0) (za (pv 2) zd))) zd)))))
   (zk (zC (pv 2))))),?_⟩
  refine⟨le0,fun l I=>?_⟩
  have nl:=O.nne I;refine⟨_,rfl,_,rfl,(by rw[G];omega),(by rw[G];omega),?_⟩
  refine ju (zbs b m l H n) ⟨[],_,rfl,(ue b H).new I,(O.new I).mono (by omega),⟨zb,fun x h=>nomatch h⟩,rfl⟩ ?_ ?_
  ·rintro i σ T hi ⟨J,v3,rfl,M,L,u,g⟩
   refine⟨_,rfl,.inl ⟨rfl,_,u7 u.1⟩,_,rfl,_,rfl,b,l,_,J,rfl,L,by omega,nl,u.1,by omega,fun y H5 U B5 y0 y1 al=>⟨l,_,_,rfl,rfl,(u.draw U nl).1,by rw[zp,g];omega,?_⟩⟩
   refine⟨J++[y],_,rfl,(M.trans U).put I,(B5.other nl).mono (by omega),⟨by rw[zb,zM];rfl,fun x hx=>?_⟩,by rw[zW,g];rfl⟩
   rcases zP.mp hx with q | q
   ·exact u.2 x q
   ·rw[zR.mp q];exact zih y1 al
  ·rintro σ T ⟨J,v3,rfl,M,L,u,g⟩
   exact⟨_,rfl,k l J T M (L.mono (by omega)) nl I u (by omega)⟩
def PlA(H:Hp)(a:Addr):Prop:=∃x y:Int,H a=some (.tup [.int x,.int y])/\0<=x/\x<=1000/\0<=y/\y<=1000
theorem PlA.imp{H b:Hp}{a:Addr}(h:PlA H a)(f:∀o,H a=some o->b a=some o):PlA b a:=let ⟨x,y,e,r⟩:=h;⟨x,y,f _ e,r⟩
theorem PlA.draw{H c:Hp}{a b:Addr}{n:Int}(h:PlA H a)(B:BoxAt H b n)(s:SameB b H c):PlA c a:=by
 obtain⟨x,y,e,r⟩:=h;obtain⟨i,b1,b2,g,_⟩:=B;exact⟨x,y,s a _ e (zaT e g (by intro z;cases z)),r⟩
inductive JS(K:W.Frag)(i:List V)(H:Hp)(Q:VK):Prop
 | mk (b t:Addr) (n:Int) (g:List Addr) (_:i=[.ref b,.ref t]) (_:BoxAt H b n) (_:n<1099511627000) (_:t≠b) (_:H t=some (.lst (g.map V.ref))) (_:g.length<=1000) (_:(∀a∈g,PlA H a)) (_:∀(p:Addr) c,SameB b H c->BoxAt c b (n+3)->H p=none->PlA c p->Q (.ref p) c):JS K i H Q
def Qc(K:W.Frag):Sp:=fun b H Q _=>JS K b H Q
theorem zaF:zD ["_law_box_here","_law_taken","_law_most","_law_x","_law_y","_law_turn"] ["_law_box_here","_law_taken"] (zr (topL 41)):=u5
def zbr(b:_)(t:_)(y:_)(H:_)(n:_):=fun(i:Nat) (σ:St) (c:Hp)=>(Ex3 fun(g l:Option V) (x:Int)=>An5 (σ=[some (.ref b),some (.ref t),g,some (.int x),some (.int y),l]) (0<=x) (x<=1000) (SameB b H c) (BoxAt c b (n+1+1+1)):Prop)
theorem zde{f:Addr}{fd:FuncData}(F:Fun K "_law_place" "_law_place" (topL 41) f fd)(B:Blt D)(g:Dfn P w K D C "_law_take" 1 ["_law_box_here","_law_size"] xH):FnOk P w K D C CX0 2 f fd ["_law_box_here","_law_taken"] (Qc K):=by
 have N:=zaF.nd;refine F.ok zaF (fun vs H Q E h=>?_) (fun a0 A Y s H vs Q E M h=>?_)
 ·obtain⟨b,t,n,O,rfl,_⟩:=h
  rfl
 ·obtain⟨b,t,n,O,rfl,B0,hn,L,ht,aa,pa,k⟩:=h
  have J:=M.units;have I:=bGe;have el:(O.map V.ref).length=O.length:=zp ..;refine⟨_,(zf (zG (i:=2) N rfl (Or.inl rfl) (vf (zF xm (zi g M.m rfl (za (pv 0) (za ze zd))) ze (zS _)) ze ze))
   (zf (QA (i:=3) (j:=4) rfl N rfl rfl (by decide) rfl rfl (za (zi g M.m rfl (za (pv 0) (za (pv 2) zd))) (za (zi g M.m rfl (za (pv 0) (za (pv 2) zd))) zd)) (by rfl))
   (zf (qS jr rfl (qN rfl B.range (za (zH qT (zy zO rfl B.len boot_len (za (pv 1) zd)) ze) zd)) (zA (i:=5) N rfl (Or.inl rfl))
   (zk (jq (zF (zey J) (qB (za (pv 3) (za (pv 4) zd))) (pv 1) (by with_unfolding_all rfl))
    (zk (zG (i:=3) N rfl (Or.inl rfl) (zH xX (zH qT (pv 3) ze) ze)))
    qy)))
   (zk (zC (qB (za (pv 3) (za (pv 4) zd)))))))),?_⟩
  refine⟨_,rfl,b,4,n,rfl,B0,by omega,by decide,by decide,fun r H1 r0 r1 B1 S1=>⟨rfl,_,rfl,jX (fun c=>?_) (fun c=>?_)⟩⟩
  all_goals
   refine⟨_,rfl,_,rfl,b,_,n+1,rfl,B1,by omega,by decide,by decide,fun x H2 x0 x1 B2 S2=>⟨_,rfl,_,rfl,b,_,n+1+1,rfl,B2,by omega,by decide,by decide,fun y H3 y0 y1 B3 S3=>⟨_,_,rfl,?_⟩⟩⟩
   have S4:=S1.trans (S2.trans S3);have U:=S4 t _ ht L;refine⟨_,rfl,t,_,rfl,.inl (u7 U),_,_,rfl,rfl,_,rfl,(by rw[I,el];omega),(by rw[I,el];omega),?_⟩
   refine ju (zbr b t y H n) ⟨_,none,x,rfl,x0,by omega,S4,B3⟩ ?_ ?_
   ·rintro i σ H4 _ ⟨v2,v5,x,rfl,m,u,l,G⟩
    refine⟨_,rfl,_,rfl,le2,fun p hp=>⟨_,rfl,p,t,_,_,rfl,rfl,u8 zb,rfl,u7 ((l.new hp) t _ ht L),fun v hv=>?_,fun q=>⟨_,rfl,jX (fun d=>?_) (fun d=>?_)⟩⟩⟩
    ·obtain⟨c,hc,rfl⟩:=qo.mp hv
     obtain⟨cx,cy,T,_⟩:=(pa c hc).draw B0 (l.new (o:=.tup [.int x,.int y]) hp);exact⟨c,_,rfl,u8 T,rfl⟩
    ·exact⟨_,rfl,_,_,rfl,rfl,_,_,rfl,rfl,(by show(0:Int)<1001;decide),_,_,_,rfl,Ze _ (by decide),by have:=Zi (x+1) (by decide:(0:Int)<1001);omega,l.new hp,G.new hp⟩
    ·exact⟨_,_,x,rfl,m,u,l.new hp,G.new hp⟩
   ·rintro σ H4 ⟨v2,v5,x,rfl,m,u,l,G⟩
    have B6:BoxAt H4 b (n+3):=by
     have e:n+3=n+1+1+1:=by omega
     rw[e];exact G
    exact⟨_,rfl,_,rfl,le2,fun p hp=>k p _ (l.new hp) (B6.new hp) (l.none hp (G.nne hp)) ⟨x,y,zb,m,u,y0,by omega⟩⟩
inductive Qq(i:List V)(H:Hp)(Q:VK):Prop
 | mk (b:Addr) (m n:Int) (_:i=[.ref b,.int m]) (_:BoxAt H b n) (_:n<1000000) (_:0<=m) (_:m<=100) (_:∀(l:Addr) (g:List Addr) c,SameB b H c->BoxAt c b (n+400)->l≠b->H l=none->c l=some (.lst (g.map V.ref))->(∀a∈g,PlA c a)->(g.length:Int)=m->Q (.ref l) c):Qq  i H Q
def VZ:Sp:=fun b H Q _=>Qq  b H Q
theorem Wa:zD ["_law_box_here","_law_many","_law_found","_law_k"] ["_law_box_here","_law_many"] (zr (topL 42)):=u5
def zbq(b:_)(m:_)(l:_)(H:_)(n:_):=fun(i:Nat) (σ:St) (c:Hp)=>(Ex2 fun(g:List Addr) (s:Option V)=>An6 (σ=[some (.ref b),some (.int m),some (.ref l),s]) (SameB b H c) (BoxAt c b (n+3*i)) (c l=some (.lst (g.map V.ref))) ((∀a∈g,PlA c a)) (g.length=i):Prop)
theorem zbK{f:Addr}{fd:FuncData}(F:Fun K "_law_places" "_law_places" (topL 42) f fd)(B:Blt D)(c:Dfn P w K D C "_law_place" 2 ["_law_box_here","_law_taken"] (Qc K)):FnOk P w K D C CX0 3 f fd ["_law_box_here","_law_many"] VZ:=by
 have nd:=Wa.nd;refine F.ok Wa (fun vs H Q E h=>?_) (fun aa A U s H vs Q E hr h=>?_)
 ·obtain⟨b,m,n,rfl,_⟩:=h
  rfl
 ·obtain⟨b,m,n,rfl,Y,hn,m0,m1,k⟩:=h
  have a0:=bG100000;have J:=bGe;refine⟨_,(zf (zG (i:=2) nd rfl (Or.inl rfl) (zV zd))
   (zf (qS jr rfl (qN rfl B.range (za (pv 1) zd)) (zA (i:=3) nd rfl (Or.inl rfl))
   (zk (qK (jO jV xG xF qF (pv 2) (za (zi c hr.m rfl (za (pv 0) (za (pv 2) zd))) zd)))))
   (zk (zC (pv 2))))),?_⟩
  refine⟨le0,fun l L=>?_⟩
  have nl:=Y.nne L;refine⟨_,rfl,_,rfl,(by rw[J];omega),(by rw[J];omega),?_⟩
  refine ju (zbq b m l H n) ⟨[],_,rfl,(ue b H).new L,(Y.new L).mono (by omega),zb,(fun x h=>nomatch h),rfl⟩ ?_ ?_
  ·rintro i σ H4 hi ⟨I,v3,rfl,T,M,G,N,u⟩
   refine⟨_,rfl,.inl ⟨rfl,_,u7 G⟩,_,rfl,_,rfl,b,l,_,I,rfl,M,by omega,nl,G,by omega,N,fun p H5 O B5 pN pp=>⟨l,_,_,rfl,rfl,O l _ G nl,by rw[zp,u];omega,?_⟩⟩
   have L5:=O l _ G nl;have g:∀{a:Addr},PlA H5 a->PlA (upd H5 l (.lst (I.map V.ref++[.ref p]))) a:=fun {a} h=>by
    obtain⟨x,y,e,r⟩:=h;exact⟨x,y,by rw[zj (zaT e L5 (by intro z;cases z))];exact e,r⟩
   refine⟨I++[p],_,rfl,(T.trans O).put L,(B5.other nl).mono (by omega),by rw[zb,zM];rfl,fun a ha=>?_,by rw[zW,u];rfl⟩
   rcases zP.mp ha with q | q
   ·exact g ((N a q).draw M O)
   ·rw[zR.mp q];exact g pp
  ·rintro σ H4 ⟨I,v3,rfl,T,M,G,N,u⟩
   exact⟨_,rfl,k l I H4 T (M.mono (by omega)) nl L G N (by omega)⟩
inductive VW(K:W.Frag)(i:List V)(H:Hp)(Q:VK):Prop
 | mk (b a:Addr) (n:Int) (g:List V) (_:i=[.ref b,.ref a]) (_:BoxAt H b n) (_:n<1000000) (_:a≠b) (_:H a=some (.lst g)) (_:g.length<=1000) (_:∀(l:Addr) (m:List V) c,SameB b H c->BoxAt c b (n+g.length)->l≠b->H l=none->c l=some (.lst m)->m.Perm g->Q (.ref l) c):VW K i H Q
def XF(K:W.Frag):Sp:=fun b H Q _=>VW K b H Q
theorem zcK:zD ["_law_box_here","_law_some","_law_found","_law_one"] ["_law_box_here","_law_some"] (zr (topL 43)):=u5
def zbp(b:_)(a:_)(l:_)(H:_)(n:_)(g:List V):=fun(i:Nat) (σ:St) (c:Hp)=>(Ex2 fun(m:List V) (s:Option V)=>An6 (σ=[some (.ref b),some (.ref a),some (.ref l),s]) (SameB b H c) (BoxAt c b (n+i)) (c a=some (.lst g)) (c l=some (.lst m)) (m.Perm (g.take i)):Prop)
theorem zeG{f:Addr}{fd:FuncData}(F:Fun K "_law_shuffled" "_law_shuffled" (topL 43) f fd)(B:Blt D)(c:Dfn P w K D C "_law_take" 1 ["_law_box_here","_law_size"] xH):FnOk P w K D C CX0 2 f fd ["_law_box_here","_law_some"] (XF K):=by
 have nd:=zcK.nd;refine F.ok zcK (fun vs H Q E h=>?_) (fun ab A a0 s H vs Q E hr h=>?_)
 ·obtain⟨b,a,n,m,rfl,_⟩:=h
  rfl
 ·obtain⟨b,a,n,m,rfl,B0,hn,U,T,ac,k⟩:=h
  have aa:=bG100000;have O:=bGe;refine⟨_,(zf (zG (i:=2) nd rfl (Or.inl rfl) (zV zd))
   (zf (qS jr rfl (qD (pv 1)) (zA (i:=3) nd rfl (Or.inl rfl))
   (zk (qK (jO jV PySem.F.slot_list_insert PySem.F.type_list_insert zbP (pv 2) (za (zi c hr.m rfl (za (pv 0) (za (zH qT (zy zO rfl B.len boot_len (za (pv 2) zd)) ze) zd))) (za (pv 3) zd))))))
   (zk (zC (pv 2))))),?_⟩
  refine⟨le0,fun l g=>?_⟩
  have nl:=B0.nne g;have Y:a≠l:=zg T g;refine⟨_,rfl,a,rfl,⟨_,u7 ((zc g) _ _ T)⟩,jG (K:=K) (a:=a) (xs:=m) (zbp b a l H n m)
   ⟨[],_,rfl,(ue b H).new g,(B0.new g).mono (by omega),(zc g) _ _ T,zb,.nil⟩ (fun i σ L _ ⟨_,_,_,_,_,h,_,_⟩=>u7 h) ?_ ?_⟩
  ·rintro i x σ L hx ⟨I,v3,rfl,M,J,A4,u,G⟩
   have hi:=(zL.mp hx).1;have yl:I.length=i:=by rw[G.length_eq,qP];omega
   refine⟨_,rfl,.inl ⟨rfl,_,u7 u⟩,_,rfl,_,rfl,l,_,rfl,.inl (u7 u),_,_,rfl,rfl,b,_,_,rfl,J,by omega,by omega,by omega,fun q H5 q0 q1 B5 N=>⟨_,rfl,?_⟩⟩
   refine⟨l,I,q,x,rfl,rfl,N l _ u nl,q0,by rw[O];omega,by omega,?_⟩
   refine⟨_,_,rfl,(M.trans N).put g,(B5.other nl).mono (by omega),by rw[zj Y];exact N a _ A4 U,zb,?_⟩
   have e1:m.take (i+1)=m.take i++[x]:=by
    obtain⟨h1,h2⟩:=zL.mp hx;rw[<- h2,yy]
   rw[e1];refine List.perm_middle.trans ?_
   rw[List.take_append_drop];exact((List.Perm.cons x G).trans (List.perm_append_singleton x _).symm)
  ·rintro σ L ⟨I,v3,rfl,M,J,A4,u,G⟩
   rw[qY] at G;exact⟨_,rfl,k l I L M J nl g u G⟩
end
def SameT(H c:Hp):Prop:=∀a u,H a=some u->(∀g,u≠.lst g)->(∀b,u≠.dK b)->c a=some u
theorem SameT.refl(H:Hp):SameT H H:=fun _ _ e _ _=>e
theorem SameT.trans{H g l:Hp}(a:SameT H g)(b:SameT g l):SameT H l:=fun c u e h i=>b c u (a c u e h i) h i
theorem SameT.of{H b:Hp}(s:Same H b):SameT H b:=fun a u e _ _=>s a u e
theorem SameT.draw{H c:Hp}{b:Addr}{n:Int}(B:BoxAt H b n)(s:SameB b H c):SameT H c:=fun a u e h _=>by
 obtain⟨i,b1,b2,g,_⟩:=B;exact s a u e (fun z=>by rw[z,g] at e;cases e;exact h _ rfl)
def ua:=@SameT.draw
theorem SameT.put{H:Hp}{l:Addr}{b ys:List V}(h:H l=some (.lst b)):SameT H (upd H l (.lst ys)):=fun a u e hu _=>by
 rw[zj (fun z=>by rw[z,h] at e;cases e;exact hu _ rfl)];exact e
def ud:=@SameT.put
mutual
def Dat.imm:Dat->Bool
 | .lst _=>false
 | .tup b=>Dat.imms b
 | _=>true
def Dat.imms:List Dat->Bool
 | []=>true
 | d::b=>d.imm&&Dat.imms b
end
section
variable{P:Program}{w:World}{K:W.Frag}{M:Str->Option Value}{C:Heap}
theorem SqT.keep{H H':Hp}{a:Addr}{c:List V}(q:SqT K H a c)(s:SameT H H'):SqT K H' a c:=by
 rcases q with(q | ⟨o,q⟩) | q
 ·exact .inl (.inl (s a _ q (fun z h=>nomatch h) (fun z h=>nomatch h)))
 ·exact .inl (.inr ⟨o,s a _ q (fun z h=>nomatch h) (fun z h=>nomatch h)⟩)
 ·exact .inr q
mutual
theorem Rep.keep{H H':Hp}(s:SameT H H'):∀{d:Dat} {v:V},d.imm=true->Rep K H d v->Rep K H' d v
 | .non,_,_,h=>h
 | .bl _,_,_,h=>h
 | .int _,_,_,h=>h
 | .str _,_,_,h=>h
 | .lst _,_,i,_=>by cases i
 | .tup ds,_,i,h=>by
  obtain⟨a,c,e,q,r⟩:=h;exact⟨a,c,e,q.keep s,Reps.keep s (ds:=ds) i r⟩
theorem Reps.keep{H H':Hp}(s:SameT H H'):∀{ds:List Dat} {g:List V},Dat.imms ds=true->Reps K H ds g->Reps K H' ds g
 | [],_,_,h=>h
 | d::ds,_,i,h=>by
  obtain⟨x,r,e,h1,h2⟩:=h;have c:(d.imm&&Dat.imms ds)=true:=i;rw[j8] at c;exact⟨x,r,e,Rep.keep s c.1 h1,Reps.keep s c.2 h2⟩
end
theorem Reps.snoc{H:Hp}{d:Dat}{v:V}(h:Rep K H d v):∀{c:List Dat} {g:List V},Reps K H c g->Reps K H (c++[d]) (g++[v])
 | [],_,e=>by rw[show _=_ from e];exact⟨v,[],rfl,h,rfl⟩
 | _::_,_,e=>by
  obtain⟨x,r,e1,h1,h2⟩:=e;subst e1;exact⟨x,r++[v],rfl,h1,Reps.snoc h h2⟩
def ub:=@Reps.snoc
theorem yZ{α β:Type}{f:α->β}{I G:List β}(h:I.Perm G):∀{g:List α},G=g.map f->∃i:List α,i.Perm g/\I=i.map f:=by
 induction h with
 | nil=>
  intro g e;have:g=[]:=by simpa using e.symm
  exact⟨[],by rw[this],rfl⟩
 | @cons x U Y p L=>
  intro g e;cases g with
  | nil=>simp at e
  | cons a D=>
   rw[jL] at e;injection e with e1 e2;obtain⟨i,A,B⟩:=L e2;exact⟨a::i,A.cons a,by rw[jL,<- B,<- e1]⟩
 | swap x y l=>
  intro g e;cases g with
  | nil=>simp at e
  | cons a D=>
   cases D with
   | nil=>simp at e
   | cons c E=>
    rw[jL,jL] at e;injection e with e1 e2;injection e2 with e2 J;exact⟨c::a::E,.swap a c E,by rw[jL,jL,<- e1,<- e2,<- J]⟩
 | trans p q s u=>
  intro g e;obtain⟨i,A,B⟩:=u e;obtain⟨T,O,Q⟩:=s B;exact⟨T,O.trans A,Q⟩
def xZ(p:Nat×Nat):Dat:=.tup [.int p.1,.int p.2]
def Zj(c:List (Nat×Nat)):Dat:=.tup (c.map xZ)
theorem qO:∀(c:List (Nat×Nat)),Dat.imms (c.map xZ)=true
 | []=>rfl
 | p::c=>by
  show(Dat.imm (xZ p)&&Dat.imms (c.map xZ))=true;rw[qO c];rfl
def ByOrd(c:List Nat)(g:List (Nat×Nat)):Prop:=∀p∈g,∃k l:Nat,k<l/\c[k]? =some p.1/\c[l]? =some p.2
theorem Reps.take{H:Hp}:∀(n:Nat) {c:List Dat} {g:List V},Reps K H c g->Reps K H (c.take n) (g.take n)
 | 0,_,_,_=>rfl
 | n+1,[],_,h=>by rw[show _=_ from h];exact rfl
 | n+1,d::c,_,h=>by
  obtain⟨x,r,e,h1,h2⟩:=h;subst e;exact⟨x,r.take n,rfl,h1,Reps.take n h2⟩
theorem Reps.app{H:Hp}:∀{c i:List Dat} {l s:List V},Reps K H c l->Reps K H i s->Reps K H (c++i) (l++s)
 | [],_,_,_,h,g=>by rw[show _=_ from h];exact g
 | d::c,_,_,_,h,g=>by
  obtain⟨x,r,e,h1,h2⟩:=h;subst e;exact⟨x,r++_,rfl,h1,Reps.app h2 g⟩
def uc:=@Reps.app
inductive Qr(K:W.Frag)(i:List V)(H:Hp)(Q:VK):Prop
 | mk (b:Addr) (m n:Int) (_:i=[.ref b,.int m]) (_:BoxAt H b n) (_:n<1000000) (_:0<=m) (_:m<=100) (_:∀(p:Addr) (g:List (Nat×Nat)) (c:List Nat) H',SameB b H H'->BoxAt H' b (n+800)->Rep K H' (Zj g) (.ref p)->c.Perm (List.range m.toNat)->ByOrd c g->g.length<=300->Q (.ref p) H'):Qr K i H Q
def V9(K:W.Frag):Sp:=fun c H Q _=>Qr K c H Q
theorem Wb:zD ["_law_box_here","_law_many","_law_order_here","_law_found","_law_turn","_law_k"] ["_law_box_here","_law_many"] (zr (topL 45)):=u5
theorem zh7{m r:Int}(h:0<=r)(c:r<4)(i:2<=m)(g:m<=100):∃z:Int,atI [V.int 1,V.int 4,V.int 13,V.int (2*m)] r=some (.int z)/\1<=z/\z<=200:=by
 have hc:r=0\/r=1\/r=2\/r=3:=by omega
 rcases hc with rfl | rfl | rfl | rfl
 ·exact⟨1,rfl,by omega,by omega⟩
 ·exact⟨4,rfl,by omega,by omega⟩
 ·exact⟨13,rfl,by omega,by omega⟩
 ·exact⟨2*m,rfl,by omega,by omega⟩
theorem zc6{ord:List Nat}{i:Int}(h:0<=i)(c:i<ord.length):∃x:Nat,atI (ord.map fun i:Nat=>V.int (i:Int)) i=some (.int (x:Int))/\ord[i.toNat]? =some x:=by
 obtain⟨v,e1,e2⟩:=X4 (xs:=ord.map fun i:Nat=>V.int (i:Int)) h (by rw[zp];exact c)
 rw[zU] at e2;obtain⟨x,hx,rfl⟩:=qr.mp e2;exact⟨x,e1,hx⟩
def zbo(b:_)(m:_)(o:_)(R:_)(H:_)(n:_)(g:_)(K:_):=fun(i:Nat) (σ:St) (c:Hp)=>(Ex4 fun(l:List (Nat×Nat)) (s:List V) (u A:Option V)=>An8 (σ=[some (.ref b),some (.int m),some (.ref o),some (.ref R),u,A]) (SameB b H c) (BoxAt c b (n+110+2*i)) (c o=some (.lst (g.map fun i:Nat=>V.int (i:Int)))) (c R=some (.lst s)) (Reps K c (l.map xZ) s) (ByOrd g l) (l.length=i):Prop)
theorem zbN{f:Addr}{fd:FuncData}(F:Fun K "_law_aheads" "_law_aheads" (topL 45) f fd)(B:Blt M)(g:Dfn P w K M C "_law_take" 1 ["_law_box_here","_law_size"] xH)(l:Dfn P w K M C "_law_shuffled" 2 ["_law_box_here","_law_some"] (XF K)):FnOk P w K M C CX0 3 f fd ["_law_box_here","_law_many"] (V9 K):=by
 have nd:=Wb.nd;refine F.ok Wb (fun vs H Q E h=>?_) (fun an A ai s H vs Q E hr h=>?_)
 ·obtain⟨b,m,n,rfl,_⟩:=h
  rfl
 ·obtain⟨b,m,n,rfl,B0,hn,m0,m1,k⟩:=h
  have am:=bG100000;have ac:=bGe;refine⟨_,(zf (QA (i:=2) (j:=3) rfl nd rfl rfl (by decide) rfl rfl (za (zi l hr.m rfl (za (pv 0) (za (wf rfl rfl B.list rfl B.range xK (za (pv 1) zd)) zd))) (za (zV zd) zd)) (by rfl))
   (zf (jq (zF zaR (pv 1) ze (zS _))
   (zk (zC (qB zd)))
   qy)
   (zf (qS jr rfl (qN rfl B.range (za (zi g hr.m rfl (za (pv 0) (za (zx qh (zV (za ze (za ze (za ze (za (zH vk ze (pv 1)) zd))))) (zi g hr.m rfl (za (pv 0) (za ze zd))) (fun _ _=>rfl)) zd))) zd)) (zA (i:=4) nd rfl (Or.inl rfl))
   (zf (zG (i:=5) nd rfl (Or.inl rfl) (zi g hr.m rfl (za (pv 0) (za (zH vh (pv 1) ze) zd))))
    (zk (qK (jO jV xG xF qF (pv 3) (za (qB (za (zx qh (pv 2) (pv 5) (fun _ _=>rfl)) (za (zx qh (pv 2) (zH qT (zH qT (pv 5) ze) (zi g hr.m rfl (za (pv 0) (za (zH vh (zH vh (pv 1) ze) (pv 5)) zd)))) (fun _ _=>rfl)) zd))) zd))))))
   (zk (zC (ja j6 rfl B.tuple xg (za (zH jQ (pv 3) (xR ya (pv 3) wc (x6 (ja yh rfl B.int wW (za (qZ xm (zi g hr.m rfl (za (pv 0) (za ze zd))) ze (zS _)) zd))))) zd))))))),?_⟩
  refine⟨_,rfl,_,rfl,m,rfl,m0,by omega,fun l0 h0=>?_⟩
  have O:((List.range m.toNat).map fun i:Nat=>V.int (i:Int)).length=m.toNat:=by rw[zp,xV]
  refine⟨b,l0,n,_,rfl,B0.new h0,by omega,B0.nne h0,zb,by rw[O];omega,fun o ys H1 S1 B1 no oN ho pm=>⟨le0,fun R hR=>⟨_,_,rfl,?_⟩⟩⟩
  obtain⟨u,op,rfl⟩:=yZ pm rfl;have ol:u.length=m.toNat:=by rw[op.length_eq,xV]
  rw[O] at B1;have U:=B1.nne hR;have oR:o≠R:=zg ho hR;have ab:=((ue b H).new h0).trans S1;have RH:H R=none:=ab.none hR U;have S2:=ab.new (o:=.lst []) hR;have B2:=B1.new (o:=.lst []) hR;have O2:=(zc (o:=.lst []) hR) _ _ ho;have R2:upd H1 R (.lst []) R=some (.lst []):=zb;generalize upd H1 R (.lst [])=H2 at S2 B2 O2 R2;refine⟨_,rfl,_,_,rfl,rfl,_,rfl,jX (fun c=>?_) (fun c=>?_)⟩
  ·exact⟨le0,fun p hp=>k p [] u _ (S2.new hp) ((B2.new hp).mono (by omega)) ⟨p,[],rfl,u8 zb,rfl⟩ op (fun p h=>nomatch h) (qX _)⟩
  have m2:2<=m:=by
   have:¬m<2:=fun z=>c (qk z)
   omega
  refine⟨_,rfl,_,rfl,_,_,rfl,rfl,.inl ⟨by decide,by decide⟩,le4,fun l1 h1=>⟨_,rfl,b,4,_,rfl,B2.new h1,by omega,by decide,by decide,fun r H3 r0 r1 B3 S3=>?_⟩⟩
  have L3:=S3 l1 _ zb (B2.nne h1);obtain⟨z,ez,z0,z1⟩:=zh7 r0 r1 m2 m1;refine⟨l1,_,_,_,rfl,rfl,u7 L3,ez,b,z,_,rfl,B3,by omega,by omega,by omega,fun cnt H4 c0 c1 B4 S4=>⟨_,rfl,(by rw[ac];omega),(by rw[ac];omega),?_⟩⟩
  have U4:=((ue b H2).new h1).trans (S3.trans S4);have af:=S2.trans U4;have O4:=U4 _ _ O2 no;have R4:=U4 _ _ R2 U;clear S2 B2 O2 R2 S3 S4 U4 L3 h1 B3;refine ju (zbo b m o R H n u K)
   ⟨[],[],_,_,rfl,af,B4.mono (by omega),O4,R4,rfl,(fun p h=>nomatch h),rfl⟩ ?_ ?_
  ·rintro i σ H5 hi ⟨J,D,v4,v5,rfl,S5,B5,O5,R5,rp,bo,Y⟩
   have xl:D.length=i:=by rw[rp.len,zp,Y]
   refine⟨_,rfl,_,rfl,_,_,rfl,rfl,b,_,_,rfl,B5,by omega,by omega,by omega,fun kk H6 k0 k1 B6 G=>?_⟩
   have O6:=G _ _ O5 no;obtain⟨x1,ag,aj⟩:=zc6 (ord:=u) k0 (by omega)
   refine⟨_,rfl,.inl ⟨rfl,_,u7 (G _ _ R5 U)⟩,_,rfl,_,rfl,o,_,_,_,rfl,rfl,u7 O6,ag,?_⟩
   refine⟨_,rfl,_,rfl,_,_,rfl,rfl,_,rfl,_,rfl,_,_,rfl,rfl,_,rfl,_,_,rfl,rfl,b,_,_,rfl,B6,by omega,by omega,by omega,fun q H7 q0 q1 B7 S7=>⟨_,_,rfl,rfl,?_⟩⟩
   have O7:=S7 _ _ O6 no;have R7:=S7 _ _ (G _ _ R5 U) U;obtain⟨x2,ah,ak⟩:=zc6 (ord:=u) (i:=kk+1+q) (by omega) (by omega)
   refine⟨o,_,_,_,rfl,rfl,u7 O7,ah,le2,fun T L=>⟨R,D,.ref T,rfl,rfl,(zc L) _ _ R7,by omega,?_⟩⟩
   have R8:=(zc (o:=.tup [.int (x1:Int),.int (x2:Int)]) L) _ _ R7;have st:SameT H5 (upd (upd H7 T (.tup [.int (x1:Int),.int (x2:Int)])) R (.lst (D++[.ref T]))):=((ua B5 (G.trans S7)).trans (.of (zc L))).trans (.put R8);refine⟨J++[(x1,x2)],_,_,_,rfl,(((S5.trans G).trans S7).new L).put RH,((B7.new L).other U).mono (by omega),by rw[zj oR];exact(zc L) _ _ O7,zb,?_,fun pq aa=>?_,by rw[zW,Y];rfl⟩
   ·rw[zM]
    refine ub ?_ (Reps.keep st (qO J) rp)
    refine⟨T,_,rfl,u8 ?_,_,_,rfl,rfl,_,_,rfl,rfl,rfl⟩
    rw[zj (fun zz=>by rw[zz,R7] at L;cases L)]
    exact zb
   ·rcases zP.mp aa with w1 | w1
    ·exact bo pq w1
    ·rw[zR.mp w1]
     exact⟨kk.toNat,(kk+1+q).toNat,by omega,aj,ak⟩
  ·rintro σ H5 ⟨J,D,v4,v5,rfl,S5,B5,O5,R5,rp,bo,Y⟩
   have xl:D.length=J.length:=by rw[rp.len,zp]
   refine⟨_,rfl,_,rfl,_,rfl,b,4,_,rfl,B5,by omega,by decide,by decide,fun r9 H6 ao ap B6 G=>⟨rfl,.inr ⟨_,rfl,_,rfl,R,D,rfl,u7 (G _ _ R5 U),fun s1 I=>?_⟩⟩⟩
   have R6:=G _ _ R5 U;obtain⟨t,et⟩:∃t:Nat,jE D none (some (if decide (V.int r9=V.int 0)=true then(1:Int) else 0))=D.take t/\t<=1:=by
    unfold jE;by_cases hd:decide (V.int r9=V.int 0)=true
    ·rw[zu hd,show(some (1:Int))=some ((1:Nat):Int) from rfl,HT.sIx_nat,HT.sIx_none]
     refine⟨min 1 D.length,by simp,by omega⟩
    ·rw[zo hd,show(some (0:Int))=some ((0:Nat):Int) from rfl,HT.sIx_nat,HT.sIx_none]
     refine⟨0,by simp,by omega⟩
   rw[et.1];have st:SameT H5 H6:=.draw B5 G;have al:=Reps.keep st (qO J) rp;have tl:(D.take t).length<=1:=by rw[qP];omega
   refine⟨R,s1,_,_,rfl,rfl,(zc I) _ _ R6,zb,by omega,fun c1 a0=>⟨c1,_,rfl,.inl ⟨u7 zb,fun p hp=>?_⟩⟩⟩
   have sm:=((zc (o:=.lst (D.take t)) I).trans (zc (o:=.lst (D++D.take t)) a0)).trans (zc (o:=.tup (D++D.take t)) hp);refine k p (J++J.take t) u _ ((((S5.trans G).new I).new a0).new hp) ((((B6.new I).new a0).new hp).mono (by omega)) ⟨p,_,rfl,u8 zb,?_⟩ op (fun pq aa=>?_) (by rw[zW,qP];omega)
   ·have ae:=Reps.keep (SameT.of sm) (qO J) al
    have rt:=Reps.take t ae;rw[<- List.map_take] at rt;have:=uc ae rt;rw[<- zM] at this;exact this
   ·rcases zP.mp aa with w1 | w1
    ·exact bo pq w1
    ·exact bo pq (List.mem_of_mem_take w1)
structure xb where
 k:Str
 x:Int
 y:Int
structure xC where
 k:Str
 x:Int
 y:Int
 m:Int
def xE(p:xb):Dat:=.tup [.str p.k,.tup [.int p.x,.int p.y]]
def wz(p:xC):Dat:=.tup [.str p.k,.tup [.int p.x,.int p.y],.int p.m]
theorem x9:∀(c:List xC),Dat.imms (c.map wz)=true
 | []=>rfl
 | p::c=>by
  show(Dat.imm (wz p)&&Dat.imms (c.map wz))=true;rw[x9 c];rfl
theorem xj:∀(c:List xb),Dat.imms (c.map xE)=true
 | []=>rfl
 | p::c=>by
  show(Dat.imm (xE p)&&Dat.imms (c.map xE))=true;rw[xj c];rfl
def inP(x y:Int):Prop:=0<=x/\x<=1000/\0<=y/\y<=1000
inductive V7(K:W.Frag)(A:List V)(H:Hp)(Q:VK):Prop
 | mk (b l u:Addr) (B:Bool) (n:Int) (c:List Str) (g:List xb) (_:A=[.ref b,.ref l,.ref u,.bl B]) (_:BoxAt H b n) (_:n<900000) (_:l≠b) (_:Row H l c) (_:1<=c.length) (_:c.length<=12) (_:Rep K H (.tup (g.map xE)) (.ref u)) (_:g.length<=100) (_:∀(p:Addr) (i:List xC) (s:List Str) H',SameB b H H'->BoxAt H' b (n+400)->Rep K H' (.tup (i.map wz)) (.ref p)->(i.map (·.k)).Perm (c++s)->(∀e∈s,e∈c)->i.length<=40->(∀f∈i,Nm f.k/\inP f.x f.y/\0<=f.m/\f.m<=400)->Q (.ref p) H'):V7 K A H Q
def zcC(K:W.Frag):Sp:=fun c H Q _=>V7 K c H Q
theorem zcU:zD ["_law_box_here","_law_kinds","_law_parts","_law_plenty","_law_great","_law_more","_law_some","_law_found","_law_kind","_law_need","_law_many"] ["_law_box_here","_law_kinds","_law_parts","_law_plenty"] (zr (topL 44)):=u5
theorem zco{ns:List Str}{i:Int}(h:0<=i)(c:i<ns.length):∃x,atI (ns.map V.str) i=some (.str x)/\x∈ns:=by
 obtain⟨v,e1,e2⟩:=X4 (xs:=ns.map V.str) h (by rw[zp];exact c)
 rw[zU] at e2;obtain⟨x,hx,rfl⟩:=qr.mp e2;exact⟨x,e1,je hx⟩
theorem zh6{a c r:Int}(h:0<=r)(l:r<3)(g:0<=a)(a1:a<=400)(i:0<=c)(c1:c<=400):∃z:Int,atI [V.int a,V.int c,V.int 400] r=some (.int z)/\0<=z/\z<=400:=by
 have hc:r=0\/r=1\/r=2:=by omega
 rcases hc with rfl | rfl | rfl
 ·exact⟨a,rfl,g,a1⟩
 ·exact⟨c,rfl,i,c1⟩
 ·exact⟨400,rfl,by omega,by omega⟩
def zbn(b:_)(g:_)(l:_)(i:_)(r:_)(H:_)(n:_):=fun(s:St) (H':Hp)=>(Ex1 fun(c:Int)=>An5 (s=[some (.ref b),some (.ref g),some (.ref l),some (.bl i),some (.bl (decide (V.int r=V.int 0))),some (.int c),none,none,none,none,none]) (0<=c) (c<=20) (SameB b H H') (BoxAt H' b (n+2)):Prop)
theorem zeS{f:Addr}{fd:FuncData}(F:Fun K "_law_feeders" "_law_feeders" (topL 44) f fd)(B:Blt M)(G:Dfn P w K M C "_law_take" 1 ["_law_box_here","_law_size"] xH)(O:Dfn P w K M C "_law_shuffled" 2 ["_law_box_here","_law_some"] (XF K))(aa:Dfn P w K M C "_law_place" 2 ["_law_box_here","_law_taken"] (Qc K)):FnOk P w K M C CX0 3 f fd ["_law_box_here","_law_kinds","_law_parts","_law_plenty"] (zcC K):=by
 have nd:=zcU.nd;refine F.ok zcU (fun vs H Q E h=>?_) (fun bg A bb s H vs Q E hr h=>?_)
 ·obtain⟨b,ks,ps,pl,n,u,L,rfl,_⟩:=h
  rfl
 ·obtain⟨b,ks,ps,pl,n,u,L,rfl,B0,hn,nk,Rk,k0,k1,hp,lp,k⟩:=h
  have bf:=bG100000;have au:=bGe;have ek:(u.map V.str).length=u.length:=zp ..;refine⟨_,(zf (zG (i:=4) nd rfl (Or.inl rfl) (qZ xm (zi G hr.m rfl (za (pv 0) (za ze zd))) ze (zS _)))
   (zf (yb (zG (i:=5) nd rfl (Or.inl rfl) (zi G hr.m rfl (za (pv 0) (za (vf (xx (pv 4)) (zH vh ze (zy zO rfl B.len boot_len (za (pv 1) zd))) ze) zd)))))
   (zf (zG (i:=6) nd rfl (Or.inl rfl) (zH jQ (pv 1) (jZ ["_law_kinds","_law_box_here"] [1,0] rfl rfl (by kernel_rfl) (qN rfl B.range (za (pv 5) zd)) (fun _ _ _ _=>jk) (fun _ _ _ _=>(zx (QR (K:=K) rfl) (pv 1) (zi G hr.m rfl (za (pv 2) (za (zy (yn (K:=K) rfl) rfl B.len boot_len (za (pv 1) zd)) zd))) (fun _ _=>rfl))))))
   (zf (zG (i:=7) nd rfl (Or.inl rfl) (zV zd))
   (zf (qS jr rfl (qD (zi O hr.m rfl (za (pv 0) (za (pv 6) zd)))) (zA (i:=8) nd rfl (Or.inr rfl))
   (zf (zG (i:=9) nd rfl (Or.inl rfl) (zy zO rfl B.len boot_len (za (jZ ["_law_kind"] [8] rfl rfl (by kernel_rfl) (vB (pv 2)) (fun _ _ _ _=>(vC (zF xm (zx (jc (K:=K) rfl) (pv 0) ze (fun _ _=>rfl)) (pv 1) (zS _)))) (fun _ _ _ _=>(pv 0))) zd)))
    (zf (yb (zG (i:=10) nd rfl (Or.inl rfl) (vf (xx (pv 3)) (zx qh (zV (za (pv 9) (za (zH qT (pv 9) (zi G hr.m rfl (za (pv 0) (za ze zd)))) (za ze zd)))) (zi G hr.m rfl (za (pv 0) (za ze zd))) (fun _ _=>rfl)) (zi G hr.m rfl (za (pv 0) (za ze zd))))))
    (zk (qK (jO jV xG xF qF (pv 7) (za (qB (za (pv 8) (za (zi aa hr.m rfl (za (pv 0) (za (zV zd) zd))) (za (pv 10) zd)))) zd)))))))
   (zk (zC (ja j6 rfl B.tuple xg (za (pv 7) zd))))))))),?_⟩
  refine⟨_,rfl,b,8,n,rfl,B0,by omega,by decide,by decide,fun r H1 r0 r1 B1 S1=>⟨rfl,?_⟩⟩
  have ap:=Rk.draw S1 nk;refine⟨zbn b ks ps pl r H n,?_,?_⟩
  ·refine⟨_,rfl,_,rfl,_,rfl,jX (fun c=>?_) (fun c=>?_)⟩
   ·exact⟨_,rfl,ks,_,rfl,.inl (u7 ap.1),_,_,rfl,rfl,b,_,_,rfl,B1,by omega,by omega,by omega,fun U H2 a0 a1 B2 S2=>⟨_,rfl,a0,by omega,S1.trans S2,B2.mono (by omega)⟩⟩
   ·exact⟨b,4,_,rfl,B1,by omega,by decide,by decide,fun U H2 a0 a1 B2 S2=>⟨_,rfl,a0,by omega,S1.trans S2,B2.mono (by omega)⟩⟩
  rintro σ' H2 ⟨U,rfl,bi,bj,S2,B2⟩;clear S1 B1 ap;have ae:=Rk.draw S2 nk;refine⟨_,rfl,_,rfl,_,rfl,(by rw[au];omega),(by rw[au];omega),y6 (fun j Y H3=>Ex1 fun(J:List Str)=>An5 (Y=J.map V.str) (J.length=j) ((∀x∈J,x∈u)) (SameB b H2 H3) (BoxAt H3 b (n+2+j))) ⟨[],rfl,rfl,(fun x h=>nomatch h),ue _ _,B2.mono (by omega)⟩ ?_ ?_⟩
  ·rintro j Y H3 hj ⟨J,rfl,el,ee,S3,B3⟩
   refine⟨rfl,⟨_,rfl,_,rfl,_,rfl,ks,_,rfl,.inl (u7 (ae.draw S3 nk).1),b,_,_,rfl,B3,by omega,by omega,by omega,fun q H4 q0 q1 B4 S4=>?_⟩⟩
   obtain⟨y,ey,my⟩:=zco (ns:=u) q0 (by omega)
   refine⟨ks,_,_,_,rfl,rfl,u7 (ae.draw (S3.trans S4) nk).1,ey,by rw[zp,el];omega,J++[y],by rw[zM];rfl,by rw[zW,el];rfl,fun x hx=>?_,S3.trans S4,B4.mono (by omega)⟩
   rcases zP.mp hx with pq | pq
   ·exact ee x pq
   ·rw[zR.mp pq];exact my
  rintro Y H3 ⟨J,rfl,el,ee,S3,B3⟩;refine⟨by rw[zp,el];omega,fun D hD=>?_⟩
  have ar:=(S2.trans S3).new (o:=.lst (J.map V.str)) hD;have aq:=(ae.draw S3 nk).same (zc (o:=.lst (J.map V.str)) hD);refine⟨ks,D,_,_,rfl,rfl,aq.1,zb,by rw[ek,zp,el];omega,fun sm hs=>?_⟩
  have B4:=(B3.new (o:=.lst (J.map V.str)) hD).new (o:=.lst (u.map V.str++J.map V.str)) hs;have S4:=ar.new (o:=.lst (u.map V.str++J.map V.str)) hs;have ns:=(B3.new (o:=.lst (J.map V.str)) hD).nne hs;have M4:upd (upd H3 D (.lst (J.map V.str))) sm (.lst (u.map V.str++J.map V.str)) sm=some (.lst ((u++J).map V.str)):=by rw[zb,zM]
  generalize upd (upd H3 D (.lst (J.map V.str))) sm (.lst (u.map V.str++J.map V.str))=H4 at B4 S4 M4;clear S2 S3 ar ae aq B2 B3 hD hs;refine⟨le0,fun R hR=>?_⟩
  have nR:=B4.nne hR;have RH:H R=none:=S4.none hR nR;have af:((u++J).map V.str).length<=32:=by rw[zp,zW,el];omega
  refine⟨_,rfl,_,rfl,b,sm,_,_,rfl,B4.new hR,by omega,ns,(zc hR) _ _ M4,by omega,fun l ys H5 S5 B5 nl lN hl pm=>?_⟩
  obtain⟨sh,al,rfl⟩:=yZ pm rfl;have ay:=(S4.new (o:=.lst []) hR).trans S5;have R5:H5 R=some (.lst []):=S5 _ _ zb nR;have lR:l≠R:=fun z=>by rw[z,zb] at lN;cases lN
  have bp:sh.length<=32:=by rw[al.length_eq];rw[zp] at af;exact af
  have be:∀x∈sh,Nm x:=fun x hx=>by
   rcases zP.mp (al.mem_iff.mp hx) with q | q
   ·exact Rk.2 x q
   ·exact Rk.2 x (ee x q)
  clear pm M4 S4 S5 B4 hR;refine⟨l,rfl,⟨_,u7 hl⟩,jG (K:=K) (a:=l) (xs:=sh.map V.str) (fun i σ H6=>Ex6 fun(fs:List xC) (xs:List V) (v6 v8 v9 am:Option V)=>An8 (σ=[some (.ref b),some (.ref ks),some (.ref ps),some (.bl pl),some (.bl (decide (V.int r=V.int 0))),some (.int U),v6,some (.ref R),v8,v9,am]) (SameB b H H6) (BoxAt H6 b (n+60+6*i)) (H6 l=some (.lst (sh.map V.str))) (H6 R=some (.lst xs)) (Reps K H6 (fs.map wz) xs) (fs.map (·.k)=sh.take i) (∀f∈fs,Nm f.k/\inP f.x f.y/\0<=f.m/\f.m<=400))
   ⟨[],[],_,_,_,_,rfl,ay,B5.mono (by omega),hl,R5,rfl,rfl,(fun f h=>nomatch h)⟩ (fun i σ H6 _ ⟨_,_,_,_,_,_,_,_,_,h,_,_,_,_⟩=>u7 h) ?_ ?_⟩
  ·rintro i x σ H6 hx ⟨fs,xs,v6,v8,v9,am,rfl,S6,B6,L6,R6,rp,fk,fa⟩
   rw[zU] at hx;obtain⟨kd,aj,rfl⟩:=qr.mp hx;have hi:=(zL.mp aj).1;have fl:fs.length=i:=by
    have:=congrArg List.length fk;rw[zp,qP] at this;omega
   have xl:xs.length=i:=by rw[rp.len,zp,fl]
   have ba:=Rep.keep (d:=.tup (L.map xE)) (ua B0 S6) (xj L) hp;obtain⟨_,aw,ep,hq,av⟩:=ba;cases ep;have bm:aw.length=L.length:=by rw[av.len,zp]
   refine⟨_,rfl,ps,rfl,⟨_,hq⟩,yI (K:=K) (a:=ps) (xs:=aw) (fun j Y H7=>Y.length<=j/\Same H6 H7) ⟨zQ _,u9 _⟩ (fun j Y H7 ⟨_,s7⟩=>s7.sqT hq) ?_ ?_⟩
   ·rintro j v Y H7 hv ⟨zl,s7⟩
    have hj:=(zL.mp hv).1;obtain⟨d,hd,rd⟩:=av.get hv;rw[zU] at hd;obtain⟨pt,_,rfl⟩:=qr.mp hd;obtain⟨c,bh,rfl,hc,u1,bo,e1,e2,e3⟩:=rd;subst e1;cases(show u1=.str pt.k from e2)
    refine⟨rfl,⟨_,rfl,c,_,_,.str pt.k,rfl,rfl,s7.sqT hc,zY (j:=0) rfl,_,rfl,rfl,_,rfl,jX (fun dd=>⟨_,rfl,by omega,by rw[zW];simp;omega,s7⟩) (fun dd=>⟨by omega,s7⟩)⟩⟩
   rintro Y H7 ⟨zl,s7⟩;refine⟨by omega,fun D2 az=>⟨D2,Y,rfl,.inl (u7 zb),?_⟩⟩
   have s8:=s7.trans (zc (o:=.lst Y) az);have B8:=B6.same s8;generalize upd H7 D2 (.lst Y)=H8 at s8 B8;refine⟨fun σ' H'=>Ex1 fun(I:Int)=>An5 (σ'=[some (.ref b),some (.ref ks),some (.ref ps),some (.bl pl),some (.bl (decide (V.int r=V.int 0))),some (.int U),v6,some (.ref R),some (.str kd),some (.int (Y.length:Int)),some (.int I)]) (0<=I) (I<=400) (SameB b H8 H') (BoxAt H' b (n+60+6*i+2)),?_,?_⟩
   ·refine⟨_,rfl,_,rfl,jX (fun c=>?_) (fun c=>?_)⟩
    ·refine⟨_,rfl,_,rfl,_,rfl,b,9,_,rfl,B8,by omega,by decide,by decide,fun q9 H9 a0 a1 B9 S9=>⟨_,_,rfl,rfl,le3,fun l3 h3=>⟨_,rfl,b,3,_,rfl,B9.new h3,by omega,by decide,by decide,fun q3 an c0 c1 ag ab=>?_⟩⟩⟩
     have ax:=ab l3 _ zb (B9.nne h3);obtain⟨z,ez,z0,z1⟩:=zh6 (a:=(Y.length:Int)) (c:=(Y.length:Int)+q9) c0 c1 (by omega) (by omega) (by omega) (by omega)
     exact⟨l3,_,_,_,rfl,rfl,u7 ax,ez,z,rfl,z0,z1,(S9.new h3).trans ab,ag.mono (by omega)⟩
    ·exact⟨_,rfl,b,4,_,rfl,B8,by omega,by decide,by decide,fun q9 H9 a0 a1 B9 S9=>⟨q9,rfl,a0,by omega,S9,B9.mono (by omega)⟩⟩
   rintro σ' H9 ⟨I,rfl,y0,y1,S9,B9⟩;have as:=(uf (b:=b) s8).trans S9;have R9:=as _ _ R6 nR;refine⟨_,rfl,.inl ⟨rfl,_,u7 R9⟩,_,rfl,_,rfl,le0,fun e he=>⟨b,e,_,[],rfl,B9.new he,by omega,B9.nne he,zb,qX _,(fun a h=>nomatch h),fun pp an ab ag bn pa=>⟨_,rfl,le3,fun T hT=>?_⟩⟩⟩
   obtain⟨px,py,ac,b1,b2,b3,b4⟩:=pa;have ah:=ab _ _ ((zc he) _ _ R9) nR;have ao:=(zc (o:=.tup [.str kd,.ref pp,.int I]) hT) _ _ ah;refine⟨R,xs,.ref T,rfl,rfl,ao,by omega,?_⟩
   have ai:=(as.new he).trans (ab.new (o:=.tup [.str kd,.ref pp,.int I]) hT);have st:SameT H6 (upd (upd an T (.tup [.str kd,.ref pp,.int I])) R (.lst (xs++[.ref T]))):=(ua B6 ai).trans (.put ao);have TR:T≠R:=fun z=>by rw[z,ah] at hT;cases hT
   have bc:pp≠R:=fun z=>by rw[z,ah] at ac;cases ac
   have bd:pp≠T:=fun z=>by rw[z,hT] at ac;cases ac
   refine⟨fs++[⟨kd,px,py,I⟩],_,_,_,_,_,rfl,(S6.trans ai).put RH,((ag.new hT).other nR).mono (by omega),by rw[zj lR];exact ai _ _ L6 nl,zb,?_,?_,fun g b0=>?_⟩
   ·rw[zM]
    refine ub ?_ (Reps.keep st (x9 fs) rp)
    refine⟨T,_,rfl,u8 (by rw[zj TR];exact zb),_,_,rfl,rfl,_,_,rfl,⟨pp,_,rfl,u8 (by rw[zj bc,zj bd];exact ac),_,_,rfl,rfl,_,_,rfl,rfl,rfl⟩,_,_,rfl,rfl,rfl⟩
   ·rw[zM,fk]
    obtain⟨h1,h2⟩:=zL.mp aj;rw[<- yy h1,h2];rfl
   ·rcases zP.mp b0 with q | q
    ·exact fa g q
    ·rw[zR.mp q]
     exact⟨be kd (je aj),⟨b1,b2,b3,b4⟩,y0,y1⟩
  ·rintro σ H6 ⟨fs,xs,v6,v8,v9,am,rfl,S6,B6,L6,R6,rp,fk,fa⟩
   rw[zp,qY] at fk;have fl:fs.length<=32:=by
    have:=congrArg List.length fk;rw[zp] at this;omega
   refine⟨_,rfl,R,xs,rfl,.inl ⟨u7 R6,fun p ak=>?_⟩⟩
   refine k p fs J _ (S6.new ak) ((B6.new ak).mono (by rw[zp] at *;omega)) ⟨p,_,rfl,u8 zb,Reps.keep (SameT.of (zc ak)) (x9 fs) rp⟩ (by rw[fk];exact al) ee (by omega) fa
structure Job where
 gx:Int
 gy:Int
 hd:Int
 fs:List xC
 ps:List xb
 as:List (Nat×Nat)
def vE(J:Job):Dat:=.tup [.tup [.int J.gx,.int J.gy],.int J.hd,.tup (J.fs.map wz),.tup (J.ps.map xE),Zj J.as]
theorem vP(J:Job):(vE J).imm=true:=by
 show(true&&(true&&(Dat.imms (J.fs.map wz)&&(Dat.imms (J.ps.map xE)&&(Dat.imms (J.as.map xZ)&&true)))))=true;rw[x9,xj,qO];rfl
structure JobOk(J:Job)(ord:List Nat):Prop where
 gate:inP J.gx J.gy
 hd0:1<=J.hd
 hd1:J.hd<=4
 fl:J.fs.length<=40
 fa:∀f∈J.fs,Nm f.k/\inP f.x f.y/\0<=f.m/\f.m<=400
 pl:J.ps.length<=60
 pa:∀p∈J.ps,Nm p.k/\inP p.x p.y/\∃f∈J.fs,f.k=p.k
 op:ord.Perm (List.range J.ps.length)
 bo:ByOrd ord J.as
 al:J.as.length<=300
 f0:1<=J.fs.length
theorem zel{r:Int}(h0:0<=r)(h1:r<4):∃z:Int,atI [V.int 3,V.int 3,V.int 3,V.int 12] r=some (.int z)/\3<=z/\z<=12:=by
 have hc:r=0\/r=1\/r=2\/r=3:=by omega
 rcases hc with rfl | rfl | rfl | rfl
 ·exact⟨3,rfl,by decide,by decide⟩
 ·exact⟨3,rfl,by decide,by decide⟩
 ·exact⟨3,rfl,by decide,by decide⟩
 ·exact⟨12,rfl,by decide,by decide⟩
inductive zav(K:W.Frag)(l:List V)(H:Hp)(Q:VK):Prop
 | mk (b:Addr) (g c n:Int) (s:Bool) (_:l=[.ref b,.int g,.int c,.bl s]) (_:BoxAt H b n) (_:n<500000) (_:0<=g) (_:g<=60) (_:0<=c) (_:c<=60) (_:∀(p:Addr) (J:Job) (i:List Nat) H',SameB b H H'->BoxAt H' b (n+3000)->Rep K H' (vE J) (.ref p)->JobOk J i->Q (.ref p) H'):zav K l H Q
def zfw(K:W.Frag):Sp:=fun c H Q _=>zav K c H Q
theorem zfI:zD ["_law_box_here","_law_few","_law_most","_law_plenty","_law_many","_law_kinds","_law_parts","_law_feeders_here"] ["_law_box_here","_law_few","_law_most","_law_plenty"] (zr (topL 46)):=u5
def zbm(b:_)(g:_)(c:_)(i:_)(H:_)(n:_):=fun(l:St) (H':Hp)=>(Ex1 fun(m:Int)=>An5 (l=[some (.ref b),some (.int g),some (.int c),some (.bl i),some (.int m),none,none,none]) (0<=m) (m<=60) (SameB b H H') (BoxAt H' b (n+2)):Prop)
theorem zgS{f:Addr}{fd:FuncData}(F:Fun K "_law_job" "_law_job" (topL 46) f fd)(B:Blt M)(g:Dfn P w K M C "_law_take" 1 ["_law_box_here","_law_size"] xH)(U:Dfn P w K M C "_law_names" 3 ["_law_box_here","_law_many"] zaq)(Y:Dfn P w K M C "_law_place" 2 ["_law_box_here","_law_taken"] (Qc K))(L:Dfn P w K M C "_law_places" 3 ["_law_box_here","_law_many"] VZ)
  (I:Dfn P w K M C "_law_feeders" 3 ["_law_box_here","_law_kinds","_law_parts","_law_plenty"] (zcC K)) (J:Dfn P w K M C "_law_aheads" 3 ["_law_box_here","_law_many"] (V9 K)):FnOk P w K M C CX0 4 f fd ["_law_box_here","_law_few","_law_most","_law_plenty"] (zfw K):=by
 have nd:=zfI.nd;refine F.ok zfI (fun vs H Q E h=>?_) (fun bj A be s H vs Q E hr h=>?_)
 ·obtain⟨b,ao,ae,n,pl,rfl,_⟩:=h
  rfl
 ·obtain⟨b,ao,ae,n,pl,rfl,B0,hn,f0,f1,bm,bn,k⟩:=h
  have bh:=bG100000;refine⟨_,(zf (yb (zG (i:=4) nd rfl (Or.inl rfl) (zi g hr.m rfl (za (pv 0) (za (zH qT (vf (zF J5 (zi g hr.m rfl (za (pv 0) (za ze zd))) ze (zS _)) (pv 1) (pv 2)) ze) zd)))))
   (zf (zG (i:=5) nd rfl (Or.inr rfl) (zi U hr.m rfl (za (pv 0) (za (zH qT ze (zi g hr.m rfl (za (pv 0) (za (zx qh (zV (za ze (za ze (za ze (za ze zd))))) (zi g hr.m rfl (za (pv 0) (za ze zd))) (fun _ _=>rfl)) zd)))) zd))))
   (zf (zG (i:=6) nd rfl (Or.inl rfl) (ja j6 rfl B.tuple xg (za (jZ ["_law_kinds","_law_box_here"] [5,0] rfl rfl (by kernel_rfl) (qD (zi L hr.m rfl (za (pv 0) (za (pv 4) zd)))) (fun _ _ _ _=>jk) (fun _ _ _ _=>(qB (za (zx (QR (K:=K) rfl) (pv 1) (zi g hr.m rfl (za (pv 2) (za (zy (yn (K:=K) rfl) rfl B.len boot_len (za (pv 1) zd)) zd))) (fun _ _=>rfl)) (za (pv 0) zd))))) zd)))
   (zf (zG (i:=7) nd rfl (Or.inl rfl) (zi I hr.m rfl (za (pv 0) (za (pv 5) (za (pv 6) (za (pv 3) zd))))))
   (zk (zC (qB (pa5 (zi Y hr.m rfl (za (pv 0) (za (zV zd) zd))) (zH qT ze (zi g hr.m rfl (za (pv 0) (za ze zd)))) (pv 7) (pv 6) (zi J hr.m rfl (za (pv 0) (za (pv 4) zd))))))))))),?_⟩
  refine⟨zbm b ao ae pl H n,?_,?_⟩
  ·refine⟨_,rfl,_,rfl,b,8,n,rfl,B0,by omega,by decide,by decide,fun r H1 r0 r1 B1 S1=>⟨_,_,rfl,rfl,_,rfl,jX (fun c=>⟨_,rfl,_,_,rfl,rfl,?_⟩) (fun c=>⟨_,rfl,_,_,rfl,rfl,?_⟩)⟩⟩
   ·exact⟨b,_,_,rfl,B1,by omega,by omega,by omega,fun m H2 a0 a1 B2 S2=>⟨m,rfl,a0,by omega,S1.trans S2,B2.mono (by omega)⟩⟩
   ·exact⟨b,_,_,rfl,B1,by omega,by omega,by omega,fun m H2 a0 a1 B2 S2=>⟨m,rfl,a0,by omega,S1.trans S2,B2.mono (by omega)⟩⟩
  rintro σ' H2 ⟨m,rfl,m0,m1,S2,B2⟩;refine⟨_,rfl,_,rfl,le4,fun l1 h1=>⟨_,rfl,b,4,_,rfl,B2.new h1,by omega,by decide,by decide,fun r H3 r0 r1 B3 S3=>?_⟩⟩
  have L3:=S3 l1 _ zb (B2.nne h1);obtain⟨z,ez,z0,z1⟩:=zel r0 r1;refine⟨l1,_,_,_,rfl,rfl,u7 L3,ez,b,z,_,rfl,B3,by omega,by omega,by omega,fun q H4 q0 q1 B4 S4=>⟨_,_,rfl,rfl,b,1+q,_,rfl,B4,by omega,by omega,by omega,fun ks u H5 S5 B5 nk kN Rk kl=>?_⟩⟩
  have an:=(((S2.new h1).trans S3).trans S4).trans S5;have ek:(u.map V.str).length=u.length:=zp ..;clear S2 S3 S4 S5 B2 B3 B4 L3 h1;refine⟨_,rfl,_,rfl,b,m,_,rfl,B5,by omega,m0,by omega,fun l as H6 S6 B6 nl lN hl pa al=>?_⟩
  have ac:=Rk.draw S6 nk;refine⟨l,rfl,⟨_,u7 hl⟩,jD (K:=K) (a:=l) (xs:=as.map V.ref) (fun j O H7=>Ex1 fun(G:List xb)=>An5 (Reps K H7 (G.map xE) O) (G.length=j) ((∀q∈G,q.k∈u/\inP q.x q.y)) (SameB b H6 H7) (BoxAt H7 b (n+700+j))) ⟨[],rfl,rfl,(fun x h=>nomatch h),ue _ _,B6.mono (by omega)⟩ (fun j O H7 ⟨_,_,_,_,s7,_⟩=>u7 (s7 _ _ hl nl)) ?_ ?_⟩
  ·rintro j x O H7 hx ⟨G,rq,ql,qa,S7,B7⟩
   rw[zU] at hx;obtain⟨a,ha,rfl⟩:=qr.mp hx;have hj:=(zL.mp ha).1;have zl:O.length=j:=by rw[rq.len,zp,ql]
   refine⟨rfl,⟨_,rfl,_,rfl,_,rfl,ks,_,rfl,.inl (u7 (ac.draw S7 nk).1),b,_,_,rfl,B7,by omega,by omega,by omega,fun q H8 c0 c1 B8 S8=>?_⟩⟩
   obtain⟨y,ey,my⟩:=zco (ns:=u) c0 (by omega)
   obtain⟨px,py,bd,b1,b2,b3,b4⟩:=(pa a (je ha)).draw B6 (S7.trans S8);refine⟨ks,_,_,_,rfl,rfl,u7 (ac.draw (S7.trans S8) nk).1,ey,_,rfl,le2,fun T hT=>⟨by omega,G++[⟨y,px,py⟩],?_,by rw[zW,ql];rfl,fun q hq=>?_,(S7.trans S8).new hT,(B8.new hT).mono (by omega)⟩⟩
   ·rw[zM]
    have rT:Rep K (upd H8 T (.tup [.str y,.ref a])) (xE ⟨y,px,py⟩) (.ref T):=⟨T,_,rfl,u8 zb,_,_,rfl,rfl,_,_,rfl,⟨a,_,rfl,u8 ((zc hT) _ _ bd),_,_,rfl,rfl,_,_,rfl,rfl,rfl⟩,rfl⟩;exact ub rT (Reps.keep ((ua B7 S8).trans (.of (zc hT))) (xj G) rq)
   ·rcases zP.mp hq with w1 | w1
    ·exact qa q w1
    ·rw[zR.mp w1];exact⟨my,b1,b2,b3,b4⟩
  rintro O H7 ⟨G,rq,ql,qa,S7,B7⟩;rw[zp] at ql;have B7:BoxAt H7 b (n+800):=B7.mono (by rw[zp];omega)
  have zl:O.length=as.length:=by rw[rq.len,zp,ql]
  refine⟨by omega,fun D hD=>⟨D,O,rfl,.inl ⟨u7 zb,fun ps aq=>?_⟩⟩⟩
  have sm:=(zc (o:=.lst O) hD).trans (zc (o:=.tup O) aq);have S8:=(an.trans S6).trans (S7.trans (uf (b:=b) sm));have B8:=B7.same sm;have ah:=(ac.draw S7 nk).same sm;have P8:Rep K (upd (upd H7 D (.lst O)) ps (.tup O)) (.tup (G.map xE)) (.ref ps):=⟨ps,_,rfl,u8 zb,Reps.keep (.of sm) (xj G) rq⟩;generalize upd (upd H7 D (.lst O)) ps (.tup O)=H8 at sm S8 B8 ah P8;clear an S6 S7 B5 B6 B7 Rk ac rq hD aq pa hl;refine⟨_,rfl,_,rfl,_,rfl,_,rfl,b,ks,ps,pl,_,u,G,rfl,B8,by omega,nk,ah,by omega,by omega,P8,by omega,fun fp fs es H9 S9 B9 F9 aa ee fl fa=>?_⟩
  have P9:=Rep.keep (d:=.tup (G.map xE)) (ua B8 S9) (xj G) P8;refine⟨_,rfl,le0,fun t ht=>⟨b,t,_,[],rfl,B9.new ht,by omega,B9.nne ht,zb,qX _,(fun a h=>nomatch h),fun gp az am af gN ga=>?_⟩⟩
  obtain⟨gx,gy,bb,g1,g2,g3,g4⟩:=ga;refine⟨_,rfl,b,4,_,rfl,af,by omega,by decide,by decide,fun hd bi d0 d1 ag ai=>⟨_,_,rfl,rfl,_,rfl,_,rfl,_,rfl,_,rfl,b,m,_,rfl,ag,by omega,m0,by omega,fun ap ak ar ab aj aw au op bo ba=>⟨leN (by show 5<=1000;decide),fun p hp=>?_⟩⟩⟩
  have t9:SameT H9 ab:=((SameT.of (zc ht)).trans (.draw (B9.new ht) am)).trans ((ua af ai).trans (.draw ag aj));have bg:SameT az ab:=(ua af ai).trans (.draw ag aj);have up:Same ab (upd ab p (.tup [.ref gp,.int (1+hd),.ref fp,.ref ps,.ref ap])):=zc hp;have ax:=Rep.keep (d:=.tup (fs.map wz)) (t9.trans (.of up)) (x9 fs) F9;have b0:=Rep.keep (d:=.tup (G.map xE)) (t9.trans (.of up)) (xj G) P9;have av:=Rep.keep (d:=Zj ak) (.of up) (qO ak) au;have ay:=(bg.trans (.of up)) gp _ bb (fun xs h=>nomatch h) (fun xs h=>nomatch h)
  have bf:G.length=m.toNat:=by omega
  have fk:∀kd∈u,∃f∈fs,f.k=kd:=fun kd bc=>by
   have:=aa.mem_iff.mpr (qm es bc);obtain⟨f,hf,e⟩:=qo.mp this;exact⟨f,hf,e⟩
  refine k p ⟨gx,gy,1+hd,fs,G,ak⟩ ar _ (((S8.trans S9).trans ((uf (zc ht)).trans am)).trans ((ai.trans aj).new hp)) ((aw.new hp).mono (by omega)) ?_ ?_
  ·exact⟨p,_,rfl,u8 zb,_,_,rfl,⟨gp,_,rfl,u8 ay,_,_,rfl,rfl,_,_,rfl,rfl,rfl⟩,_,_,rfl,rfl,_,_,rfl,ax,_,_,rfl,b0,_,_,rfl,av,rfl⟩
  ·refine⟨⟨g1,g2,g3,g4⟩,by show 1<=1+hd;omega,by show 1+hd<=4;omega,fl,fa,by show G.length<=60;omega,fun q hq=>?_,by show ar.Perm (List.range G.length);rw[bf];exact op,bo,ba,?_⟩
   ·obtain⟨hk,hi⟩:=qa q hq
    exact⟨ah.2 q.k hk,hi,fk q.k hk⟩
   ·have:=aa.length_eq
    rw[zp,zW] at this;show 1<=fs.length;omega
theorem qq{α:Type}{l:List α}{i:Nat}{x:α}(h:l[i]? =some x):l.take (i+1)=l.take i++[x]:=by
 obtain⟨h1,h2⟩:=zL.mp h;rw[<- h2,yy]
def zE(os:List Nat):List V:=os.map fun i:Nat=>V.int (i:Int)
theorem zT(os:List Nat):(zE os).length=os.length:=zp ..
theorem Ws(os:List Nat):zE os=(os.map fun i:Nat=>(i:Int)).map V.int:=by unfold zE;rw[xA];rfl
theorem jb:∀os:List Nat,(zE os).all jS=true
 | []=>rfl
 | o::os=>by
  show(true&&(zE os).all jS)=true;rw[jb os];rfl
theorem Qh(k:Nat):∀os:List Nat,inV (.int (k:Int)) (zE os)=decide (k∈os)
 | []=>rfl
 | o::os=>by
  show((o:Int)==(k:Int)||inV (.int (k:Int)) (zE os))=_
  rw[Qh k os];by_cases h:o=k
  ·subst h;simp
  ·have e:((o:Int)==(k:Int))=false:=by simp;omega
   rw[e,Vb,decide_eq_decide];exact⟨fun z=>jA _ z,fun z=>(qg.mp z).resolve_left fun y=>h y.symm⟩
theorem Xh(k:Nat):∀os:List Nat,((os.map fun i:Nat=>(i:Int)).erase (k:Int))=(os.erase k).map fun i:Nat=>(i:Int)
 | []=>rfl
 | o::os=>by
  rw[jL,List.erase_cons,List.erase_cons];by_cases h:(o==k)=true
  ·have e:((o:Int)==(k:Int))=true:=by
    have:=eq_of_beq h;simp[this]
   rw[zu h,zu e]
  ·have e:¬((o:Int)==(k:Int))=true:=fun z=>h (by
    have:=eq_of_beq z;have:o=k:=by omega
    simp[this])
   rw[zo h,zo e,jL,Xh k os]
theorem QK{os:List Nat}{i:Nat}{x:V}(h:(zE os)[i]? =some x):∃k,os[i]? =some k/\x=.int (k:Int):=by
 unfold zE at h;rw[zU] at h;obtain⟨k,hk,rfl⟩:=qr.mp h;exact⟨k,hk,rfl⟩
def Early(os:List Nat)(c:List (Nat×Nat)):Prop:=∀p∈c,∀l:Nat,os[l]? =some p.2->∃k:Nat,k<l/\os[k]? =some p.1
theorem Early.snoc{os:List Nat}{g:List (Nat×Nat)}{k:Nat}(h:Early os g)(hk:∀p∈g,p.2=k->p.1∈os):Early (os++[k]) g:=by
 intro p hp l c;by_cases u:l<os.length
 ·rw[j9 u] at c
  obtain⟨j,h1,h2⟩:=h p hp l c;exact⟨j,h1,by rw[j9 (by omega)];exact h2⟩
 ·have s:l=os.length:=by
   have:=(zL.mp c).1;rw[zW] at this;simp at this;omega
  subst s;rw[xa (zQ _),wY] at c;have e:k=p.2:=by simpa using c
  obtain⟨j,i,A⟩:=Jp.mp (hk p hp e.symm);exact⟨j,i,by rw[j9 i,<- A];simp[i]⟩
theorem ByOrd.mem1{c:List Nat}{g:List (Nat×Nat)}(h:ByOrd c g){p:Nat×Nat}(hp:p∈g):p.1∈c:=by
 obtain⟨k,l,_,e,_⟩:=h p hp;exact je e
theorem ByOrd.mem2{c:List Nat}{g:List (Nat×Nat)}(h:ByOrd c g){p:Nat×Nat}(hp:p∈g):p.2∈c:=by
 obtain⟨k,l,_,_,e⟩:=h p hp;exact je e
theorem Early.ord{os ord:List Nat}{c:List (Nat×Nat)}(h:Early os c)(b:ByOrd ord c)(hp:os.Perm ord):ByOrd os c:=by
 intro p hq;obtain⟨l,i,g⟩:=Jp.mp (hp.mem_iff.mpr (b.mem2 hq));have e:os[l]? =some p.2:=by rw[<- g];simp[i]
 obtain⟨k,h1,h2⟩:=h p hq l e;exact⟨k,l,h1,h2,e⟩
def qU(left:List Nat)(c:List (Nat×Nat)):List Nat:=(c.filter fun p=>decide (p.1∈left)).map fun p=>p.2
def jK(left:List Nat)(c:List (Nat×Nat)):List Nat:=left.filter fun k=>!decide (k∈qU left c)
theorem Wx{left:List Nat}{g:List (Nat×Nat)}{c:Nat}:c∈qU left g↔∃p∈g,p.1∈left/\p.2=c:=by
 unfold qU;rw[qo];constructor
 ·rintro⟨p,hp,rfl⟩
  obtain⟨h1,h2⟩:=ji.mp hp;exact⟨p,h1,qQ h2,rfl⟩
 ·rintro⟨p,h1,h2,rfl⟩
  exact⟨p,ji.mpr ⟨h1,qk h2⟩,rfl⟩
theorem zb2{left g:List Nat}{l:List (Nat×Nat)}(b:ByOrd g l)(Q:g.Nodup)(hs:∀k∈left,k∈g)(B:left≠[]):jK left l≠[]:=by
 have D:∀(n:Nat) (k:Nat),k∈left->(∃i,i<n/\g[i]? =some k)->∃c∈left,c∉qU left l:=by
  intro n;induction n with
  | zero=>rintro k _ ⟨i,A,_⟩;omega
  | succ n O=>
   rintro k hk ⟨i,A,s⟩;by_cases E:k∈qU left l
   ·obtain⟨p,hp,h1,rfl⟩:=Wx.mp E
    obtain⟨x,y,L,G,u⟩:=b p hp;have e:y=i:=by
     have h1:=(zL.mp s).1;have h2:=(zL.mp u).1;have I:g[y]=g[i]:=by
      rw[qR h1] at s;rw[qR h2] at u;exact(jH u).trans (jH s).symm
     exact(yQ Q).mp I
    exact O p.1 h1 ⟨x,by omega,G⟩
   ·exact⟨k,hk,E⟩
 obtain⟨k,hk⟩:∃k,k∈left:=by
  cases left with
  | nil=>exact absurd rfl B
  | cons a r=>exact⟨a,by simp⟩
 obtain⟨i,A,s⟩:=Jp.mp (hs k hk);obtain⟨c,hc,J⟩:=D (i+1) k hk ⟨i,by omega,by rw[<- s];simp[A]⟩
 intro z;have:c∈jK left l:=ji.mpr ⟨hc,by simp[J]⟩
 rw[z] at this;cases this
theorem WD{H:Hp}{J:Job}{A:Addr}(h:Rep K H (vE J) (.ref A)):∃g i l c:Addr,SqT K H A [.ref g,.int J.hd,.ref i,.ref l,.ref c]/\Rep K H (.tup [.int J.gx,.int J.gy]) (.ref g)/\Rep K H (.tup (J.fs.map wz)) (.ref i)/\Rep K H (.tup (J.ps.map xE)) (.ref l)/\Rep K H (Zj J.as) (.ref c):=by
 obtain⟨a,xs,e,q,x0,r0,E,h0,x1,r1,e1,h1,x2,r2,e2,h2,x3,r3,G,Y,x4,r4,I,h4,L⟩:=h;cases e;subst E e1 e2 G I;have s:r4=[]:=L;subst s;have u:x1=.int J.hd:=h1;subst u;obtain⟨g,U,rfl,T⟩:=h0;obtain⟨i,Q,rfl,O⟩:=h2;obtain⟨l,px,rfl,pq⟩:=Y;obtain⟨c,D,rfl,B⟩:=h4;exact⟨g,i,l,c,q,⟨g,U,rfl,T⟩,⟨i,Q,rfl,O⟩,⟨l,px,rfl,pq⟩,⟨c,D,rfl,B⟩⟩
theorem yX{H:Hp}{g:List Dat}{a:Addr}(h:Rep K H (.tup g) (.ref a)):∃c,SqT K H a c/\Reps K H g c:=by
 obtain⟨i,c,e,q,r⟩:=h;cases e;exact⟨c,q,r⟩
inductive JT(K:W.Frag)(i:List V)(H:Hp)(Q:VK):Prop
 | mk (b g:Addr) (J:Job) (c:List Nat) (n:Int) (_:i=[.ref b,.ref g]) (_:BoxAt H b n) (_:n<600000) (_:Rep K H (vE J) (.ref g)) (_:JobOk J c) (_:∀(l:Addr) (os:List Nat) H',SameB b H H'->BoxAt H' b (n+60)->l≠b->H l=none->H' l=some (.lst (zE os))->os.Perm (List.range J.ps.length)->ByOrd os J.as->Q (.ref l) H'):JT K i H Q
def zan(K:W.Frag):Sp:=fun c H Q _=>JT K c H Q
inductive ziE(b l g i:Addr)(H:Hp)(n:Int)(J:Job)(m:Nat)(σ:St)(c:Hp):Prop
 | mk (left os:List Nat) (s u:Option V) (_:σ=[some (.ref b),some (.ref l),some (.ref g),some (.ref i),s,u]) (_:m=left.length) (_:SameB b H c) (_:BoxAt c b (n+os.length)) (_:c g=some (.lst (zE left))) (_:c i=some (.lst (zE os))) (_:(left++os).Perm (List.range J.ps.length)) (_:Early os J.as):ziE b l g i H n J m σ c
inductive ziF(b s i l:Addr)(H:Hp)(n:Int)(J:Job)(left:List Nat)(σ:St)(g:Hp):Prop
 | mk (c os:List Nat) (u A:Option V) (_:c.length<left.length) (_:σ=[some (.ref b),some (.ref s),some (.ref i),some (.ref l),u,A]) (_:SameB b H g) (_:BoxAt g b (n+os.length)) (_:g i=some (.lst (zE c))) (_:g l=some (.lst (zE os))) (_:(c++os).Perm (List.range J.ps.length)) (_:Early os J.as):ziF b s i l H n J left σ g
theorem zaG:zD ["_law_box_here","_law_job_here","_law_left","_law_found","_law_late","_law_free"] ["_law_box_here","_law_job_here"] (zr (topL 47)):=u5
theorem zdf{f:Addr}{fd:FuncData}(F:Fun K "_law_order" "_law_order" (topL 47) f fd)(B:Blt M)(U:Dfn P w K M C "_law_take" 1 ["_law_box_here","_law_size"] xH):FnOk P w K M C CX0 2 f fd ["_law_box_here","_law_job_here"] (zan K):=by
 have nd:=zaG.nd;refine F.ok zaG (fun vs H Q E h=>?_) (fun c0 A bs s H vs Q E hr h=>?_)
 ·obtain⟨b,jp,J,aq,n,rfl,_⟩:=h
  rfl
 ·obtain⟨b,jp,J,aq,n,rfl,B0,hn,rj,jo,k⟩:=h
  have hu:=hr.units0;have bx:=bG100000;have pl:=jo.pl;have al:=jo.al;obtain⟨g,fs,ps,as,qj,_,_,rp,ra⟩:=WD rj;obtain⟨L,qp,bv⟩:=yX rp;obtain⟨av,qa,bc⟩:=yX ra;have lp:=bv.len;rw[zp] at lp;have la:=bc.len;rw[zp] at la;refine⟨_,(zf (xc (qB (za (wf rfl rfl B.list rfl B.range xK (za (zy zO rfl B.len boot_len (za (zx zI (pv 1) ze (fun _ _=>rfl)) zd)) zd)) (za (zV zd) zd))) (jN rfl (zK (zA (i:=2) nd rfl (Or.inr rfl)) (zK (zA (i:=3) nd rfl (Or.inl rfl)) jv))))
   (zf (Wf jr (zF (QG hu) (pv 2) (zV zd) (zS _))
   (zf (zG (i:=4) nd rfl (Or.inr rfl) (wj ["_law_left"] [2] rfl rfl (by kernel_rfl) (vB (zx zI (pv 1) ze (fun _ _=>rfl))) (fun _ _ _ _=>(vC (zF (jP (K:=K) rfl) (pv 0) (pv 2) (by with_unfolding_all rfl)))) (fun _ _ _ _=>(pv 1))))
    (zf (XI ["_law_late"] [4] rfl rfl (by kernel_rfl) (qD (pv 2)) (fun _ _ _ _=>(vC (zF (JC (K:=K) rfl) (pv 0) (pv 1) (by with_unfolding_all rfl)))) (fun _ _ _ _=>(pv 0)) (zA (i:=5) nd rfl (Or.inl rfl)))
    (zf (qK (jO jV xG xF qF (pv 3) (za (zx qh (pv 5) (zi U hr.m rfl (za (pv 0) (za (zy zO rfl B.len boot_len (za (pv 5) zd)) zd))) (fun _ _=>rfl)) zd)))
    (zk (qK (jO jV PySem.F.slot_list_remove PySem.F.type_list_remove Yu (pv 2) (za (zx qh (pv 3) (zh8 zf7 ze) (fun _ _=>rfl)) zd))))))))
   (zk (zC (pv 3))))),?_⟩
  refine⟨_,rfl,jp,_,_,_,rfl,rfl,qj,rfl,ps,_,rfl,.inr qp,_,rfl,by omega,by omega,fun D h0=>⟨le0,fun G h1=>⟨le2,fun t ht=>?_⟩⟩⟩
  have eN:((List.range ((L.length:Int)).toNat).map fun i:Nat=>V.int (i:Int))=zE (List.range J.ps.length):=by
   unfold zE;rw[show((L.length:Int)).toNat=J.ps.length by omega]
  have n0:=B0.nne h0;have S0:=(ue b H).new (o:=.lst ((List.range ((L.length:Int)).toNat).map fun i:Nat=>V.int (i:Int))) h0
  have B1:=B0.new (o:=.lst ((List.range ((L.length:Int)).toNat).map fun i:Nat=>V.int (i:Int))) h0
  have L0:upd H D (.lst ((List.range ((L.length:Int)).toNat).map fun i:Nat=>V.int (i:Int))) D=some (.lst (zE (List.range J.ps.length))):=by rw[zb,eN]
  generalize upd H D (.lst ((List.range ((L.length:Int)).toNat).map fun i:Nat=>V.int (i:Int)))=H1 at S0 B1 L0 h1 ht
  have n1:=B1.nne h1;have N1:=S0.none h1 n1;have ba:D≠G:=zg L0 h1;have S1:=S0.new (o:=.lst []) h1;have B2:=B1.new (o:=.lst []) h1;have ac:=(zc (o:=.lst []) h1) _ _ L0;have L1:upd H1 G (.lst []) G=some (.lst []):=zb;generalize upd H1 G (.lst [])=H2 at S1 B2 ac L1 ht;have S2:=S1.new (o:=.tup [.ref D,.ref G]) ht;have B3:=B2.new (o:=.tup [.ref D,.ref G]) ht;have ae:=(zc (o:=.tup [.ref D,.ref G]) ht) _ _ ac;have af:=(zc (o:=.tup [.ref D,.ref G]) ht) _ _ L1;have T3:upd H2 t (.tup [.ref D,.ref G]) t=some (.tup [.ref D,.ref G]):=zb;generalize upd H2 t (.tup [.ref D,.ref G])=H3 at S2 B3 ae af T3;refine⟨t,_,rfl,u8 T3,rfl,_,_,rfl,_,_,rfl,rfl,?_⟩
  clear S0 S1 B1 B2 L0 ac L1 ht h1 T3;refine⟨ziE b jp D G H n J,
   ⟨_,List.range J.ps.length,[],none,none,rfl,rfl,S2,B3.mono (by simp),ae,af,by rw[z7],fun p _ l hl=>by simp at hl⟩,?_⟩
  clear S2 B3 ae af;rintro m σ H4 ⟨left,os,v4,v5,rfl,rfl,S4,B4,LL,LO,pm,ea⟩;have ab:=pm.length_eq;rw[zW,xV] at ab;refine⟨_,rfl,le0,fun q hq=>⟨D,q,_,rfl,rfl,u7 ((zc hq) _ _ LL),u7 zb,_,rfl,?_⟩⟩
  have S5:=S4.new (o:=.lst []) hq;have B5:=B4.new (o:=.lst []) hq;have Y:=(zc (o:=.lst []) hq) _ _ LL;have a0:=(zc (o:=.lst []) hq) _ _ LO;generalize upd H4 q (.lst [])=H5 at S5 B5 Y a0;clear S4 B4 LL LO hq;cases left with
  | nil=>
   refine ifF rfl ⟨_,rfl,k G os H5 S5 (B5.mono (by simp at ab;omega)) n1 N1 a0 (by simpa using pm) (ea.ord jo.bo ?_)⟩
   have:os.Perm (List.range J.ps.length):=by simpa using pm
   exact this.trans jo.op.symm
  | cons c rest=>
   refine ifT rfl ?_
   have bo:c::rest≠[]:=fun z=>by cases z
   generalize c::rest=left at *
   clear c rest;refine⟨ziF b jp D G H n J left,
    fun σ' H' ⟨ap,br,v4,v5,bn,e,a1,a2,a3,a4,a5,a6⟩=>⟨_,bn,ap,br,v4,v5,e,rfl,a1,a2,a3,a4,a5,a6⟩,?_⟩
   have T5:=SameT.trans (ua B0 S5) (SameT.refl H5);have bb:=qj.keep T5;have au:=qa.keep T5;have bd:=bc.keep T5 (qO J.as);refine⟨_,rfl,jp,_,_,_,rfl,rfl,bb,rfl,as,rfl,⟨_,au⟩,yI (K:=K) (a:=as) (xs:=av) (fun i zs H6=>zs=zE (qU left (J.as.take i))/\Same H5 H6) ⟨rfl,u9 _⟩ (fun i zs H6 ⟨_,u⟩=>u.sqT au) ?_ ?_⟩
   ·rintro i x zs H6 hx ⟨rfl,u⟩
    obtain⟨d,e1,r1⟩:=(bd.same u).get hx;rw[zU] at e1;obtain⟨p,ep,rfl⟩:=qr.mp e1;obtain⟨pa,xs,rfl,bt,y0,r0,f0,g0,y1,bu,f1,g1,f2⟩:=r1;subst f0 f1;cases(show bu=[] from f2)
    cases(show y0=_ from g0)
    cases(show y1=_ from g1)
    have hi:i<J.as.length:=(zL.mp ep).1;refine⟨pa,_,rfl,bt,rfl,_,_,rfl,_,_,rfl,rfl,rfl,?_⟩
    refine⟨_,rfl,_,rfl,D,zE left,rfl,.inl (u7 (u _ _ Y)),rfl,jb left,_,rfl,?_⟩
    have et:J.as.take (i+1)=J.as.take i++[p]:=qq ep;have an:(if false=true then !inV (.int (p.1:Int)) (zE left) else inV (.int (p.1:Int)) (zE left))=decide (p.1∈left):=Qh p.1 left
    rw[an];refine jX (fun c=>⟨_,rfl,?_,?_,u⟩) (fun c=>⟨?_,u⟩)
    ·have:(qU left (J.as.take i)).length<=J.as.length:=by
      unfold qU;rw[zp];refine jd (jt _ _) ?_
      rw[qP];omega
     rw[zT];omega
    ·rw[et]
     unfold qU;rw[xW,zM,Xx (by exact c)]
     unfold zE;rw[zM];rfl
    ·rw[et]
     unfold qU;rw[xW,Q7 (by exact c),ZC,z7]
   rintro zs H6 ⟨rfl,u⟩;have ax:J.as.take av.length=J.as:=by rw[la,qY]
   rw[ax];have bp:(qU left J.as).length<=300:=by
    unfold qU;rw[zp];exact jd (jt _ _) al
   refine⟨by rw[zT];omega,fun aa T=>?_⟩
   have S6:=(S5.trans (uf u)).new (o:=.lst (zE (qU left J.as))) T;have B6:=(B5.same u).new (o:=.lst (zE (qU left J.as))) T;have O:=(zc (o:=.lst (zE (qU left J.as))) T) _ _ (u _ _ Y);have aj:=(zc (o:=.lst (zE (qU left J.as))) T) _ _ (u _ _ a0);have ag:upd H6 aa (.lst (zE (qU left J.as))) aa=some (.lst (zE (qU left J.as))):=zb;generalize upd H6 aa (.lst (zE (qU left J.as)))=H7 at S6 B6 O aj ag;clear S5 B5 Y a0 u T T5 bb au bd;refine⟨_,rfl,D,rfl,⟨_,u7 O⟩,jD (K:=K) (a:=D) (xs:=zE left) (fun i zs H8=>zs=zE ((left.take i).filter fun k=>!decide (k∈qU left J.as))/\Same H7 H8) ⟨rfl,u9 _⟩ (fun i zs H8 ⟨_,u⟩=>u7 (u _ _ O)) ?_ ?_⟩
   ·rintro i x zs H8 hx ⟨rfl,u⟩
    obtain⟨c,ec,rfl⟩:=QK hx;have hi:i<left.length:=(zL.mp ec).1;refine⟨rfl,?_⟩
    refine⟨_,rfl,_,rfl,aa,zE (qU left J.as),rfl,.inl (u7 (u _ _ ag)),rfl,jb _,_,rfl,?_⟩
    have an:(if true=true then !inV (.int (c:Int)) (zE (qU left J.as)) else inV (.int (c:Int)) (zE (qU left J.as)))=!decide (c∈qU left J.as):=by rw[Qh];rfl
    rw[an,qq ec];refine jX (fun d=>⟨_,rfl,?_,?_,u⟩) (fun d=>⟨?_,u⟩)
    ·have:=jt (fun k=>!decide (k∈qU left J.as)) (left.take i)
     rw[qP] at this;rw[zT];omega
    ·rw[xW,Xx (by exact d)]
     unfold zE;rw[zM];rfl
    ·rw[xW,Q7 (by exact d),ZC,z7]
   rintro zs H8 ⟨rfl,u⟩;have bi:left.take (zE left).length=left:=by rw[zT,qY]
   rw[bi];have bm:(left.filter fun k=>!decide (k∈qU left J.as))=jK left J.as:=rfl
   rw[bm];have c2:(jK left J.as).length<=left.length:=jt _ _;refine⟨by rw[zT];omega,fun lf I=>?_⟩
   have S7:=(S6.trans (uf u)).new (o:=.lst (zE (jK left J.as))) I;have B7:=(B6.same u).new (o:=.lst (zE (jK left J.as))) I;have aw:=(zc (o:=.lst (zE (jK left J.as))) I) _ _ (u _ _ O);have ak:=(zc (o:=.lst (zE (jK left J.as))) I) _ _ (u _ _ aj);have ah:upd H8 lf (.lst (zE (jK left J.as))) lf=some (.lst (zE (jK left J.as))):=zb;have bq:=(B6.same u).nne I;generalize upd H8 lf (.lst (zE (jK left J.as)))=H9 at S7 B7 aw ak ah;clear S6 B6 O aj ag u I;have inr:∀x∈left,x∈aq:=fun x hx=>by
    have h1:=pm.mem_iff.mp (qm os hx);exact jo.op.mem_iff.mpr h1
   have ar:aq.Nodup:=jo.op.nodup_iff.mpr ZS;have bj:=zb2 jo.bo ar inr bo;have bw:0<(jK left J.as).length:=Vp.mpr bj;refine⟨_,rfl,.inl ⟨rfl,_,u7 ak⟩,_,rfl,_,rfl,_,rfl,lf,_,rfl,.inl (u7 ah),b,_,_,rfl,B7,by omega,by rw[zT];omega,by rw[zT];omega,fun r Ha r0 r1 Ba Sa=>?_⟩
   rw[zT] at r1;have b0:r.toNat<(jK left J.as).length:=by omega
   have er:(zE (jK left J.as))[r.toNat]? =some (.int (((jK left J.as)[r.toNat]:Nat):Int)):=by
    unfold zE;rw[zU,qR b0];rfl
   have ay:atI (zE (jK left J.as)) r=some (.int (((jK left J.as)[r.toNat]:Nat):Int)):=by
    have:=zY er;rwa[show((r.toNat:Nat):Int)=r by omega] at this
   have az:=vY b0;generalize (jK left J.as)[r.toNat]=c at er ay az;obtain⟨cl,cn⟩:=ji.mp az;have bh:c∉qU left J.as:=by simpa using cn
   have be:=Sa _ _ ah bq;have bg:=Sa _ _ ak n1;have bf:=Sa _ _ aw n0;refine⟨lf,_,_,_,rfl,rfl,u7 be,ay,G,_,_,rfl,rfl,bg,by rw[zT];omega,?_⟩
   have eO:zE os++[V.int (c:Int)]=zE (os++[c]):=by unfold zE;rw[zM];rfl
   rw[eO];have Sb:=(S7.trans Sa).put (o:=.lst (zE (os++[c]))) N1;have Bb:=Ba.other (o:=.lst (zE (os++[c]))) n1;have am:upd Ha G (.lst (zE (os++[c]))) G=some (.lst (zE (os++[c]))):=zb;have ai:upd Ha G (.lst (zE (os++[c]))) D=some (.lst (zE left)):=by rw[zj ba];exact bf
   generalize upd Ha G (.lst (zE (os++[c])))=Hb at Sb Bb am ai;have ao:atI (zE (os++[c])) (-1)=some (.int (c:Int)):=by
    have:zE (os++[c])=zE os++[V.int (c:Int)]:=eO.symm;rw[this];exact zdK _ _
   refine⟨_,rfl,.inl ⟨rfl,_,u7 ai⟩,_,rfl,_,rfl,G,_,_,_,rfl,rfl,u7 am,ao,D,left.map fun i:Nat=>(i:Int),(c:Int),rfl,rfl,by rw[ai,Ws],qo.mpr ⟨c,cl,rfl⟩,?_⟩
   have eE:((left.map fun i:Nat=>(i:Int)).erase (c:Int)).map V.int=zE (left.erase c):=by rw[Xh,Ws]
   rw[eE];have N0:H D=none:=h0;have bz:(left.erase c).length+1=left.length:=by
    have:=Y2 cl;have:=YZ cl;omega
   refine⟨left.erase c,os++[c],_,_,by omega,rfl,Sb.put N0,(Bb.other n0).mono (by rw[zW];simp;omega),zb,by rw[zj ba.symm];exact am,?_,?_⟩
   ·have h1:(left++os).Perm (c::(left.erase c)++os):=(List.perm_cons_erase cl).append_right os
    have h2:(left.erase c++(os++[c])).Perm (c::left.erase c++os):=by
     rw[<- qx];exact Jq
    exact(h2.trans h1.symm).trans pm
   ·refine ea.snoc fun p hp e=>?_
    have h1:p.1∈left++os:=pm.mem_iff.mpr (jo.op.mem_iff.mp (jo.bo.mem1 hp));rcases zP.mp h1 with z | z
    ·exact absurd (Wx.mpr ⟨p,hp,z,e⟩) bh
    ·exact z
structure qV where
 pk:List (Nat×Nat)
 ly:List Nat
def Yt(k:Nat):Dat:=.int (k:Int)
def vH(t:qV):Dat:=.tup [.tup (t.pk.map xZ),.tup (t.ly.map Yt)]
theorem Wr:∀(l:List Nat),Dat.imms (l.map Yt)=true
 | []=>rfl
 | k::l=>by
  show(true&&Dat.imms (l.map Yt))=true;rw[Wr l];rfl
theorem JJ(t:qV):(vH t).imm=true:=by
 show(Dat.imms (t.pk.map xZ)&&(Dat.imms (t.ly.map Yt)&&true))=true;rw[qO,Wr];rfl
theorem jW:∀(l:List qV),Dat.imms (l.map vH)=true
 | []=>rfl
 | t::l=>by
  show((vH t).imm&&Dat.imms (l.map vH))=true;rw[JJ,jW l];rfl
theorem Reps.perm{H:Hp}{α:Type}{f:α->Dat}{D B:List V}(h:D.Perm B):∀{g:List α},Reps K H (g.map f) B->∃i:List α,i.Perm g/\Reps K H (i.map f) D:=by
 induction h with
 | nil=>intro g h;exact⟨g,List.Perm.refl _,h⟩
 | cons x hp J=>
  intro g h;cases g with
  | nil=>cases(show _=[] from h)
  | cons a g=>
   obtain⟨y,r,e,h1,h2⟩:=h;cases e;obtain⟨i,p,q⟩:=J h2;exact⟨a::i,p.cons a,⟨_,_,rfl,h1,q⟩⟩
 | swap x y l=>
  intro g h;cases g with
  | nil=>cases(show _=[] from h)
  | cons a g=>
   obtain⟨u,r,e,h1,h2⟩:=h;cases e;cases g with
   | nil=>cases(show _=[] from h2)
   | cons c g=>
    obtain⟨u,r,e,G,I⟩:=h2;cases e;exact⟨c::a::g,List.Perm.swap a c g,⟨_,_,rfl,G,_,_,rfl,h1,I⟩⟩
 | trans h1 h2 s A=>
  intro g h;obtain⟨i,p,q⟩:=A h;obtain⟨E,L,O⟩:=s q;exact⟨E,L.trans p,O⟩
theorem J7{H:Hp}:∀(l:List Nat),Reps K H (l.map Yt) (zE l)
 | []=>rfl
 | k::l=>⟨_,_,rfl,rfl,J7 l⟩
theorem J4{H:Hp}{p:Nat×Nat}{x:V}(h:Rep K H (xZ p) x):∃a,x=.ref a/\SqT K H a [.int p.1,.int p.2]:=by
 obtain⟨B,I,rfl,c,D,G,i,u,E,g,l,A,s⟩:=h;subst i l;cases(show g=[] from s)
 cases(show D=_ from u)
 cases(show E=_ from A)
 exact⟨B,rfl,c⟩
inductive VT(K:W.Frag)(i:List V)(H:Hp)(Q:VK):Prop
 | mk (b pk:Addr) (n:Int) (l:List V) (c:List (Nat×Nat)) (_:i=[.ref b,.ref pk]) (_:BoxAt H b n) (_:n<900000) (_:pk≠b) (_:H pk=some (.lst l)) (_:Reps K H (c.map xZ) l) (_:c.length<=1000) (_:∀(p:Addr) (g:List (Nat×Nat)) H',SameB b H H'->BoxAt H' b (n+c.length)->g.Perm c->Rep K H' (vH ⟨g,c.map (·.1)⟩) (.ref p)->Q (.ref p) H'):VT K i H Q
def zcr(K:W.Frag):Sp:=fun c H Q _=>VT K c H Q
theorem zcI:zD ["_law_box_here","_law_picks"] ["_law_box_here","_law_picks"] (zr (topL 48)):=u5
theorem zeE{f:Addr}{fd:FuncData}(F:Fun K "_law_trip" "_law_trip" (topL 48) f fd)(B:Blt M)(c:Dfn P w K M C "_law_shuffled" 2 ["_law_box_here","_law_some"] (XF K)):FnOk P w K M C CX0 3 f fd ["_law_box_here","_law_picks"] (zcr K):=by
 have nd:=zcI.nd;refine F.ok zcI (fun vs H Q E h=>?_) (fun aj A ae s H vs Q E hr h=>?_)
 ·obtain⟨b,pk,n,L,g,rfl,_⟩:=h
  rfl
 ·obtain⟨b,pk,n,L,g,rfl,B0,hn,O,hp,rp,lp,k⟩:=h
  have ai:=bG100000;have lx:L.length=g.length:=by have:=rp.len;rwa[zp] at this
  refine⟨_,(zk (zC (qB (za (ja j6 rfl B.tuple xg (za (zi c hr.m rfl (za (pv 0) (za (pv 1) zd))) zd)) (za (ja j6 rfl B.tuple xg (za (wj [] [] rfl rfl (by kernel_rfl) (qD (pv 1)) (fun _ _ _ _=>jk) (fun _ _ _ _=>(pv 0))) zd)) zd))))),?_⟩
  refine⟨_,rfl,_,rfl,b,pk,n,L,rfl,B0,by omega,O,hp,by omega,fun l D H1 S1 B1 nl hl hL pm=>?_⟩
  have T1:=ua B0 S1;obtain⟨sh,ah,ag⟩:=Reps.perm pm (rp.keep T1 (qO g));have af:=rp.keep T1 (qO g);refine⟨l,D,rfl,.inl ⟨u7 hL,fun U I=>?_⟩⟩
  have s1:=zc (o:=.tup D) I;have G:=s1 _ _ (S1 _ _ hp O);have T:=af.same s1;have u:=ag.same s1;have Y:upd H1 U (.tup D) U=some (.tup D):=zb;have S2:=S1.new (o:=.tup D) I;have B2:=B1.new (o:=.tup D) I;generalize upd H1 U (.tup D)=H2 at s1 G T u Y S2 B2;refine⟨_,rfl,pk,rfl,⟨_,u7 G⟩,jD (K:=K) (a:=pk) (xs:=L) (fun i zs H3=>zs=zE ((g.map (·.1)).take i)/\Same H2 H3) ⟨rfl,u9 _⟩ (fun i zs H3 ⟨_,J⟩=>u7 (J _ _ G)) ?_ ?_⟩
  ·rintro i x zs H3 hx ⟨rfl,J⟩
   obtain⟨d,e1,r1⟩:=(T.same J).get hx;rw[zU] at e1;obtain⟨p,ep,rfl⟩:=qr.mp e1;obtain⟨pa,rfl,qp⟩:=J4 r1;have hi:i<g.length:=(zL.mp ep).1;refine⟨pa,_,rfl,qp,rfl,_,_,rfl,_,_,rfl,rfl,rfl,?_⟩
   refine⟨_,rfl,?_,?_,J⟩
   ·rw[zT,qP,zp];omega
   ·have a0:(g.map (·.1))[i]? =some p.1:=by rw[zU,ep];rfl
    rw[qq a0];unfold zE;rw[zM];rfl
  rintro zs H3 ⟨rfl,J⟩;have aa:(g.map (·.1)).take L.length=g.map (·.1):=by rw[lx,<- zp (f:=(·.1)),qY]
  rw[aa];refine⟨by rw[zT,zp];omega,fun l2 ab=>⟨l2,_,rfl,.inl ⟨u7 zb,fun t2 ac=>⟨le2,fun q hq=>?_⟩⟩⟩⟩
  have s2:=(J.trans (zc (o:=.lst (zE (g.map (·.1)))) ab)).trans (zc (o:=.tup (zE (g.map (·.1)))) ac)
  have s3:=s2.trans (zc (o:=.tup [.ref U,.ref t2]) hq);refine k q sh _ (S2.trans (uf s3)) (B2.same s3 |>.mono (by omega)) ah ?_
  refine⟨q,_,rfl,u8 zb,_,_,rfl,⟨U,D,rfl,u8 (s3 _ _ Y),u.same s3⟩,_,_,rfl,⟨t2,_,rfl,u8 ((zc hq) _ _ zb),J7 _⟩,rfl⟩
def VB(J:Job)(p:Nat×Nat):Prop:=∃g c,J.ps[p.1]? =some g/\J.fs[p.2]? =some c/\c.k=g.k
structure Ju(J:Job)(t:qV):Prop where
 p1:1<=t.pk.length
 p2:(t.pk.length:Int)<=J.hd
 ok:∀p∈t.pk,VB J p
 ly:t.ly.Perm (t.pk.map (·.1))
def zX(ts:List qV):List Nat:=ts.flatMap (·.ly)
theorem jR(ts:List qV)(t:qV):zX (ts++[t])=zX ts++t.ly:=by
 unfold zX;rw[ZW];simp
def vd(ts:List qV):List (Nat×Nat):=ts.flatMap (·.pk)
theorem vc(ts:List qV)(t:qV):vd (ts++[t])=vd ts++t.pk:=by
 unfold vd;rw[ZW];simp
structure StL(J:Job)(st:List Int)(l:List (Nat×Nat)):Prop where
 len:st.length=J.fs.length
 nn:∀(f:Nat) (z:Int),st[f]? =some z->0<=z
 cnt:∀(f:Nat) (z:Int) (fe:xC),st[f]? =some z->J.fs[f]? =some fe->z=fe.m-((l.map (·.2)).count f:Int)
theorem StL.nil{J:Job}(h:∀f∈J.fs,0<=f.m):StL J (J.fs.map (·.m)) []:=by
 refine⟨zp ..,fun f z e=>?_,fun f z c e g=>?_⟩
 ·rw[zU] at e
  obtain⟨x,i,rfl⟩:=qr.mp e;exact h x (je i)
 ·rw[zU,g] at e
  cases e;show c.m=c.m-((0:Nat):Int);omega
theorem StL.perm{J:Job}{st:List Int}{l c:List (Nat×Nat)}(s:StL J st l)(p:l.Perm c):StL J st c:=⟨s.len,s.nn,fun f z i e g=>by rw[<- (p.map (·.2)).count_eq];exact s.cnt f z i e g⟩
theorem StL.take{J:Job}{st:List Int}{l:List (Nat×Nat)}(s:StL J st l){c f:Nat}{z:Int}(e:st[f]? =some z)(h:0<z):StL J (st.set f (z-1)) (l++[(c,f)]):=by
 refine⟨by rw[ZE];exact s.len,fun g y i=>?_,fun g y A i u=>?_⟩
 ·rw[YR] at i
  split at i
  ·split at i
   ·cases i;omega
   ·cases i
  ·exact s.nn g y i
 ·rw[zM,Zf]
  show _=_-((_+[f].count g:Nat):Int);rw[YR] at i;split at i
  ·split at i
   ·cases i
    rename_i x _
    subst x;have:=s.cnt f z A e u;rw[Vy];omega
   ·cases i
  ·rename_i x
   have:=s.cnt g y A i u;rw[zdW (a:=g) (l:=[f]) (fun z=>x (zR.mp z).symm)]
   omega
structure Y7(J:Job)(os:List Nat)(ts:List qV):Prop where
 tr:∀t∈ts,Ju J t
 sub:(zX ts).Sublist os
 len:ts.length<=60
 cl:∀p∈J.as,p.2∈zX ts->p.1∈zX ts
 stk:∃st,StL J st (vd ts)
structure PlC(J:Job)(ou laid pre:List Nat):Prop where
 a1:∀x∈pre,x∈laid\/x∈ou
 a2:∀p∈J.as,p.2∈laid->p.1∈laid
theorem PlC.out{J:Job}{ou laid g:List Nat}{c:Nat}(h:PlC J ou laid g):PlC J (ou++[c]) laid (g++[c]):=⟨fun x hx=>by
 rcases zP.mp hx with z | z
 ·exact(h.a1 x z).imp id fun y=>qm _ y
 ·exact .inr (qE _ z),h.a2⟩
theorem PlC.lay{J:Job}{ou laid os:List Nat}{c i:Nat}(h:PlC J ou laid (os.take i))(s:os[i]? =some c)(D:os.Nodup)(g:ByOrd os J.as)(hc:∀p∈J.as,p.2=c->p.1∉ou):PlC J ou (laid++[c]) (os.take i++[c]):=⟨fun x hx=>by
 rcases zP.mp hx with z | z
 ·exact(h.a1 x z).imp (fun y=>qm _ y) id
 ·exact .inl (qE _ z),fun p hp B=>by
 rcases zP.mp B with z | z
 ·exact qm _ (h.a2 p hp z)
 ·have e:p.2=c:=zR.mp z
  obtain⟨k,l,G,e1,e2⟩:=g p hp;have E:l=i:=by
   obtain⟨h1,u⟩:=zL.mp e2;obtain⟨h2,A⟩:=zL.mp s;exact(yQ D).mp (u.trans (e.trans A.symm))
  have:p.1∈os.take i:=List.mem_iff_getElem?.mpr ⟨k,by rw[List.getElem?_take,zu (by omega)];exact e1⟩
  rcases h.a1 _ this with y | y
  ·exact qm _ y
  ·exact absurd y (hc p hp e)⟩
structure PlS(K:W.Frag)(H:Hp)(b ls lf lp lo lq:Addr)(st:List Int)(tr pk:List V)(ou os:List Nat)(ts:List qV)(pks:List (Nat×Nat))(H':Hp)(n:Int):Prop where
 s:SameB b H H'
 bx:BoxAt H' b n
 nb:ls≠b/\lf≠b/\lp≠b/\lo≠b/\lq≠b
 nn:ls≠lf/\ls≠lp/\ls≠lo/\ls≠lq/\lf≠lp/\lf≠lo/\lf≠lq/\lp≠lo/\lp≠lq/\lo≠lq
 hN:H ls=none/\H lf=none/\H lp=none/\H lo=none
 hs:H' ls=some (.lst (st.map V.int))
 hf:H' lf=some (.lst tr)
 hp:H' lp=some (.lst pk)
 ho:H' lo=some (.lst (zE ou))
 hq:H' lq=some (.lst (zE os))
 rt:Reps K H' (ts.map vH) tr
 rk:Reps K H' (pks.map xZ) pk
variable{H H' N:Hp}{b ls lf lp lo lq:Addr}{st:List Int}{tr pk:List V}{ou os:List Nat}{ts:List qV}{pks:List (Nat×Nat)}{n m:Int}
theorem PlS.draw(g:PlS K H b ls lf lp lo lq st tr pk ou os ts pks H' n)(S:SameB b H' N)(B:BoxAt N b m):PlS K H b ls lf lp lo lq st tr pk ou os ts pks N m:=by
 obtain⟨c,i,l,s,u⟩:=g.nb;have T:=ua g.bx S;exact⟨g.s.trans S,B,g.nb,g.nn,g.hN,S _ _ g.hs c,S _ _ g.hf i,S _ _ g.hp l,S _ _ g.ho s,S _ _ g.hq u,g.rt.keep T (jW ts),g.rk.keep T (qO pks)⟩
theorem PlS.same(g:PlS K H b ls lf lp lo lq st tr pk ou os ts pks H' n)(S:Same H' N):PlS K H b ls lf lp lo lq st tr pk ou os ts pks N n:=g.draw (uf S) (g.bx.same S)
theorem PlS.new{q:Addr}{o:HO}(g:PlS K H b ls lf lp lo lq st tr pk ou os ts pks H' n)(h:H' q=none):PlS K H b ls lf lp lo lq st tr pk ou os ts pks (upd H' q o) n:=g.same (zc h)
theorem PlS.mono(g:PlS K H b ls lf lp lo lq st tr pk ou os ts pks H' n)(h:n<=m):PlS K H b ls lf lp lo lq st tr pk ou os ts pks H' m:=⟨g.s,g.bx.mono h,g.nb,g.nn,g.hN,g.hs,g.hf,g.hp,g.ho,g.hq,g.rt,g.rk⟩
theorem PlS.putO{c:List Nat}(g:PlS K H b ls lf lp lo lq st tr pk ou os ts pks H' n):PlS K H b ls lf lp lo lq st tr pk c os ts pks (upd H' lo (.lst (zE c))) n:=by
 obtain⟨s,u,A,l,B⟩:=g.nb;obtain⟨a1,a2,a3,a4,a5,a6,a7,a8,a9,i⟩:=g.nn;have T:=ud (ys:=zE c) g.ho;exact⟨g.s.put g.hN.2.2.2,g.bx.other l,g.nb,g.nn,g.hN,by rw[zj a3];exact g.hs,by rw[zj a6];exact g.hf,by rw[zj a8];exact g.hp,zb,by rw[zj i.symm];exact g.hq,g.rt.keep T (jW ts),g.rk.keep T (qO pks)⟩
theorem PlS.putS{st':List Int}(g:PlS K H b ls lf lp lo lq st tr pk ou os ts pks H' n):PlS K H b ls lf lp lo lq st' tr pk ou os ts pks (upd H' ls (.lst (st'.map V.int))) n:=by
 obtain⟨i,l,s,u,A⟩:=g.nb;obtain⟨a1,a2,a3,a4,a5,a6,a7,a8,a9,c⟩:=g.nn;have T:=ud (ys:=st'.map V.int) g.hs;exact⟨g.s.put g.hN.1,g.bx.other i,g.nb,g.nn,g.hN,zb,by rw[zj a1.symm];exact g.hf,by rw[zj a2.symm];exact g.hp,by rw[zj a3.symm];exact g.ho,by rw[zj a4.symm];exact g.hq,g.rt.keep T (jW ts),g.rk.keep T (qO pks)⟩
theorem PlS.putF{v:V}{t:qV}(g:PlS K H b ls lf lp lo lq st tr pk ou os ts pks H' n)(hv:Rep K H' (vH t) v):PlS K H b ls lf lp lo lq st (tr++[v]) pk ou os (ts++[t]) pks (upd H' lf (.lst (tr++[v]))) n:=by
 obtain⟨l,i,s,u,A⟩:=g.nb;obtain⟨a1,a2,a3,a4,a5,a6,a7,a8,a9,c⟩:=g.nn;have T:=ud (ys:=tr++[v]) g.hf;refine⟨g.s.put g.hN.2.1,g.bx.other i,g.nb,g.nn,g.hN,by rw[zj a1];exact g.hs,zb,by rw[zj a5.symm];exact g.hp,by rw[zj a6.symm];exact g.ho,by rw[zj a7.symm];exact g.hq,?_,g.rk.keep T (qO pks)⟩
 rw[zM];exact ub (hv.keep T (JJ t)) (g.rt.keep T (jW ts))
theorem PlS.putP{v:V}{p:Nat×Nat}(g:PlS K H b ls lf lp lo lq st tr pk ou os ts pks H' n)(hv:Rep K H' (xZ p) v):PlS K H b ls lf lp lo lq st tr (pk++[v]) ou os ts (pks++[p]) (upd H' lp (.lst (pk++[v]))) n:=by
 obtain⟨l,s,i,u,A⟩:=g.nb;obtain⟨a1,a2,a3,a4,a5,a6,a7,a8,a9,c⟩:=g.nn;have T:=ud (ys:=pk++[v]) g.hp;refine⟨g.s.put g.hN.2.2.1,g.bx.other i,g.nb,g.nn,g.hN,by rw[zj a2];exact g.hs,by rw[zj a5];exact g.hf,zb,by rw[zj a8.symm];exact g.ho,by rw[zj a9.symm];exact g.hq,g.rt.keep T (jW ts),?_⟩
 rw[zM];exact ub (hv.keep T (by rfl)) (g.rk.keep T (qO pks))
theorem PlS.newP{q:Addr}(g:PlS K H b ls lf lp lo lq st tr pk ou os ts pks H' n)(h:H' q=none):PlS K H b ls lf q lo lq st tr [] ou os ts [] (upd H' q (.lst [])) n:=by
 obtain⟨s,u,D,A,B⟩:=g.nb;obtain⟨a1,a2,a3,a4,a5,a6,a7,a8,a9,i⟩:=g.nn;have c:=g.new (o:=.lst []) h;have l:=g.bx.nne h;exact⟨c.s,c.bx,⟨s,u,l,A,B⟩,⟨a1,zg g.hs h,a3,a4,zg g.hf h,a6,a7,(zg g.ho h).symm,(zg g.hq h).symm,i⟩,⟨g.hN.1,g.hN.2.1,g.s.none h l,g.hN.2.2.2⟩,c.hs,c.hf,zb,c.ho,c.hq,c.rt,rfl⟩
inductive zhx(t:TT)(σ:St)(H:Hp)(Q:Bool->Hp->Prop):Prop
 | mk (J:Bool->Hp->Prop) (_:t σ H J) (_:∀c H',J c H'->Q c H'):zhx t σ H Q
theorem zaO{X:Cx}{e:Expr}{t:TT}(h:PT X e t):PT X e (zhx t):=by
 intro g s σ H Q I u;obtain⟨J,A,B⟩:=u;exact thn (h g s σ H J I A) fun c s1 ⟨i,l,q⟩=>⟨i,l,B _ _ q⟩
theorem xJ{H:Hp}{p:xC}{x:V}(h:Rep K H (wz p) x):∃a c,x=.ref a/\SqT K H a [.str p.k,.ref c,.int p.m]/\SqT K H c [.int p.x,.int p.y]:=by
 obtain⟨a,xs,rfl,q,L,U,i,A,y1,Y,l,B,O,J,s,D,u⟩:=h;subst i l s;cases(show J=[] from u)
 cases(show L=_ from A)
 cases(show O=_ from D)
 obtain⟨c,ys,rfl,I,Q,s0,g,E,T,s1,e1,G,e2⟩:=B;subst g e1;cases(show s1=[] from e2)
 cases(show Q=_ from E)
 cases(show T=_ from G)
 exact⟨a,c,rfl,q,I⟩
theorem yc{H:Hp}{p:xb}{x:V}(h:Rep K H (xE p) x):∃a c,x=.ref a/\SqT K H a [.str p.k,.ref c]/\SqT K H c [.int p.x,.int p.y]:=by
 obtain⟨a,T,rfl,q,I,O,i,u,U,G,l,A,s⟩:=h;subst i l;cases(show G=[] from s)
 cases(show I=_ from u)
 obtain⟨c,Y,rfl,E,J,Q,g,B,L,s1,e1,D,e2⟩:=A;subst g e1;cases(show s1=[] from e2)
 cases(show J=_ from B)
 cases(show L=_ from D)
 exact⟨a,c,rfl,q,E⟩
theorem Q1{H:Hp}{α:Type}{f:α->Dat}{l:List α}{g:List V}(h:Reps K H (l.map f) g){i:Nat}{a:α}(s:l[i]? =some a):∃v,g[i]? =some v/\Rep K H (f a) v:=by
 have u:=h.len;rw[zp] at u;have c:i<g.length:=by have:=(zL.mp s).1;omega
 obtain⟨d,e,r⟩:=h.get (i:=i) (x:=g[i]) (by simp[c])
 rw[zU,s] at e;cases e;exact⟨g[i],by simp[c],r⟩
inductive VY(K:W.Frag)(s:List V)(H:Hp)(Q:VK):Prop
 | mk (b i:Addr) (J:Job) (g:List Nat) (c n:Int) (_:s=[.ref b,.ref i,.int c]) (_:BoxAt H b n) (_:n<500000) (_:Rep K H (vE J) (.ref i)) (_:JobOk J g) (_:0<=c) (_:c<=100) (_:∀(l:Addr) (os:List Nat) (ts:List qV) (tr:List V) H',SameB b H H'->BoxAt H' b (n+1000)->l≠b->H l=none->H' l=some (.lst tr)->Reps K H' (ts.map vH) tr->os.Perm (List.range J.ps.length)->ByOrd os J.as->Y7 J os ts->Q (.ref l) H'):VY K s H Q
def zct(K:W.Frag):Sp:=fun c H Q _=>VY K c H Q
theorem zcM:zD ["_law_box_here","_law_job_here","_law_most","_law_stock","_law_found","_law_picks","_law_out","_law_part","_law_some","_law_lost","_law_at"] ["_law_box_here","_law_job_here","_law_most"] (zr (topL 49)):=u5
def zbl(b:_)(l:_)(c:_)(ls:_)(lf:_)(lo:_)(K:_)(H:_)(lq:_)(os:_)(n:_)(J:_):=fun(i:Nat) (σ:St) (H':Hp)=>(ziK fun(lp:Addr) (s u A g:Option V) (st:List Int) (tr pk:List V) (ou:List Nat) (ts:List qV) (pks:List (Nat×Nat))=>ziM (σ=[some (.ref b),some (.ref l),some (.int c),some (.ref ls),some (.ref lf),some (.ref lp),some (.ref lo),s,u,A,g]) (PlS K H b ls lf lp lo lq st tr pk ou os ts pks H' (n+60+10*i)) (StL J st (vd ts++pks)) ((∀t∈ts,Ju J t)) ((∀p∈pks,VB J p)) ((pks.length:Int)<J.hd) ((zX ts++pks.map (·.1)).Sublist (os.take i)) (ts.length+pks.length<=i) (ou.length<=i) (PlC J ou (zX ts++pks.map (·.1)) (os.take i)):Prop)
theorem zeI{f:Addr}{fd:FuncData}(F:Fun K "_law_plan" "_law_plan" (topL 49) f fd)(B:Blt M)(aa:Dfn P w K M C "_law_take" 1 ["_law_box_here","_law_size"] xH)(au:Dfn P w K M C "_law_order" 2 ["_law_box_here","_law_job_here"] (zan K))(ak:Dfn P w K M C "_law_trip" 3 ["_law_box_here","_law_picks"] (zcr K)):FnOk P w K M C CX0 4 f fd ["_law_box_here","_law_job_here","_law_most"] (zct K):=by
 have nd:=zcM.nd;refine F.ok zcM (fun vs H Q E h=>?_) (fun ea A dn s H vs Q E hr h=>?_)
 ·obtain⟨b,jp,J,cu,af,n,rfl,_⟩:=h
  rfl
 ·obtain⟨b,jp,J,cu,af,n,rfl,B0,hn,rj,jo,ef,eg,k⟩:=h
  have hu:=hr.units0;have e6:=bG100000;have pl:=jo.pl;have al:=jo.al;have fl:=jo.fl;have eb:=jo.hd0;have ed:=jo.hd1;obtain⟨g,fs,ps,as,qj,_,rf,rp,ra⟩:=WD rj;obtain⟨fv,qf,cf⟩:=yX rf;obtain⟨ej,qp,d4⟩:=yX rp;obtain⟨av,qa,d2⟩:=yX ra;have cp:=cf.len;rw[zp] at cp;have lp:=d4.len;rw[zp] at lp;have la:=d2.len;rw[zp] at la;refine⟨_,(zf (zG (i:=3) nd rfl (Or.inr rfl) (jZ [] [] rfl rfl (by kernel_rfl) (vB (zx zI (pv 1) ze (fun _ _=>rfl))) (fun _ _ _ _=>jk) (fun _ _ _ _=>(zx (jc (K:=K) rfl) (pv 0) ze (fun _ _=>rfl)))))
   (zf (xc (qB (za (zV zd) (za (zV zd) (za (zV zd) zd)))) (jN rfl (zK (zA (i:=4) nd rfl (Or.inl rfl)) (zK (zA (i:=5) nd rfl (Or.inl rfl)) (zK (zA (i:=6) nd rfl (Or.inr rfl)) jv)))))
   (zf (qS jr rfl (qD (zi au hr.m rfl (za (pv 0) (za (pv 1) zd)))) (zA (i:=7) nd rfl (Or.inr rfl))
   (zf (zgw ["_law_stock","_law_part","_law_job_here"] [3,7,1] rfl rfl (by kernel_rfl) (Wi rfl B.enumerate (za (zx zI (pv 1) ze (fun _ _=>rfl)) zd)) (fun _ _ _ _=>(vC (PW.pt (Qy (zF xm (zx (jc (K:=K) rfl) (pv 1) ze (fun _ _=>rfl)) (zx (jc (K:=K) rfl) (zx (jc (K:=K) rfl) (zx (jc (K:=K) rfl) (pv 4) ze (fun _ _=>rfl)) (pv 3) (fun _ _=>rfl)) ze (fun _ _=>rfl)) (zS _)) (yY (zF J5 (zx (QR (K:=K) rfl) (pv 2) (pv 0) (fun _ _=>rfl)) ze (zS _))))))) (fun _ _ _ _=>(pv 0)) (zA (i:=8) nd rfl (Or.inl rfl)))
    (zf (yb (zG (i:=9) nd rfl (Or.inl rfl) (zfT (qZ (zc9 hu) (pv 8) (zV zd) (zS _)) (we (zy (Xo rfl) rfl B.any WT (za (wj ["_law_part","_law_out"] [7,6] rfl rfl (by kernel_rfl) (vB (zx zI (pv 1) ze (fun _ _=>rfl))) (fun _ _ _ _=>jk) (fun _ _ _ _=>(yF (qZ xm (pv 1) (pv 2) (zS _)) (we (qZ (jP (K:=K) rfl) (pv 0) (pv 3) (by with_unfolding_all rfl)))))) zd))))))
    (zf (yb (jq (zaO (PW.pt (vL (xx (pv 9)) (wL (PW.pt (Qy (zF J5 (pv 2) ze (zS _)) (yY (zF xm (zi aa hr.m rfl (za (pv 0) (za (pv 2) zd))) ze (zS _)))))))))
    (zk (qK (jO jV xG xF qF (pv 6) (za (pv 7) zd))))
    (zf (zG (i:=10) nd rfl (Or.inl rfl) (zx qh (pv 8) (zi aa hr.m rfl (za (pv 0) (za (zy zO rfl B.len boot_len (za (pv 8) zd)) zd))) (fun _ _=>rfl)))
     (zf (xc (zH vh (zx qh (pv 3) (pv 10) (fun _ _=>rfl)) ze) (Zq (pv 3) (pv 10) wJ))
     (zk (qK (jO jV xG xF qF (pv 5) (za (qB (za (pv 7) (za (pv 10) zd))) zd))))))))
    (zk (jq (zaO (PW.pt (Qy (zF (QG hu) (pv 5) (zV zd) (zS _)) (yY (PW.pt (vL (zF xm (zy zO rfl B.len boot_len (za (pv 5) zd)) (zx zI (pv 1) ze (fun _ _=>rfl)) (zS _)) (wL (zF xm (zi aa hr.m rfl (za (pv 0) (za ze zd))) ze (zS _)))))))))
    (zf (qK (jO jV xG xF qF (pv 4) (za (zi ak hr.m rfl (za (pv 0) (za (pv 5) zd))) zd)))
     (zk (zG (i:=5) nd rfl (Or.inl rfl) (zV zd))))
    qy))))))
   (zk (zC (zH jQ (pv 4) (zH zc7 (zV (za (zi ak hr.m rfl (za (pv 0) (za (pv 5) zd))) zd)) (ja yh rfl B.int wW (za (qZ (QG hu) (pv 5) (zV zd) (zS _)) zd))))))))),?_⟩
  refine⟨_,rfl,jp,_,_,_,rfl,rfl,qj,rfl,fs,rfl,⟨_,qf⟩,yI (K:=K) (a:=fs) (xs:=fv) (fun i Y H1=>Y=((J.fs.take i).map (·.m)).map V.int/\Same H H1) ⟨rfl,u9 _⟩ (fun i Y H1 ⟨_,L⟩=>L.sqT qf) ?_ ?_⟩
  ·rintro i x Y H1 hx ⟨rfl,L⟩
   obtain⟨d,e1,r1⟩:=(cf.same L).get hx;rw[zU] at e1;obtain⟨p,ep,rfl⟩:=qr.mp e1;obtain⟨a,c,rfl,q,q'⟩:=xJ r1;have hi:i<J.fs.length:=(zL.mp ep).1;refine⟨rfl,⟨_,rfl,a,_,_,_,rfl,rfl,q,rfl,?_,?_,L⟩⟩
   ·rw[zp,zp,qP];omega
   ·rw[qq ep,zM,zM];rfl
  rintro Y H1 ⟨rfl,L⟩;have dc:J.fs.take fv.length=J.fs:=by rw[cp,qY]
  rw[dc];refine⟨by rw[zp,zp];omega,fun ls ap=>?_⟩
  have bu:StL J (J.fs.map (·.m)) []:=.nil fun f hf=>(jo.fa f hf).2.2.1
  generalize J.fs.map (·.m)=aj at bu
  have S1:=(uf (b:=b) L).new (o:=.lst (aj.map V.int)) ap;have B1:=(B0.same L).new (o:=.lst (aj.map V.int)) ap;have LS:upd H1 ls (.lst (aj.map V.int)) ls=some (.lst (aj.map V.int)):=zb;have NS:H ls=none:=(uf (b:=b) L).none ap ((B0.same L).nne ap);have cr:=(B0.same L).nne ap;generalize upd H1 ls (.lst (aj.map V.int))=H2 at S1 B1 LS;refine⟨le0,fun lf ag=>⟨le0,fun I a0=>⟨le0,fun lo O=>⟨le3,fun t ht=>?_⟩⟩⟩⟩
  have ca:=B1.nne ag;have NF:=S1.none ag ca;have S2:=S1.new (o:=.lst []) ag;have B2:=B1.new (o:=.lst []) ag;have bf:=(zc (o:=.lst []) ag) _ _ LS;have b0:upd H2 lf (.lst []) lf=some (.lst []):=zb;generalize upd H2 lf (.lst [])=H3 at S2 B2 bf b0 a0 O ht;have cd:=B2.nne a0;have NP:=S2.none a0 cd;have S3:=S2.new (o:=.lst []) a0;have B3:=B2.new (o:=.lst []) a0;have bg:=(zc (o:=.lst []) a0) _ _ bf;have ba:=(zc (o:=.lst []) a0) _ _ b0;have bd:upd H3 I (.lst []) I=some (.lst []):=zb;generalize upd H3 I (.lst [])=H4 at S3 B3 bg ba bd O ht;have cb:=B3.nne O;have NO:=S3.none O cb;have S4:=S3.new (o:=.lst []) O;have B4:=B3.new (o:=.lst []) O;have c4:=(zc (o:=.lst []) O) _ _ bg;have bz:=(zc (o:=.lst []) O) _ _ ba;have c3:=(zc (o:=.lst []) O) _ _ bd;have c0:upd H4 lo (.lst []) lo=some (.lst []):=zb;have a1:ls≠lf:=zg LS ag;have a2:ls≠I:=zg bf a0;have a3:ls≠lo:=zg bg O;have a5:lf≠I:=zg b0 a0;have a6:lf≠lo:=zg ba O;have a8:I≠lo:=zg bd O;generalize upd H4 lo (.lst [])=H5 at S4 B4 c4 bz c3 c0 ht;have s5:=zc (o:=.tup [.ref lf,.ref I,.ref lo]) ht;have T5:upd H5 t (.tup [.ref lf,.ref I,.ref lo]) t=some (.tup [.ref lf,.ref I,.ref lo]):=zb;have S5:=S4.new (o:=.tup [.ref lf,.ref I,.ref lo]) ht;have B5:=B4.new (o:=.tup [.ref lf,.ref I,.ref lo]) ht;have bh:=s5 _ _ c4;have bb:=s5 _ _ bz;have be:=s5 _ _ c3;have bc:=s5 _ _ c0;generalize upd H5 t (.tup [.ref lf,.ref I,.ref lo])=H6 at s5 T5 S5 B5 bh bb be bc;refine⟨t,_,rfl,u8 T5,rfl,_,_,rfl,_,_,rfl,_,_,rfl,rfl,?_⟩
  clear S1 S2 S3 S4 B1 B2 B3 B4 LS bf bg c4 b0 ba bz bd c3 c0 ap ag a0 O ht s5 T5;have d3:=rj.keep (ua B0 S5) (vP J);refine⟨_,rfl,_,rfl,b,jp,J,cu,n,rfl,B5.mono (by omega),by omega,d3,jo,fun lq os H7 S7 B7 dm ax ch pm ob=>?_⟩
  have eh:os.length=J.ps.length:=by have:=pm.length_eq;rwa[xV] at this
  have a4:ls≠lq:=zg bh ax;have a7:lf≠lq:=zg bb ax;have a9:I≠lq:=zg be ax;have d9:lo≠lq:=zg bc ax;have g0:PlS K H b ls lf I lo lq aj [] [] [] os [] [] H7 (n+60):=⟨S5.trans S7,B7,⟨cr,ca,cd,cb,dm⟩,⟨a1,a2,a3,a4,a5,a6,a7,a8,a9,d9⟩,⟨NS,NF,NP,NO⟩,S7 _ _ bh cr,S7 _ _ bb ca,S7 _ _ be cd,S7 _ _ bc cb,ch,rfl,rfl⟩;clear S5 S7 B5 B7 bh bb be bc ch ax d3 L;refine⟨lq,rfl,⟨_,u7 g0.hq⟩,jG (K:=K) (a:=lq) (xs:=zE os) (zbl b jp af ls lf lo K H lq os n J)
   ⟨I,none,none,none,none,aj,[],[],[],[],[],rfl,g0.mono (by omega),bu,(fun _ h=>nomatch h),(fun _ h=>nomatch h),(by show((0:Nat):Int)<_;omega),Vi _,zQ _,zQ _,⟨(fun x hx=>by rw[List.take_zero] at hx;cases hx),(fun p _ h=>by cases(show p.2∈([]:List Nat) from h))⟩⟩
   (fun i σ H' _ ⟨_,_,_,_,_,_,_,_,_,_,_,_,g,_,_,_,_,_,_,_,_⟩=>u7 g.hq) ?_ ?_⟩
  ·rintro i x σ H8 hx ⟨lp,v7,v8,v9,bp,st,tr,pk,ou,ts,pks,rfl,g,az,bo,bj,dq,sub,cnt,cv,pc⟩
   have dk:os.Nodup:=pm.nodup_iff.mpr ZS;obtain⟨c,ec,rfl⟩:=QK hx;have en:=az.len;have hi:i<os.length:=(zL.mp ec).1;have hc:c<J.ps.length:=x5.mp (pm.mem_iff.mp (je ec));obtain⟨pa,cj⟩:∃pa,J.ps[c]? =some pa:=⟨J.ps[c],by simp[hc]⟩
   have T8:=ua B0 g.s;have ce:=qj.keep T8;have d0:=qf.keep T8;have ds:=qp.keep T8;have cz:=qa.keep T8;have dx:=cf.keep T8 (x9 J.fs);have dy:=d4.keep T8 (xj J.ps);have dw:=d2.keep T8 (qO J.as);obtain⟨el,db,dz⟩:=Q1 dy cj;obtain⟨dp,ei,rfl,dt,_⟩:=yc dz;refine⟨_,rfl,jp,_,_,_,rfl,rfl,ce,rfl,fs,rfl,⟨_,d0⟩,WB (K:=K) (a:=fs) (xs:=fv) (fun i' Y H9=>Ex1 fun(U:List Nat)=>An4 (Y=zE U) (U.length<=i') ((∀k'∈U,∃fe,J.fs[k']? =some fe/\fe.k=pa.k/\∃z,st[k']? =some z/\0<z)) (Same H8 H9)) ⟨[],rfl,zQ _,(fun _ h=>nomatch h),u9 _⟩ (fun i' Y H9 ⟨_,_,_,_,L⟩=>L.sqT d0) ?_ ?_⟩
   ·rintro i' x Y H9 T c8 ⟨U,rfl,kl,kk,L⟩ hT
    obtain⟨d,e1,r1⟩:=(dx.same L).get c8;rw[zU] at e1;obtain⟨fe,ao,rfl⟩:=qr.mp e1;have de:i'<J.fs.length:=(zL.mp ao).1;have sT:=L.trans (zc (o:=.tup [.int (i':Int),x]) hT);obtain⟨fa,fc,rfl,dr,_⟩:=xJ (r1.same (zc (o:=.tup [.int (i':Int),x]) hT));refine⟨T,_,rfl,u8 zb,rfl,_,_,rfl,_,_,rfl,rfl,rfl,?_⟩
    refine⟨_,rfl,fa,_,_,_,rfl,rfl,dr,rfl,_,rfl,jp,_,_,_,rfl,rfl,sT.sqT ce,rfl,_,rfl,ps,_,_,_,rfl,rfl,sT.sqT ds,zY db,dp,_,_,_,rfl,rfl,sT.sqT dt,rfl,rfl,_,rfl,jX (fun c1=>?_) (fun c1=>?_)⟩
    ·have ek:fe.k=pa.k:=by have:=qQ c1;exact V.str.inj this
     have aq:i'<st.length:=by omega
     refine⟨_,rfl,_,rfl,ls,_,_,.int st[i'],rfl,rfl,u7 (sT _ _ g.hs),zY (by rw[zU,qR aq];rfl),_,_,rfl,rfl,_,rfl,jX (fun c2=>?_) (fun c2=>?_)⟩
     ·refine⟨_,rfl,by rw[zT];omega,U++[i'],?_,by rw[zW];show _+1<=_;omega,fun k' df=>?_,sT⟩
      ·unfold zE
       rw[zM];rfl
      ·rcases zP.mp df with z | z
       ·exact kk k' z
       ·rw[zR.mp z]
        exact⟨fe,ao,ek,_,qR aq,qQ c2⟩
     ·exact⟨U,rfl,by omega,kk,sT⟩
    ·exact ifF rfl ⟨U,rfl,by omega,kk,sT⟩
   rintro Y H9 ⟨U,rfl,kl,kk,L⟩;refine⟨by rw[zT];omega,fun lm c7=>?_⟩
   have bm:=L.trans (zc (o:=.lst (zE U)) c7);have LM:upd H9 lm (.lst (zE U)) lm=some (.lst (zE U)):=zb;have cq:lm≠b:=(g.same L).bx.nne c7;generalize upd H9 lm (.lst (zE U))=Ha at bm LM;clear L c7;refine⟨fun σ' H'=>Ex1 fun(am:Bool)=>An4 (σ'=[some (.ref b),some (.ref jp),some (.int af),some (.ref ls),some (.ref lf),some (.ref lp),some (.ref lo),some (.int (c:Int)),some (.ref lm),some (.bl am),bp]) (Same H8 H') (H' lm=some (.lst (zE U))) ((am=false->U≠[]/\∀p∈J.as,p.2=c->p.1∉ou)),?_,?_⟩
   ·refine⟨_,rfl,le0,fun q hq=>⟨lm,q,zE U,rfl,rfl,u7 ((zc hq) _ _ LM),u7 zb,_,rfl,jX (fun c1=>?_) (fun c1=>?_)⟩⟩
    ·exact⟨true,rfl,bm.trans (zc hq),(zc hq) _ _ LM,fun z=>nomatch z⟩
    ·have c9:U≠[]:=fun z=>c1 (by rw[z];rfl)
     have ae:=bm.trans (zc (o:=.lst []) hq);have an:=(zc (o:=.lst []) hq) _ _ LM;generalize upd Ha q (.lst [])=Hb at ae an;refine⟨_,rfl,jp,_,_,_,rfl,rfl,ae.sqT ce,rfl,as,rfl,⟨_,ae.sqT cz⟩,yI (K:=K) (a:=as) (xs:=av) (fun i' Y H9=>Ex1 fun(bs:List Bool)=>An4 (Y=bs.map V.bl) (bs.length<=i') ((bs.any id=false->∀p∈J.as.take i',p.2=c->p.1∉ou)) (Same Hb H9)) ⟨[],rfl,zQ _,(fun _ p hp=>by rw[List.take_zero] at hp;cases hp),u9 _⟩ (fun i' Y H9 ⟨_,_,_,_,L⟩=>(ae.trans L).sqT cz) ?_ ?_⟩
     ·rintro i' x Y H9 c8 ⟨bs,rfl,bl,bn,L⟩
      obtain⟨d,e1,r1⟩:=(dw.same (ae.trans L)).get c8;rw[zU] at e1;obtain⟨p,ep,rfl⟩:=qr.mp e1;obtain⟨pp,rfl,du⟩:=J4 r1;have de:i'<J.as.length:=(zL.mp ep).1;refine⟨pp,_,rfl,du,rfl,_,_,rfl,_,_,rfl,rfl,rfl,?_⟩
      have cs:∀v:Bool,(v=false->p.2=c->p.1∉ou)->((bs++[v]).any id=false->∀p∈J.as.take (i'+1),p.2=c->p.1∉ou):=fun v hv ha u hu=>by
       rw[List.any_append,Bool.or_eq_false_iff] at ha;rw[qq ep] at hu;rcases zP.mp hu with z | z
       ·exact bn ha.1 u z
       ·rw[zR.mp z]
        exact hv (by simpa using ha.2)
      refine⟨_,rfl,_,rfl,rfl,_,rfl,jX (fun c2=>?_) (fun c2=>?_)⟩
      ·refine⟨_,rfl,_,rfl,lo,zE ou,rfl,.inl (u7 ((ae.trans L) _ _ g.ho)),rfl,jb _,by rw[zp];omega,bs++[inV (.int (p.1:Int)) (zE ou)],?_,by rw[zW];show _+1<=_;omega,cs _ (fun z _ hm=>by rw[Qh] at z;exact absurd hm (of_decide_eq_false z)),L⟩
       rw[zM];rfl
      ·refine⟨by rw[zp];omega,bs++[false],?_,by rw[zW];show _+1<=_;omega,cs _ (fun _ z=>absurd (show decide (V.int (p.2:Int)=V.int (c:Int))=true by rw[z];exact qk rfl) c2),L⟩
       rw[zM];rfl
     ·rintro Y H9 ⟨bs,rfl,bl,bn,L⟩
      rw[la,qY] at bn;refine⟨by rw[zp];omega,fun D hD=>⟨D,bs,rfl,u7 zb,?_⟩⟩
      have e3:=(ae.trans L).trans (zc (o:=.lst (bs.map V.bl)) hD);exact⟨bs.any id,rfl,e3,(zc (o:=.lst (bs.map V.bl)) hD) _ _ (L _ _ an),fun z=>⟨c9,bn z⟩⟩
   rintro σ' Hb ⟨am,rfl,ae,an,c9⟩;have g2:=g.same ae;clear bm LM;have d8:(zX ts++pks.map (·.1)).Sublist (os.take (i+1)):=sub.trans (by rw[qq ec];exact List.sublist_append_left _ _)
   have eO:zE ou++[V.int (c:Int)]=zE (ou++[c]):=by unfold zE;rw[zM];rfl
   refine⟨fun σ' H'=>Ex5 fun(bp:Option V) (ai:List Int) (ab:List V) (ah:List Nat) (l:List (Nat×Nat))=>An9 (σ'=[some (.ref b),some (.ref jp),some (.int af),some (.ref ls),some (.ref lf),some (.ref lp),some (.ref lo),some (.int (c:Int)),some (.ref lm),some (.bl am),bp]) (PlS K H b ls lf lp lo lq ai tr ab ah os ts l H' (n+60+10*i+3)) (StL J ai (vd ts++l)) ((∀p∈l,VB J p)) ((l.length:Int)<=J.hd) ((zX ts++l.map (·.1)).Sublist (os.take (i+1))) (ts.length+l.length<=i+1) (ah.length<=i+1) (PlC J ah (zX ts++l.map (·.1)) (os.take (i+1))),?_,?_⟩
   ·have cx:∀(H':Hp) (m:Int),PlS K H b ls lf lp lo lq st tr pk ou os ts pks H' m->m<=n+60+10*i+3->PlS K H b ls lf lp lo lq st tr pk (ou++[c]) os ts pks (upd H' lo (.lst (zE ou++[V.int (c:Int)]))) (n+60+10*i+3):=fun H' m g' hm=>by
     rw[eO];exact(g'.mono hm).putO
    have cw:(ou++[c]).length<=i+1:=by rw[zW];show _+1<=_;omega
    refine⟨fun(d:Bool) (H':Hp)=>PlS K H b ls lf lp lo lq st tr pk ou os ts pks H' (n+60+10*i+1)/\H' lm=some (.lst (zE U))/\(d=false->U≠[]/\∀p∈J.as,p.2=c->p.1∉ou),?_,?_⟩
    ·refine⟨_,rfl,_,rfl,jX (fun c1=>⟨g2.mono (by omega),an,(fun z=>nomatch z)⟩) (fun c1=>?_)⟩
     have bq:=c9 (by simpa using c1)
     exact⟨_,rfl,_,_,rfl,rfl,_,rfl,jX (fun c2=>⟨_,rfl,_,rfl,b,af,_,rfl,g2.bx,by omega,qQ c2,by omega,fun r Hc r0 r1 Bc Sc=>⟨rfl,_,rfl,(g2.draw Sc Bc).mono (by omega),Sc _ _ an cq,fun _=>bq⟩⟩) (fun c2=>⟨g2.mono (by omega),an,fun _=>bq⟩)⟩
    rintro d Hc ⟨g3,cg,kn⟩;refine jX (fun c1=>?_) (fun c1=>?_)
    ·exact⟨_,rfl,.inl ⟨rfl,_,u7 g3.ho⟩,_,rfl,lo,_,_,rfl,rfl,g3.ho,by rw[zT];omega,_,st,pk,ou++[c],pks,rfl,cx _ _ g3 (by omega),az,bj,by omega,d8,by omega,cw,by rw[qq ec];exact pc.out⟩
    ·have e7:0<U.length:=Vp.mpr (kn (by simpa using c1)).1
     have kc:=(kn (by simpa using c1)).2
     refine⟨_,rfl,_,rfl,_,rfl,lm,_,rfl,.inl (u7 cg),b,_,_,rfl,g3.bx,by omega,by rw[zT];omega,by rw[zT];omega,fun r' Hd em dv Bd Sd=>?_⟩
     rw[zT] at dv;have co:r'.toNat<U.length:=by omega
     have ck:atI (zE U) r'=some (.int ((U[r'.toNat]:Nat):Int)):=by
      have er:(zE U)[r'.toNat]? =some (.int ((U[r'.toNat]:Nat):Int)):=by
       unfold zE;rw[zU,qR co];rfl
      have:=zY er;rwa[show((r'.toNat:Nat):Int)=r' by omega] at this
     obtain⟨fe,ao,da,z0,c5,di⟩:=kk _ (vY co);generalize U[r'.toNat]=kf at ck ao c5;have ee:kf<J.fs.length:=(zL.mp ao).1;have aq:kf<st.length:=by omega
     have g5:=g3.draw Sd Bd;refine⟨lm,_,_,_,rfl,rfl,u7 (Sd _ _ cg cq),ck,?_⟩
     refine⟨_,rfl,_,rfl,ls,_,_,.int st[kf],rfl,rfl,u7 g5.hs,zY (by rw[zU,qR aq];rfl),_,_,rfl,rfl,_,rfl,_,rfl,ls,_,_,kf,rfl,rfl,g5.hs,XR (by rw[zp];omega),?_⟩
     have eS:(st.map V.int).set kf (V.int (st[kf]-1))=(st.set kf (st[kf]-1)).map V.int:=by rw[List.map_set]
     rw[eS];have g6:=g5.putS (st':=st.set kf (st[kf]-1));generalize upd Hd ls (.lst ((st.set kf (st[kf]-1)).map V.int))=He at g6;refine⟨_,rfl,.inl ⟨rfl,_,u7 g6.hp⟩,_,rfl,_,rfl,le2,fun q hq=>?_⟩
     have g7:=g6.new (o:=.tup [.int (c:Int),.int (kf:Int)]) hq;have rq:Rep K (upd He q (.tup [.int (c:Int),.int (kf:Int)])) (xZ (c,kf)) (.ref q):=⟨q,_,rfl,u8 zb,_,_,rfl,rfl,_,_,rfl,rfl,rfl⟩;have ar:pk.length=pks.length:=by have:=g.rk.len;rwa[zp] at this
     refine⟨lp,_,_,rfl,rfl,g7.hp,by omega,_,st.set kf (st[kf]-1),pk++[.ref q],ou,pks++[(c,kf)],rfl,(g7.putP rq).mono (by omega),by rw[<- qx];exact az.take (qR aq) (by rw[qR aq] at c5;rw[jH c5];exact di),fun p' aw=>?_,by rw[zW];show((_+1:Nat):Int)<=_;omega,?_,by rw[zW];show _+(_+1)<=_;omega,by omega,by rw[zM,<- qx,qq ec];exact pc.lay ec dk ob kc⟩
     ·rcases zP.mp aw with z | z
      ·exact bj p' z
      ·rw[zR.mp z]
       exact⟨pa,fe,cj,ao,da⟩
     ·rw[zM,<- qx,qq ec]
      exact sub.append (Vi _)
   rintro σ' Hc ⟨e9,ai,ab,ah,l,rfl,g4,bv,bt,e8,bw,ci,br,cy⟩;have ar:ab.length=l.length:=by have:=g4.rk.len;rwa[zp] at this
   have e4:tr.length=ts.length:=by have:=g4.rt.len;rwa[zp] at this
   have T9:=ua B0 g4.s;refine⟨fun(d:Bool) (H':Hp)=>PlS K H b ls lf lp lo lq ai tr ab ah os ts l H' (n+60+10*i+4)/\(d=true->1<=l.length)/\(d=false->(l.length:Int)<J.hd),?_,?_⟩
   ·refine⟨_,rfl,le0,fun q hq=>⟨lp,q,_,rfl,rfl,u7 (g4.new (o:=.lst []) hq).hp,u7 zb,_,rfl,jX (fun c1=>?_) (fun c1=>?_)⟩⟩
    ·have g5:=g4.new (o:=.lst []) hq
     have d1:=(qj.keep T9).keep (SameT.of (zc (o:=.lst []) hq));generalize upd Hc q (.lst [])=Hd at g5 d1;have ay:1<=l.length:=by
      cases ab with
      | nil=>cases c1
      | cons x r=>simp at ar;omega
     refine⟨_,rfl,lp,_,rfl,.inl (u7 g5.hp),_,rfl,jp,_,_,_,rfl,rfl,d1,rfl,rfl,_,rfl,jX (fun c2=>⟨g5.mono (by omega),fun _=>ay,fun z=>nomatch z⟩) (fun c2=>⟨_,rfl,b,3,_,rfl,g5.bx,by omega,by decide,by decide,fun r He r0 r1 Be Se=>⟨rfl,_,rfl,(g5.draw Se Be).mono (by omega),fun _=>ay,fun _=>?_⟩⟩)⟩
     have cn:¬(ab.length:Int)=J.hd:=fun z=>c2 (by rw[z];simp)
     omega
    ·have pe:l=[]:=by
      cases l with
      | nil=>rfl
      | cons x r=>
       cases ab with
       | nil=>simp at ar
       | cons y r'=>exact absurd rfl c1
     exact⟨(g4.new (o:=.lst []) hq).mono (by omega),(fun z=>nomatch z),fun _=>by rw[pe];show((0:Nat):Int)<_;omega⟩
   rintro d Hd ⟨G,ay,dg⟩;refine jX (fun c1=>?_) (fun c1=>?_)
   ·have ay:=ay c1
    refine⟨_,rfl,.inl ⟨rfl,_,u7 G.hf⟩,_,rfl,_,rfl,b,lp,_,ab,l,rfl,G.bx,by omega,G.nb.2.2.1,G.hp,G.rk,by omega,fun p sh Hg Sg Bg ac rt=>?_⟩
    have G2:=G.draw Sg Bg;have d7:sh.length=l.length:=ac.length_eq;refine⟨lf,_,_,rfl,rfl,G2.hf,by omega,?_⟩
    have G3:=G2.putF rt;generalize upd Hg lf (.lst (tr++[.ref p]))=Hh at G3;refine⟨le0,fun dj cm=>⟨dj,_,_,_,_,ai,tr++[.ref p],[],ah,ts++[⟨sh,l.map (·.1)⟩],[],rfl,(G3.newP cm).mono (by omega),by rw[vc,z7];exact bv.perm (ac.symm.append_left _),?_,(fun _ h=>nomatch h),(by show((0:Nat):Int)<_;omega),?_,?_,br,by rw[jR,Jf,z7];exact cy⟩⟩
    ·intro t' dh
     rcases zP.mp dh with z | z
     ·exact bo t' z
     ·rw[zR.mp z]
      exact⟨by show 1<=sh.length;omega,by show(sh.length:Int)<=_;omega,fun p' aw=>bt p' (ac.mem_iff.mp aw),(ac.map (·.1)).symm⟩
    ·rw[jR]
     simpa using bw
    ·rw[zW]
     show _+1+0<=_;omega
   ·exact⟨lp,_,_,_,_,ai,tr,ab,ah,ts,l,rfl,G.mono (by omega),bv,bo,bt,dg (by simpa using c1),bw,ci,br,cy⟩
  ·rintro σ H8 ⟨lp,v7,v8,v9,bp,st,tr,pk,ou,ts,pks,rfl,g,az,bo,bj,dq,sub,cnt,cv,pc⟩
   rw[zT] at sub cnt cv;rw[zT] at g;rw[qY] at sub;have ar:pk.length=pks.length:=by have:=g.rk.len;rwa[zp] at this
   have e4:tr.length=ts.length:=by have:=g.rt.len;rwa[zp] at this
   refine⟨_,rfl,_,rfl,_,rfl,b,lp,_,pk,pks,rfl,g.bx,by omega,g.nb.2.2.1,g.hp,g.rk,by omega,fun p sh Hg Sg Bg ac rt=>?_⟩
   have g2:=g.draw Sg Bg;have d7:sh.length=pks.length:=ac.length_eq;refine⟨le1,fun l1 cl=>?_⟩
   have g3:=g2.new (o:=.lst [.ref p]) cl;have d5:=rt.same (zc (o:=.lst [.ref p]) cl);have L1:upd Hg l1 (.lst [.ref p]) l1=some (.lst [.ref p]):=zb;generalize upd Hg l1 (.lst [.ref p])=Hh at g3 d5 L1;refine⟨_,rfl,le0,fun q hq=>⟨lp,q,_,rfl,rfl,u7 (g3.new (o:=.lst []) hq).hp,u7 zb,.inr ⟨_,rfl,l1,_,_,rfl,rfl,(zc hq) _ _ L1,?_,?_,?_,fun l2 c6=>?_⟩⟩⟩
   ·split<;>decide
   ·split<;>decide
   ·show 1*_<=sizeLine
    split<;>(first| (show 1*1<=_;omega) | (show 1*0<=_;omega))
   have g4:=g3.new (o:=.lst []) hq;have d6:=d5.same (zc (o:=.lst []) hq);generalize upd Hh q (.lst [])=Hi at g4 d6 c6;have fin:∀(Y:List V) (us:List qV),Reps K Hi (us.map vH) Y->Y.length<=1->us.length+ts.length<=60->(∀t∈us,Ju J t)->(zX (ts++us)).Sublist os->zX (ts++us)=zX ts++pks.map (·.1)->(vd ts++pks).Perm (vd (ts++us))->zgs (V.ref lf) (V.ref l2) (upd Hi l2 (.lst Y)) Q:=by
    intro Y us rz zl ul uo e5 dd up;have g5:=g4.new (o:=.lst Y) c6;have e0:=rz.same (zc (o:=.lst Y) c6);refine⟨lf,l2,tr,Y,rfl,rfl,g5.hf,zb,by omega,fun l3 bi=>?_⟩
    have n3:=g5.bx.nne bi;have g6:=g5.new (o:=.lst (tr++Y)) bi;refine k l3 os (ts++us) (tr++Y) _ g6.s (g6.bx.mono (by omega)) n3 (g5.s.none bi n3) zb ?_ pm ob ⟨fun t ht=>?_,e5,by rw[zW];omega,by rw[dd];exact pc.a2,st,az.perm up⟩
    ·rw[zM]
     exact uc g6.rt (e0.same (zc bi))
    ·rcases zP.mp ht with z | z
     ·exact bo t z
     ·exact uo t z
   cases pks with
   | nil=>
    have e:pk=[]:=List.length_eq_zero_iff.mp (by rw[ar];rfl)
    subst e;exact fin [] [] rfl (qX _) (by show 0+_<=_;omega) (fun _ h=>nomatch h) (by rw[z7];simpa using sub) (by simp) (by rw[z7,z7])
   | cons x r=>
    have cn:∃y r',pk=y::r':=by
     cases pk with
     | nil=>simp at ar
     | cons y r'=>exact⟨y,r',rfl⟩
    obtain⟨y,r',rfl⟩:=cn;refine fin [.ref p] [⟨sh,(x::r).map (·.1)⟩] ⟨_,_,rfl,d6,rfl⟩ (zQ _) (by simp at cnt;show 1+_<=_;omega) (fun t ht=>?_) (by rw[jR];exact sub) (by rw[jR]) (by rw[vc];exact ac.symm.append_left _)
    rw[zR.mp ht];exact⟨by show 1<=sh.length;rw[d7];exact Nat.succ_le_succ (qX _),by show(sh.length:Int)<=_;omega,fun p' aw=>bj p' (ac.mem_iff.mp aw),(ac.map (·.1)).symm⟩
def prD(p:Int×Int):Dat:=.tup [.int p.1,.int p.2]
inductive JO(K:W.Frag)(g:List V)(H:Hp)(Q:VK):Prop
 | mk (t:Addr) (i:List V) (c:List (Int×Int)) (_:g=[.ref t]) (_:SqT K H t i) (_:Reps K H (c.map prD) i) (_:c.length<=1000) (_:∀(l:Addr) (s:List V) H',Same H H'->H' l=some (.lst s)->Reps K H' (c.map fun p=>prD p.swap) s->Q (.ref l) H'):JO K g H Q
def zaf(K:W.Frag):Sp:=fun c H Q _=>JO K c H Q
theorem zaC:zD ["pairs"] ["pairs"] (zr (topL 6)):=u5
theorem zdb{f:Addr}{L:FuncData}(F:Fun K "turned" "turned" (topL 6) f L)(B:Blt M):FnOk P w K M C CX0 1 f L ["pairs"] (zaf K):=by
 have nd:=zaC.nd;refine F.ok zaC (fun vs H Q E h=>?_) (fun a0 A G s H vs Q E hr h=>?_)
 ·obtain⟨t,I,u,rfl,_⟩:=h
  rfl
 ·obtain⟨t,I,u,rfl,U,rp,la,k⟩:=h
  have O:=bG100000;have Y:=rp.len;rw[zp] at Y;refine⟨_,(zk (zC (wj [] [] rfl rfl (by kernel_rfl) (vB (pv 0)) (fun _ _ _ _=>jk) (fun _ _ _ _=>(qB (za (pv 1) (za (pv 0) zd))))))),?_⟩
  have l2:∀x y:V,[x,y].length<=sizeLine:=fun x y=>by rw[sizeLine_eq];show 2<=_;decide
  refine⟨_,rfl,t,rfl,⟨_,U⟩,yI (K:=K) (a:=t) (xs:=I) (fun i D H'=>Reps K H' ((u.take i).map fun p=>prD p.swap) D/\Same H H') ⟨rfl,u9 _⟩ (fun i D H' ⟨_,g⟩=>g.sqT U) ?_ ?_⟩
  ·rintro i x D H1 hx ⟨c,g⟩
   obtain⟨d,e1,r1⟩:=(rp.same g).get hx;rw[zU] at e1;obtain⟨p,J,rfl⟩:=qr.mp e1;have hi:i<u.length:=(zL.mp J).1;obtain⟨a,ws,rfl,qa,x1,aa,rfl,e2,x2,ab,rfl,e3,e4⟩:=r1;cases e2;cases e3;cases e4;refine⟨a,_,rfl,qa,rfl,_,_,rfl,_,_,rfl,rfl,rfl,?_⟩
   refine⟨_,rfl,_,rfl,l2 _ _,fun q hq=>⟨?_,?_,g.trans (zc hq)⟩⟩
   ·have:=c.len
    rw[zp,qP] at this;omega
   ·have e5:u.take (i+1)=u.take i++[p]:=by
     obtain⟨h1,h2⟩:=zL.mp J;rw[<- h2,yy]
    rw[e5,zM];exact ub (d:=prD p.swap) ⟨q,_,rfl,u8 zb,_,_,rfl,rfl,_,_,rfl,rfl,rfl⟩ (c.same (zc hq))
  ·rintro D H1 ⟨c,g⟩
   rw[Y,qY] at c;refine⟨by have:=c.len;rw[zp] at this;omega,fun l T=>k l D _ (g.trans (zc T)) zb (c.same (zc T))⟩
def wa(c:List (Int×Int))(i:Int):List Int:=(c.filter fun p=>decide (p.1=i)).map (·.2)
structure NB(H0 H:Hp)(kvs:List (Key×V))(as:List (Int×Int)):Prop where
 at_:∀i v,jf kvs (Sum.inl i)=some v->∃l,v=.ref l/\H0 l=none/\H l=some (.lst ((wa as i).map V.int))
 no:∀i,jf kvs (Sum.inl i)=none->wa as i=[]
 inj:∀i j l,jf kvs (Sum.inl i)=some (.ref l)->jf kvs (Sum.inl j)=some (.ref l)->i=j
 few:kvs.length<=as.length
theorem w9(c:List (Int×Int))(x y i:Int):wa (c++[(x,y)]) i=wa c i++(if x=i then [y] else []):=by
 unfold wa;rw[xW,zM];congr 1
 by_cases h:x=i<;>simp[h]
theorem zd5(c:List (Int×Int))(i:Int):(wa c i).length<=c.length:=by
 unfold wa;rw[zp];exact jt _ _
theorem NB.old{u H A:Hp}{c:List (Key×V)}{g:List (Int×Int)}{x y:Int}{l:Addr}(n:NB u H c g)(s:Same H A)(e:jf c (Sum.inl x)=some (.ref l)) :
  NB u (upd A l (.lst ((wa g x).map V.int++[.int y]))) c (g++[(x,y)]):=by
 refine⟨fun i v hv=>?_,fun i hv=>?_,n.inj,by rw[zW];have:=n.few;omega⟩
 ·obtain⟨B,rfl,h0,h1⟩:=n.at_ i v hv
  refine⟨B,rfl,h0,?_⟩
  rw[w9];by_cases hx:x=i
  ·subst hx
   rw[e] at hv;cases hv;rw[zb,zu rfl,zM];rfl
  ·have ne:B≠l:=fun z=>hx (n.inj x i l e (by rw[<- z];exact hv))
   rw[zj ne,zo hx,z7];exact s _ _ h1
 ·rw[w9,n.no i hv,zo (fun z=>by rw[<- z,e] at hv;cases hv)]
  rfl
theorem NB.new{u H:Hp}{c:List (Key×V)}{A:List (Int×Int)}{x y:Int}{m d:Addr}(n:NB u H c A)(D:H m=none)(h0:u m=none)(hd:H d=some (.dK c))(e:jf c (Sum.inl x)=none) :
  NB u (upd (upd (upd H m (.lst [])) d (.dK (jB c (Sum.inl x) (.ref m)))) m (.lst ([]++[.int y]))) (jB c (Sum.inl x) (.ref m)) (A++[(x,y)]):=by
 have old:∀i l,jf c (Sum.inl i)=some (.ref l)->H l=some (.lst ((wa A i).map V.int))/\l≠m/\l≠d:=fun i l h=>by
  obtain⟨G,z,_,h1⟩:=n.at_ i _ h;cases z;refine⟨h1,fun z=>?_,fun z=>?_⟩
  ·rw[z,D] at h1;cases h1
  ·rw[z,hd] at h1;cases h1
 refine⟨fun i v hv=>?_,fun i hv=>?_,fun i j l g s=>?_,?_⟩
 ·rw[wH] at hv
  rw[w9];by_cases hx:i=x
  ·subst hx
   rw[zu rfl] at hv;cases hv;refine⟨m,rfl,h0,?_⟩
   rw[zb,n.no _ e,zu rfl];rfl
  ·rw[zo (fun z=>hx (vp z))] at hv
   obtain⟨l,rfl,h1,h2⟩:=n.at_ i v hv;obtain⟨_,B,E⟩:=old i l hv;refine⟨l,rfl,h1,?_⟩
   rw[zj B,zj E,zj B,zo (qz hx),z7];exact h2
 ·rw[wH] at hv
  by_cases hx:i=x
  ·subst hx;rw[zu rfl] at hv;cases hv
  ·rw[zo (fun z=>hx (vp z))] at hv
   rw[w9,n.no i hv,zo (qz hx)];rfl
 ·rw[wH] at g s
  by_cases h1:i=x<;>by_cases h2:j=x
  ·rw[h1,h2]
  ·rw[zu (by rw[h1])] at g
   rw[zo (fun z=>h2 (vp z))] at s
   cases g;exact absurd rfl (old j _ s).2.1
  ·rw[zo (fun z=>h1 (vp z))] at g
   rw[zu (by rw[h2])] at s
   cases s;exact absurd rfl (old i _ g).2.1
  ·rw[zo (fun z=>h1 (vp z))] at g
   rw[zo (fun z=>h2 (vp z))] at s
   exact n.inj i j l g s
 ·have:=xn c (Sum.inl x) (.ref m)
  have:=n.few;rw[zW,List.length_singleton];omega
inductive V2(K:W.Frag)(l:List V)(H:Hp)(Q:VK):Prop
 | mk (t:Addr) (i:List V) (g:List (Int×Int)) (_:l=[.ref t]) (_:(SqL K H t i\/SqT K H t i)) (_:Reps K H (g.map prD) i) (_:g.length<=1000) (_:∀(d:Addr) (c:List (Key×V)) H',Same H H'->H d=none->H' d=some (.dK c)->NB H H' c g->Q (.ref d) H'):V2 K l H Q
def zcv(K:W.Frag):Sp:=fun c H Q _=>V2 K c H Q
theorem zcP:zD ["pairs","rows","one","other"] ["pairs"] (zr (topL 7)):=u5
theorem zeM{f:Addr}{fd:FuncData}(F:Fun K "next_by" "next_by" (topL 7) f fd)(B:Blt M):FnOk P w K M C CX0 1 f fd ["pairs"] (zcv K):=by
 have T:=zcP.nd;refine F.ok zcP (fun vs H Q E h=>?_) (fun ac A aa s H vs Q E hr h=>?_)
 ·obtain⟨t,O,I,rfl,_⟩:=h
  rfl
 ·obtain⟨t,O,I,rfl,ht,rp,la,k⟩:=h
  have ab:=bG100000;have ae:=za2 hr;have lx:=rp.len;rw[zp] at lx;refine⟨_,(zf (zG (i:=1) T rfl (Or.inl rfl) Wj)
   (zf (qS jr rfl (zc3 (pv 0)) (jN rfl (zK (zA (i:=2) T rfl (Or.inl rfl)) (zK (zA (i:=3) T rfl (Or.inl rfl)) jv)))
   (zk (qK (jO jV xG xF qF (zgF (pv 1) (pv 2) (zV zd) ⟨rfl,rfl,rfl,rfl⟩) (za (pv 3) zd)))))
   (zk (zC (pv 1))))),?_⟩
  refine fun d hd=>?_
  have e0:NB H (upd H d (.dK [])) [] ([]:List (Int×Int)):=⟨(fun i v z=>nomatch z),(fun _ _=>rfl),(fun i j l z=>nomatch z),zQ _⟩
  have s0:Same H (upd H d (.dK [])):=zc hd;have step:∀(i:Nat) (x:V) (D:Hp) (g:List (Key×V)),O[i]? =some x->D d=some (.dK g)->NB H D g (I.take i)->Same H D->∃(a:Addr) (p:Int×Int),x=.ref a/\SqT K D a [.int p.1,.int p.2]/\I[i]? =some p/\i<I.length/\I.take (i+1)=I.take i++[p]:=fun i x D g hx _ _ u=>by
   obtain⟨dd,e1,r1⟩:=(rp.same u).get hx;rw[zU] at e1;obtain⟨p,ep,rfl⟩:=qr.mp e1;obtain⟨h1,h2⟩:=zL.mp ep;obtain⟨a,ws,rfl,qa,x1,af,rfl,e2,x2,ag,rfl,e3,e4⟩:=r1;cases e2;cases e3;cases e4;exact⟨a,p,rfl,qa,ep,h1,by rw[<- h2,yy]⟩
  refine⟨_,rfl,t,rfl,ht.elim (fun hL=>.inl ⟨⟨_,s0.seq hL⟩,jG (K:=K) (a:=t) (xs:=O) (fun i σ H'=>Ex3 fun(Y v3:Option V) (g:List (Key×V))=>An4 (σ=[some (.ref t),some (.ref d),Y,v3]) (H' d=some (.dK g)) (NB H H' g (I.take i)) (Same H H'))
   ⟨_,_,[],rfl,zb,e0,s0⟩ (fun i σ H' _ ⟨_,_,_,_,_,_,u⟩=>u.seq hL) ?s1 ?e1⟩) (fun hT=>.inr ⟨⟨_,s0.sqT hT⟩,Qi (K:=K) (a:=t) (xs:=O) (fun i σ H'=>Ex3 fun(Y v3:Option V) (g:List (Key×V))=>An4 (σ=[some (.ref t),some (.ref d),Y,v3]) (H' d=some (.dK g)) (NB H H' g (I.take i)) (Same H H'))
   ⟨_,_,[],rfl,zb,e0,s0⟩ (fun i σ H' _ ⟨_,_,_,_,_,_,u⟩=>u.sqT hT) ?s2 ?e2⟩)⟩
  case e1 | e2=>
   rintro σ D ⟨Y,v3,g,rfl,h1,J,u⟩;rw[lx,qY] at J;exact⟨_,rfl,k d g D u hd h1 J⟩
  case s1 | s2=>
   rintro i x σ D hx ⟨Y,v3,g,rfl,h1,J,u⟩;obtain⟨a,p,rfl,qa,ep,hi,et⟩:=step i x D g hx h1 J u;rw[et];have a0:=J.few;rw[qP] at a0;refine⟨a,_,rfl,qa,rfl,_,_,rfl,_,_,rfl,rfl,?_⟩
   refine⟨_,rfl,d,rfl,.inl ⟨_,.inl h1⟩,_,rfl,le0,fun m G=>⟨g,Sum.inl p.1,(zc (o:=.lst []) G) _ _ h1,rfl,by omega,fun v hv=>?_,fun hv=>?_⟩⟩
   ·obtain⟨l,rfl,l0,ll⟩:=J.at_ _ v hv
    have L:=(zc (o:=.lst []) G) _ _ ll;have T:d≠l:=fun z=>by rw[<- z,h1] at ll;cases ll
    have sl:=zd5 (I.take i) p.1;rw[qP] at sl;refine⟨.inl ⟨rfl,_,u7 L⟩,_,rfl,l,_,_,rfl,rfl,L,by rw[zp];omega,?_⟩
    exact⟨_,_,g,rfl,by rw[zj T];exact(zc (o:=.lst []) G) _ _ h1,J.old (zc G) hv,fun c o e=>by rw[zj (zg e l0)];exact(zc G) _ _ (u _ _ e)⟩
   ·have U:m≠d:=fun z=>by rw[z,h1] at G;cases G
    have m0:H m=none:=by
     cases z:H m with
     | none=>rfl
     | some o=>rw[u _ _ z] at G;cases G
    have L:upd (upd D m (.lst [])) d (.dK (jB g (Sum.inl p.1) (.ref m))) m=some (.lst []):=by rw[zj U];exact zb
    refine⟨.inl ⟨rfl,_,u7 L⟩,_,rfl,m,_,_,rfl,rfl,L,by show 0<_;omega,?_⟩
    exact⟨_,_,_,rfl,by rw[zj (qz U)];exact zb,J.new G m0 h1 hv,fun c o e=>by rw[zj (zg e m0),zj (zg e hd),zj (zg e m0)];exact u _ _ e⟩
end
def Wk(b:List (Int×Int)):Nat->Int->Int->Prop
 | 0,i,j=>i=j
 | n+1,i,j=>∃m,(i,m)∈b/\Wk b n m j
section
variable{g:List (Int×Int)}
theorem Wk.snoc:∀{n:Nat} {i j k:Int},Wk g n i j->(j,k)∈g->Wk g (n+1) i k
 | 0,i,j,k,h,e=>by cases(show i=j from h);exact⟨k,e,rfl⟩
 | n+1,i,j,k,⟨m,h,b⟩,e=>⟨m,h,Wk.snoc b e⟩
theorem Wk.add:∀{n m:Nat} {i j k:Int},Wk g n i j->Wk g m j k->Wk g (n+m) i k
 | 0,m,i,j,k,h,e=>by cases(show i=j from h);rw[X9];exact e
 | n+1,m,i,j,k,⟨x,h,b⟩,e=>by rw[Nat.add_right_comm];exact⟨x,h,Wk.add b e⟩
theorem Wk.split:∀{n m:Nat} {i k:Int},Wk g (n+m) i k->∃j,Wk g n i j/\Wk g m j k
 | 0,m,i,k,h=>by rw[X9] at h;exact⟨i,rfl,h⟩
 | n+1,m,i,k,h=>by
  rw[Nat.add_right_comm] at h;obtain⟨x,h1,h2⟩:=h;obtain⟨j,b,c⟩:=Wk.split h2;exact⟨j,⟨x,h1,b⟩,c⟩
theorem Wk.closed{C:Int->Prop}(c:∀x y,C x->(x,y)∈g->C y):∀{n:Nat} {i j:Int},C i->Wk g n i j->C j
 | 0,i,j,h,e=>by cases(show i=j from e);exact h
 | n+1,i,j,h,⟨m,e,w⟩=>Wk.closed c (c i m h e) w
theorem Wk.back:∀{n:Nat} {i j:Int},Wk g n i j->Wk (g.map Prod.swap) n j i
 | 0,i,j,h=>Eq.symm h
 | n+1,i,j,⟨m,e,w⟩=>Wk.snoc (Wk.back w) (qo.mpr ⟨(i,m),e,rfl⟩)
theorem Ww{i j:Int}:j∈wa g i↔(i,j)∈g:=by
 unfold wa;rw[qo];constructor
 ·rintro⟨⟨a,b⟩,h,rfl⟩
  obtain⟨h1,h2⟩:=ji.mp h;rw[<- qQ h2];exact h1
 ·intro h
  exact⟨(i,j),ji.mpr ⟨h,qk rfl⟩,rfl⟩
end
theorem Jz(b:List (Int×Int)):(b.map Prod.swap).map Prod.swap=b:=by
 rw[xA];exact List.map_id'' (fun _=>rfl) b
def dkI(b:List (Int×Int)):List (Key×V):=b.map fun p=>(Sum.inl p.1,V.int p.2)
theorem za8(b:List (Int×Int)):(dkI b).length=b.length:=zp _
theorem XY:∀(b:List (Int×Int)) (i:Int),(∃v,jf (dkI b) (Sum.inl i)=some (.int v)/\i∈b.map (·.1))\/(jf (dkI b) (Sum.inl i)=none/\i∉b.map (·.1))
 | [],i=>.inr ⟨rfl,by simp⟩
 | p::b,i=>by
  by_cases h:p.1=i
  ·exact .inl ⟨p.2,jw (by show Sum.inl p.1=_;rw[h]),by simp[h]⟩
  ·have e:jf (dkI (p::b)) (Sum.inl i)=jf (dkI b) (Sum.inl i):=jx (fun z=>h (vp z))
   rcases XY b i with ⟨v,h1,h2⟩ | ⟨h1,h2⟩
   ·exact .inl ⟨v,e.trans h1,by simp only[jL,qg];exact .inr h2⟩
   ·exact .inr ⟨e.trans h1,by simp only[jL,qg];rintro(z | z);exact h z.symm;exact h2 z⟩
theorem ze9{b:List (Int×Int)}{i v:Int}(h:jf (dkI b) (Sum.inl i)=none):jB (dkI b) (Sum.inl i) (.int v)=dkI (b++[(i,v)]):=by
 rw[We _ h];unfold dkI;rw[zM];rfl
theorem J6{α:Type}[DecidableEq α]:∀{l m:List α},l.Nodup->(∀x∈l,x∈m)->l.length<=m.length
 | [],_,_,_=>qX _
 | x::l,m,h,s=>by
  have hx:=s x (by simp)
  have b:=ZF.mp h;have:=J6 (l:=l) (m:=m.erase x) b.2 fun y hy=>(List.mem_erase_of_ne (fun e:y=x=>b.1 (e▸hy))).mpr (s y (jA _ hy))
  rw[Y2 hx] at this;have:=YZ hx;rw[jU];omega
def InN(n:Nat)(i:Int):Prop:=0<=i/\i<n
theorem wO{n:Nat}{l:List Int}(h:l.Nodup)(s:∀x∈l,InN n x):l.length<=n:=by
 have:=J6 (m:=(List.range n).map fun k:Nat=>(k:Int)) h fun x hx=>by
  obtain⟨h0,h1⟩:=s x hx;exact qo.mpr ⟨x.toNat,x5.mpr (by omega),by omega⟩
 rwa[zp,xV] at this
theorem yH{α:Type}{l:List α}{x:α}(h:l.Nodup)(hx:x∉l):(l++[x]).Nodup:=by
 rw[Zg];exact⟨h,by simp,fun a c b hb e=>hx (by rw[zR] at hb;rw[<- hb,<- e];exact c)⟩
structure RowsOk(H:Hp)(rk:List (Key×V))(as:List (Int×Int)):Prop where
 at_:∀i v,jf rk (Sum.inl i)=some v->∃l,v=.ref l/\H l=some (.lst ((wa as i).map V.int))
 no:∀i,jf rk (Sum.inl i)=none->wa as i=[]
theorem RowsOk.same{H c:Hp}{m:List (Key×V)}{g:List (Int×Int)}(r:RowsOk H m g)(s:Same H c):RowsOk c m g:=⟨fun i v e=>let ⟨l,a,b⟩:=r.at_ i v e;⟨l,a,s _ _ b⟩,r.no⟩
def WSt(H:Hp)(i:List (Int×Int))(n:Nat)(s:Int)(r d:Addr)(m:Nat)(σ:St)(g:Hp):Prop:=
 ∃(e:Addr) (c:List Int) (b:List (Int×Int)) (l u w:Option V),σ=[some (.int s),some (.ref r),some (.ref d),some (.ref e),l,u,w]/\H e=none/\e≠d/\g e=some (.lst (c.map V.int))/\g d=some (.dK (dkI b))/\Same H g /\
  (b.map (·.1)).Nodup/\(∀j∈b.map (·.1),∃k,Wk i k s j)/\s∈b.map (·.1)/\(∀j∈c,j∈b.map (·.1))/\(∀x∈b.map (·.1),x∉c->∀y,(x,y)∈i->y∈b.map (·.1))/\c.length<=60/\m=2*(n-b.length)+(if c=[] then 0 else 1)
structure RSt(as:List (Int×Int))(s:Int)(d l:Addr)(ps:List (Int×Int))(H H':Hp)(qs:List (Int×Int))(rs:List Int):Prop where
 hd:H' d=some (.dK (dkI qs))
 hl:H' l=some (.lst (rs.map V.int))
 sm:Same H H'
 nd:(qs.map (·.1)).Nodup
 snd:∀j∈qs.map (·.1),∃k,Wk as k s j
 eq:qs.map (·.1)=ps.map (·.1)++rs
section
variable{P:Program}{w:World}{K:W.Frag}{I:Str->Option Value}{G:Heap}
inductive JP(K:W.Frag)(l:List V)(H:Hp)(Q:VK):Prop
 | mk (s:Int) (r:Addr) (i:List (Key×V)) (b:List (Int×Int)) (n:Nat) (_:l=[.int s,.ref r]) (_:H r=some (.dK i)) (_:RowsOk H i b) (_:n<=60) (_:InN n s) (_:(∀p∈b,InN n p.2)) (_:b.length<=1000) (_:∀(d:Addr) (c:List (Int×Int)) g,Same H g->H d=none->g d=some (.dK (dkI c))->(c.map (·.1)).Nodup->c.length<=n->(∀j,j∈c.map (·.1)↔∃k,Wk b k s j)->Q (.ref d) g):JP K l H Q
def zag(K:W.Frag):Sp:=fun b H Q _=>JP K b H Q
theorem zaD:zD ["start","rows","steps","edge","reached","part","other"] ["start","rows"] (zr (topL 8)):=u5
theorem zdc{f:Addr}{fd:FuncData}(F:Fun K "steps_from" "steps_from" (topL 8) f fd)(B:Blt I):FnOk P w K I G CX0 1 f fd ["start","rows"] (zag K):=by
 have nd:=zaD.nd;refine F.ok zaD (fun vs H Q E h=>?_) (fun bd A bb s H vs Q E hr h=>?_)
 ·obtain⟨s,r,rk,L,n,rfl,_⟩:=h
  rfl
 ·obtain⟨s,r,rk,L,n,rfl,hR,ro,be,ins,ah,al,k⟩:=h
  have bc:=bG100000;have ae:=za2 hr;refine⟨_,(zf (zG (i:=2) nd rfl (Or.inl rfl) (zet (zc0 (pv 0) ze zei) rfl rfl (by intro z;cases z) (by show 1<=15;decide)))
   (zf (zG (i:=3) nd rfl (Or.inl rfl) (zV (za (pv 0) zd)))
   (zf (Wf jr (zef (pv 3))
   (zf (zG (i:=4) nd rfl (Or.inl rfl) (zV zd))
    (zf (qS jr rfl (qD (pv 3)) (zA (i:=5) nd rfl (Or.inl rfl))
    (zk (qS jr rfl (qD (Wl ae (pv 1) (pv 5) (zV zd) ⟨rfl,rfl,rfl,rfl⟩)) (zA (i:=6) nd rfl (Or.inl rfl))
     (zk (jq (zgt (zbJ ae (pv 6) (pv 2)))
      (zf (zeg ae (pv 2) (pv 6) (zH qT (zaP ae (pv 2) (pv 5) (fun _ _=>rfl)) ze) rfl)
       (zk (qK (jO jV xG xF qF (pv 4) (za (pv 6) zd)))))
      qy)))))
    (zk (zG (i:=3) nd rfl (Or.inl rfl) (pv 4))))))
   (zk (zC (pv 2)))))),?_⟩
  refine fun d hd=>⟨_,rfl,zb,[(Sum.inl s,.int 0)],rfl,(by show 1<=15;decide),_,rfl,le1,fun e he=>?_⟩
  have ed:e≠d:=fun z=>by rw[z,zb] at he;cases he
  have e0:H e=none:=by rw[zj ed,zj ed] at he;exact he
  have s0:Same H (upd (upd (upd H d (.dK [])) d (.dK (j5 [] [(Sum.inl s,V.int 0)]))) e (.lst [.int s])):=fun c o z=>by rw[zj (zg z e0),zj (zg z hd),zj (zg z hd)];exact z
  have ao:(upd (upd (upd H d (.dK [])) d (.dK (j5 [] [(Sum.inl s,V.int 0)]))) e (.lst [.int s])) d=some (.dK (dkI [(s,0)])):=by rw[zj (qz ed),zb];rfl
  have ap:(upd (upd (upd H d (.dK [])) d (.dK (j5 [] [(Sum.inl s,V.int 0)]))) e (.lst [.int s])) e=some (.lst ([s].map V.int)):=zb;generalize upd (upd (upd H d (.dK [])) d (.dK (j5 [] [(Sum.inl s,V.int 0)]))) e (.lst [.int s])=H1 at s0 ao ap;refine⟨WSt H L n s r d,⟨_,e,[s],[(s,0)],_,_,_,rfl,e0,ed,ap,ao,s0,by simp,fun j Y=>⟨0,by simp at Y;exact Y.symm⟩,by simp,by simp,fun x hx hn=>absurd hx (by simpa using hn),by simp,rfl⟩,?_⟩
  rintro m σ H2 ⟨e,es,O,v4,v5,v6,rfl,en,ba,ab,af,s2,aj,ak,au,aw,an,el,rfl⟩;have b0:∀j∈O.map (·.1),InN n j:=fun j Y=>by
   obtain⟨k,wk⟩:=ak j Y;exact Wk.closed (C:=InN n) (fun x y _ h=>ah _ h) ins wk
  have pl:O.length<=n:=by have:=wO aj b0;rwa[zp] at this
  refine⟨_,rfl,e,_,rfl,u7 ab,?_⟩
  cases es with
  | nil=>
   refine ifF (by rfl) ?_
   refine⟨_,rfl,k d O H2 s2 hd af aj pl fun j=>⟨ak j,fun ⟨k,wk⟩=>Wk.closed (C:=fun j=>j∈O.map (·.1)) (fun x y hx h=>an x hx (by simp) y h) au wk⟩⟩
  | cons e1 U=>
   refine ifT (by rfl) ?_
   refine⟨fun σ' T=>∃m',m'<2*(n-O.length)+(if e1::U=[] then 0 else 1)/\WSt H L n s r d m' σ' T,fun _ _ h=>h,?_⟩
   refine⟨le0,fun l hl=>?_⟩
   have lH:H l=none:=by
    cases z:H l with
    | none=>rfl
    | some o=>rw[s2 _ _ z] at hl;cases hl
   have ld:l≠d:=fun z=>by rw[z,af] at hl;cases hl
   have le:l≠e:=fun z=>by rw[z,ab] at hl;cases hl
   refine⟨_,rfl,e,rfl,⟨_,u7 ((zc hl) _ _ ab)⟩,jG (K:=K) (a:=e) (xs:=(e1::U).map V.int) (fun i σ T=>Ex4 fun(v5 v6:Option V) (b:List (Int×Int)) (J:List Int)=>An4 (σ=[some (.int s),some (.ref r),some (.ref d),some (.ref e),some (.ref l),v5,v6]) (T e=some (.lst ((e1::U).map V.int))) (RSt L s d l O H T b J) ((∀x∈(e1::U).take i,∀y,(x,y)∈L->y∈b.map (·.1))))
    ⟨_,_,O,[],rfl,(zc hl) _ _ ab,⟨(zc hl) _ _ af,zb,s2.trans (zc hl),aj,ak,by simp⟩,by simp⟩ (fun i σ T _ ⟨_,_,_,_,_,h,_,_⟩=>u7 h) ?_ ?_⟩
   ·rintro i x σ H3 hx ⟨v5,v6,b,J,rfl,ar,g,a0⟩
    rw[zU] at hx;obtain⟨x,ex,rfl⟩:=qr.mp hx;have et:(e1::U).take (i+1)=(e1::U).take i++[x]:=by
     obtain⟨h1,h2⟩:=zL.mp ex;rw[<- h2,yy]
    have xk:x∈O.map (·.1):=aw x (je ex)
    have xq:x∈b.map (·.1):=by rw[g.eq];exact qm _ xk
    refine⟨_,rfl,r,rfl,.inl ⟨_,.inl (g.sm _ _ hR)⟩,_,rfl,le0,fun q hq=>?_⟩
    have sq:=zc (H:=H3) (o:=.lst []) hq;have qd:q≠d:=fun z=>by rw[z,g.hd] at hq;cases hq
    have ql:q≠l:=fun z=>by rw[z,g.hl] at hq;cases hq
    refine⟨_,.inl ⟨rk,Sum.inl x,.inl (sq _ _ (g.sm _ _ hR)),rfl,rfl⟩,?_⟩
    have tt:∃t,(jf rk (Sum.inl x)).getD (.ref q)=.ref t/\upd H3 q (.lst []) t=some (.lst ((wa L x).map V.int))/\t≠d/\t≠l:=by
     cases z:jf rk (Sum.inl x) with
     | none=>exact⟨q,rfl,by rw[ro.no x z];exact zb,qd,ql⟩
     | some v=>
      obtain⟨t,rfl,ht⟩:=ro.at_ x v z;exact⟨t,rfl,sq _ _ (g.sm _ _ ht),zg ht hd,zg ht lH⟩
    obtain⟨t,ay,ht,td,tl⟩:=tt;rw[ay];refine⟨t,rfl,⟨_,u7 ht⟩,jG (K:=K) (a:=t) (xs:=(wa L x).map V.int) (fun k σ T=>Ex3 fun(v6:Option V) (b:List (Int×Int)) (J:List Int)=>An6 (σ=[some (.int s),some (.ref r),some (.ref d),some (.ref e),some (.ref l),some (.int x),v6]) (T e=some (.lst ((e1::U).map V.int))) (T t=some (.lst ((wa L x).map V.int))) (RSt L s d l O H T b J) ((∀x∈(e1::U).take i,∀y,(x,y)∈L->y∈b.map (·.1))) (∀y∈(wa L x).take k,y∈b.map (·.1)))
     ⟨_,b,J,rfl,sq _ _ ar,ht,⟨sq _ _ g.hd,sq _ _ g.hl,g.sm.trans sq,g.nd,g.snd,g.eq⟩,a0,by simp⟩ (fun i σ T _ ⟨_,_,_,_,_,h,_,_,_⟩=>u7 h) ?_ ?_⟩
    ·rintro j y σ H4 hy ⟨v6,b,J,rfl,ac,ag,D,aa,N⟩
     rw[zU] at hy;obtain⟨y,ey,rfl⟩:=qr.mp hy;have aq:(wa L x).take (j+1)=(wa L x).take j++[y]:=by
      obtain⟨h1,h2⟩:=zL.mp ey;rw[<- h2,yy]
     have xy:(x,y)∈L:=Ww.mp (je ey);have ax:x∈b.map (·.1):=by rw[D.eq];exact qm _ xk
     refine⟨_,rfl,_,rfl,d,_,rfl,.inl ⟨_,Sum.inl y,.inl D.hd,rfl,rfl⟩,?_⟩
     rcases XY b y with ⟨v,hv,my⟩ | ⟨hv,my⟩
     ·rw[hv]
      refine⟨_,rfl,ifF (by rfl) ?_⟩
      refine⟨_,b,J,rfl,ac,ag,D,aa,fun z M=>?_⟩
      rw[aq] at M;rcases zP.mp M with h | h
      ·exact N z h
      ·rw[zR.mp h];exact my
     ·rw[hv]
      refine⟨_,rfl,ifT (by rfl) ?_⟩
      rcases XY b x with ⟨vx,az,_⟩ | ⟨_,z⟩
      ·have ai:∀j∈b.map (·.1),InN n j:=fun j Y=>by
        obtain⟨k,wk⟩:=D.snd j Y;exact Wk.closed (C:=InN n) (fun x y _ h=>ah _ h) ins wk
       have ql:b.length<=n:=by have:=wO D.nd ai;rwa[zp] at this
       have lq:b.length=O.length+J.length:=by
        have:=congrArg List.length D.eq;rwa[zW,zp,zp] at this
       refine⟨_,rfl,_,rfl,d,_,rfl,.inl ⟨_,Sum.inl x,.inl D.hd,rfl,az.symm⟩,_,_,rfl,rfl,_,rfl,_,rfl,d,_,rfl,.inl ⟨_,Sum.inl y,D.hd,rfl,by rw[za8];omega,rfl⟩,?_⟩
       rw[ze9 hv];have am:upd H4 d (.dK (dkI (b++[(y,vx+1)]))) l=some (.lst (J.map V.int)):=by rw[zj ld];exact D.hl
       refine⟨_,rfl,.inl ⟨rfl,_,u7 am⟩,_,rfl,l,_,_,rfl,rfl,am,by rw[zp];omega,?_⟩
       refine⟨_,b++[(y,vx+1)],J++[y],rfl,by rw[zj (qz le),zj ba];exact ac,by rw[zj tl,zj td];exact ag,⟨by rw[zj (qz ld)];exact zb,by rw[zb,zM];rfl,fun c o z=>by rw[zj (zg z lH),zj (zg z hd)];exact D.sm _ _ z,?_,?_,by rw[zM,D.eq,qx];rfl⟩,fun z M u hu=>?_,fun z M=>?_⟩
       ·rw[zM]
        exact yH D.nd my
       ·intro z M
        rw[zM] at M;rcases zP.mp M with h | h
        ·exact D.snd z h
        ·obtain⟨k,wk⟩:=D.snd x ax
         rw[zR.mp h];exact⟨k+1,wk.snoc xy⟩
       ·rw[zM]
        exact qm _ (aa z M u hu)
       ·rw[aq] at M
        rw[zM];rcases zP.mp M with h | h
        ·exact qm _ (N z h)
        ·exact qE _ h
      ·exact absurd ax z
    ·rintro σ H4 ⟨v6,b,J,rfl,ac,ag,D,aa,N⟩
     rw[zp,qY] at N;refine⟨_,_,b,J,rfl,ac,D,fun z M y hy=>?_⟩
     rw[et] at M;rcases zP.mp M with h | h
     ·exact aa z h y hy
     ·rw[zR.mp h] at hy
      exact N y (Ww.mpr hy)
   ·rintro σ H3 ⟨v5,v6,b,J,rfl,ar,g,a0⟩
    rw[zp,qY] at a0;have ai:∀j∈b.map (·.1),InN n j:=fun j Y=>by
     obtain⟨k,wk⟩:=g.snd j Y;exact Wk.closed (C:=InN n) (fun x y _ h=>ah _ h) ins wk
    have ql:b.length<=n:=by have:=wO g.nd ai;rwa[zp] at this
    have lq:b.length=O.length+J.length:=by
     have:=congrArg List.length g.eq;rwa[zW,zp,zp] at this
    refine⟨_,rfl,2*(n-b.length)+(if J=[] then 0 else 1),?_,l,J,b,_,_,_,rfl,lH,ld,g.hl,g.hd,g.sm,g.nd,g.snd,by rw[g.eq];exact qm _ au,fun j Y=>by rw[g.eq];exact qE _ Y,fun x hx hn y hy=>?_,by omega,rfl⟩
    ·rw[zo (by simp:¬e1::U=[])]
     split
     ·omega
     ·rename_i h
      have:=Vp.mpr h;omega
    ·rw[g.eq] at hx
     rcases zP.mp hx with h | h
     ·by_cases av:x∈e1::U
      ·exact a0 x av y hy
      ·rw[g.eq];exact qm _ (an x h av y hy)
     ·exact absurd h hn
theorem zfp{c g:List Int}(p:c.Perm g)(l:g.Nodup)(h:c.Pairwise (·<= ·)):c.Pairwise (·< ·):=by
 have i:c.Pairwise (·≠ ·):=p.nodup_iff.mpr l
 exact(h.and i).imp fun ⟨a,b⟩=>by omega
inductive zaA(K:W.Frag)(m:List V)(H:Hp)(Q:VK):Prop
 | mk (s:Int) (r:Addr) (i:List (Key×V)) (b:List (Int×Int)) (n:Nat) (_:m=[.int s,.ref r]) (_:H r=some (.dK i)) (_:RowsOk H i b) (_:n<=60) (_:InN n s) (_:(∀p∈b,InN n p.2)) (_:b.length<=1000) (_:∀(l:Addr) (c:List Int) g,Same H g->H l=none->g l=some (.lst (c.map V.int))->c.length<=60->c.Pairwise (·< ·)->(∀j,j∈c↔j≠s/\∃k,Wk b k s j)->Q (.ref l) g):zaA K m H Q
def zfz(K:W.Frag):Sp:=fun b H Q _=>zaA K b H Q
theorem zfO:zD ["part","rows"] ["part","rows"] (zr (topL 9)):=u5
theorem zgY{f:Addr}{fd:FuncData}(F:Fun K "all_from" "all_from" (topL 9) f fd)(B:Blt I)(g:Dfn P w K I G "steps_from" 1 ["start","rows"] (zag K)):FnOk P w K I G CX0 2 f fd ["part","rows"] (zfz K):=by
 have nd:=zfO.nd;refine F.ok zfO (fun vs H Q E h=>?_) (fun aa A Y s H vs Q E hr h=>?_)
 ·obtain⟨s,r,rk,as,n,rfl,_⟩:=h
  rfl
 ·obtain⟨s,r,rk,as,n,rfl,hR,ro,T,ins,N,al,k⟩:=h
  have a0:=bG100000;refine⟨_,(zk (zC (zy jF rfl B.sorted jC (za (jZ ["part"] [0] rfl rfl (by kernel_rfl) (zc4 (zi g hr.m rfl (za (pv 0) (za (pv 1) zd)))) (fun _ _ _ _=>(vC (zF zaQ (pv 0) (pv 1) (zS _)))) (fun _ _ _ _=>(pv 0))) zd)))),?_⟩
  refine⟨_,rfl,_,rfl,s,r,rk,as,n,rfl,hR,ro,T,ins,N,al,fun d m J s1 hd M U lp mem=>⟨d,_,rfl,M,fun o=>zdp (d:=d) (o:=o) (kvs:=dkI m) (fun i D H'=>D=(((m.take i).map (·.1)).filter fun j=>decide (j≠s)).map V.int/\H'=upd J d (.frz o (.dK (dkI m)))) ⟨rfl,rfl⟩ (fun i D H' ⟨_,h⟩=>by rw[h];exact zb) ?_ ?_⟩⟩
  ·rintro i kk v D H2 hx ⟨rfl,rfl⟩
   unfold dkI at hx;rw[zU] at hx;obtain⟨p,ep,e1⟩:=qr.mp hx;cases e1;have et:m.take (i+1)=m.take i++[p]:=by
    obtain⟨h1,h2⟩:=zL.mp ep;rw[<- h2,yy]
   have hi:=(zL.mp ep).1;rw[et,zM,xW,zM];have O:=jt (fun j=>decide (j≠s)) ((m.take i).map (·.1))
   rw[zp,qP] at O;refine⟨rfl,_,rfl,_,rfl,rfl,_,rfl,?_⟩
   by_cases c:p.1=s
   ·refine ifF (by show(!decide (V.int p.1=V.int s))=false;rw[c];simp) ⟨?_,rfl⟩
    simp[c]
   ·refine ifT (by show(!decide (V.int p.1=V.int s))=true;rw[jM (fun z=>c (V.int.inj z))];rfl) ⟨_,rfl,by rw[zp];omega,?_,rfl⟩
    simp[c,kV]
  ·rintro D H2 ⟨rfl,rfl⟩
   rw[za8,qY];have O:=jt (fun j=>decide (j≠s)) (m.map (·.1))
   rw[zp] at O;refine⟨by rw[zp];omega,fun l C=>⟨l,(m.map (·.1)).filter fun j=>decide (j≠s),rfl,u7 zb,by omega,fun l2 ms u pm pw=>?_⟩⟩
   have ld:l≠d:=fun z=>by rw[z,zb] at C;cases C
   have L:J l=none:=by rw[zj ld] at C;exact C
   have s3:Same H (upd (upd J d (.frz o (.dK (dkI m)))) l (.lst (((m.map (·.1)).filter fun j=>decide (j≠s)).map V.int))):=fun c o z=>by
    rw[zj (zg (s1 _ _ z) L),zj (zg z hd)];exact s1 _ _ z
   refine k l2 ms _ (s3.trans (zc u)) ?_ zb (by rw[pm.length_eq];omega) (zfp pm (U.filter _) pw) fun j=>?_
   ·cases z:H l2 with
    | none=>rfl
    | some o=>rw[s3 _ _ z] at u;cases u
   ·rw[pm.mem_iff,ji,mem j]
    constructor
    ·rintro⟨a,b⟩;exact⟨qQ b,a⟩
    ·rintro⟨a,b⟩;exact⟨b,qk a⟩
def asI(J:Job):List (Int×Int):=J.as.map fun p=>((p.1:Int),(p.2:Int))
theorem zfk(J:Job):(asI J).map prD=J.as.map xZ:=by
 unfold asI;rw[xA];rfl
theorem Qk(J:Job):(asI J).length=J.as.length:=zp _
inductive JX(K:W.Frag)(g:List V)(H:Hp)(Q:VK):Prop
 | mk (s:Int) (p:Addr) (J:Job) (_:g=[.ref p,.int s]) (_:Rep K H (vE J) (.ref p)) (_:J.ps.length<=60) (_:InN J.ps.length s) (_:(∀q∈asI J,InN J.ps.length q.1/\InN J.ps.length q.2)) (_:J.as.length<=300) (_:∀(l:Addr) (b:List Int) c,Same H c->H l=none->c l=some (.lst (b.map V.int))->b.length<=60->b.Pairwise (·< ·)->(∀j,j∈b↔j≠s/\∃k,Wk (asI J) k j s)->Q (.ref l) c):JX K g H Q
def XG(K:W.Frag):Sp:=fun b H Q _=>JX K b H Q
theorem QQ{J:Job}{H:Hp}{p:Addr}(h:Rep K H (vE J) (.ref p)):∃(t:Addr) (c g i l:V) (b:List V),SqT K H p [c,g,i,l,.ref t]/\SqT K H t b/\Reps K H ((asI J).map prD) b:=by
 obtain⟨a,b,e,s,c,_,rfl,_,g,_,rfl,_,i,_,rfl,_,l,_,rfl,_,D,C,rfl,m,rfl⟩:=h;cases e;obtain⟨t,B,rfl,u,A⟩:=m;exact⟨t,_,_,_,_,B,s,u,by rw[zfk];exact A⟩
theorem zaI:zD ["job","part"] ["job","part"] (zr (topL 10)):=u5
theorem zdh{f:Addr}{fd:FuncData}(F:Fun K "ahead_of" "ahead_of" (topL 10) f fd)(B:Blt I)(m:Dfn P w K I G "turned" 1 ["pairs"] (zaf K))(g:Dfn P w K I G "next_by" 1 ["pairs"] (zcv K))(c:Dfn P w K I G "all_from" 2 ["part","rows"] (zfz K)):FnOk P w K I G CX0 3 f fd ["job","part"] (XG K):=by
 have nd:=zaI.nd;refine F.ok zaI (fun vs H Q E h=>?_) (fun aa A Y s H vs Q E N h=>?_)
 ·obtain⟨s,p,J,rfl,_⟩:=h
  rfl
 ·obtain⟨s,p,J,rfl,rp,U,ins,O,al,k⟩:=h
  have a0:=bG100000;refine⟨_,(zk (zC (zi c N.m rfl (za (pv 1) (za (zi g N.m rfl (za (zi m N.m rfl (za (zx zI (pv 0) ze (fun _ _=>rfl)) zd)) zd)) zd))))),?_⟩
  obtain⟨t,x0,x1,x2,x3,xs,qa,qt,rx⟩:=QQ rp;refine⟨_,rfl,_,rfl,p,_,_,_,rfl,rfl,qa,rfl,t,xs,asI J,rfl,qt,rx,by rw[Qk];omega,fun l0 ys H0 s0 D ry=>?_⟩
  have em:((asI J).map Prod.swap).map prD=(asI J).map fun p=>prD p.swap:=by rw[xA];rfl
  refine⟨l0,ys,(asI J).map Prod.swap,rfl,.inl (u7 D),by rw[em];exact ry,by rw[zp,Qk];omega,fun d T H1 s1 hd C nb=>?_⟩
  refine⟨s,d,T,(asI J).map Prod.swap,J.ps.length,rfl,C,⟨fun i v hv=>let ⟨l,a,_,b⟩:=nb.at_ i v hv;⟨l,a,b⟩,nb.no⟩,U,ins,fun q hq=>?_,by rw[zp,Qk];omega,fun l ms H2 s2 hl L u pw mem=>?_⟩
  ·obtain⟨q',M,rfl⟩:=qo.mp hq
   exact(O q' M).1
  refine k l ms H2 (s0.trans (s1.trans s2)) ?_ L u pw fun j=>?_
  ·cases z:H l with
   | none=>rfl
   | some o=>rw[s1 _ _ (s0 _ _ z)] at hl;cases hl
  ·rw[mem j]
   refine⟨fun ⟨a,k,b⟩=>⟨a,k,?_⟩,fun ⟨a,k,b⟩=>⟨a,k,b.back⟩⟩
   have:=b.back;rwa[Jz] at this
def dkB(b:List Int):List (Key×V):=b.map fun j=>(Sum.inl j,V.bl true)
def VA(b:List Int)(j:Int):List Int:=if j∈b then b else b++[j]
def yU(c b:List Int):List Int:=b.foldl VA c
theorem za9:∀(b:List Int) (i:Int),(jf (dkB b) (Sum.inl i)=some (.bl true)/\i∈b)\/(jf (dkB b) (Sum.inl i)=none/\i∉b)
 | [],i=>.inr ⟨rfl,by simp⟩
 | p::c,i=>by
  by_cases h:p=i
  ·exact .inl ⟨jw (by show Sum.inl p=_;rw[h]),by simp[h]⟩
  ·have e:jf (dkB (p::c)) (Sum.inl i)=jf (dkB c) (Sum.inl i):=jx (fun z=>h (vp z))
   rcases za9 c i with ⟨h1,h2⟩ | ⟨h1,h2⟩
   ·exact .inl ⟨e.trans h1,jA _ h2⟩
   ·exact .inr ⟨e.trans h1,by simp only[qg];rintro(z | z);exact h z.symm;exact h2 z⟩
theorem zfa(b:List Int)(j:Int):jB (dkB b) (Sum.inl j) (.bl true)=dkB (VA b j):=by
 unfold VA;rcases za9 b j with ⟨h1,h2⟩ | ⟨h1,h2⟩
 ·rw[zu h2]
  unfold jB;rw[zu (by rw[vG,h1];rfl)]
  unfold dkB;rw[xA];refine List.map_congr_left fun x _=>?_
  show(if(Sum.inl x:Key)=Sum.inl j then((Sum.inl x:Key),V.bl true) else(Sum.inl x,V.bl true))=_
  split<;>rfl
 ·rw[zo h2,We _ h1]
  unfold dkB;rw[zM];rfl
theorem Zt:∀(b c:List Int),j5 (dkB c) (dkB b)=dkB (yU c b)
 | [],c=>rfl
 | j::b,c=>by
  show j5 (jB (dkB c) (Sum.inl j) (.bl true)) (dkB b)=dkB (yU (VA c j) b);rw[zfa,Zt b]
theorem zdk{b:List Int}{j x:Int}:x∈VA b j↔x∈b\/x=j:=by
 unfold VA;split
 ·rename_i h
  constructor
  ·exact .inl
  ·rintro(z | z)
   ·exact z
   ·rw[z];exact h
 ·rw[zP,zR]
theorem vO:∀{c b:List Int} {x:Int},x∈yU b c↔x∈b\/x∈c
 | [],b,x=>by simp[yU]
 | j::c,b,x=>by
  show x∈yU (VA b j) c↔_;rw[vO,zdk,qg,or_assoc]
theorem Yr{b:List Int}{j:Int}(h:b.Nodup):(VA b j).Nodup:=by
 unfold VA;split
 ·exact h
 ·rename_i z
  exact yH h z
theorem yG:∀{js b:List Int},b.Nodup->(yU b js).Nodup
 | [],_,h=>h
 | j::js,b,h=>yG (js:=js) (Yr h)
theorem Qj(b:List Int):(dkB b).length=b.length:=zp _
theorem JK{α:Type}{l:List α}{i:Nat}{x:α}(h:l[i]? =some x):l.take (i+1)=l.take i++[x]:=by
 obtain⟨h1,h2⟩:=zL.mp h;rw[<- h2,yy]
structure Ov(H H':Hp)(ds:List Addr)(κ:Nat->List Int):Prop where
 nd:ds.Nodup
 at_:∀(p:Nat) (d:Addr),ds[p]? =some d->H d=none/\H' d=some (.dK (dkB (κ p)))
 sm:Same H H'
theorem Ov.snoc{H g i:Hp}{c:List Addr}{κ:Nat->List Int}{d:Addr}(o:Ov H g c κ)(s:Same g i)(h1:g d=none)(h2:i d=some (.dK (dkB (κ c.length)))):Ov H i (c++[d]) κ:=by
 refine⟨yH o.nd fun z=>?_,fun p e b=>?_,o.sm.trans s⟩
 ·obtain⟨p,hp⟩:=List.getElem?_of_mem z
  rw[(o.at_ p d hp).2] at h1;cases h1
 ·by_cases hp:p<c.length
  ·rw[j9 hp] at b
   exact⟨(o.at_ p e b).1,s _ _ (o.at_ p e b).2⟩
  ·rw[xa (by omega)] at b
   have:p=c.length:=by
    have:=(zL.mp b).1;simp at this;omega
   subst this;simp at b;subst b;refine⟨?_,h2⟩
   cases z:H d with
   | none=>rfl
   | some l=>rw[o.sm _ _ z] at h1;cases h1
def YB(b:List (Int×Int))(p:Nat):List Int:=yU [] ((b.filter fun q=>decide (q.2=(p:Int))).map (·.1))
theorem X3{b:List Addr}{p:Nat}{d:Addr}(h:b[p]? =some d):atI (b.map V.ref) (p:Int)=some (.ref d):=by
 have hp:=(zL.mp h).1;obtain⟨v,h1,h2⟩:=X4 (xs:=b.map V.ref) (i:=(p:Int)) (by omega) (by rw[zp];omega)
 rw[h1,<- h2,xu,zU,h];rfl
theorem Ov.upd{H i:Hp}{g:List Addr}{κ:Nat->List Int}{p:Nat}{d:Addr}(o:Ov H i g κ)(h:g[p]? =some d)(l:List Int):Ov H (upd i d (.dK (dkB l))) g (fun x=>if x=p then l else κ x):=by
 refine⟨o.nd,fun q e b=>⟨(o.at_ q e b).1,?_⟩,fun c u z=>by rw[zj (zg z (o.at_ p d h).1)];exact o.sm _ _ z⟩
 by_cases c:q=p
 ·subst c
  rw[h] at b;cases b;rw[zb,zu rfl]
 ·have ne:e≠d:=fun z=>by
   subst z;obtain⟨h1,h2⟩:=zL.mp h;obtain⟨s,m⟩:=zL.mp b;exact c ((yQ o.nd).mp (m.trans h2.symm))
  rw[zj ne,zo c];exact(o.at_ q e b).2
theorem Ov.same{H b c:Hp}{g:List Addr}{κ:Nat->List Int}(o:Ov H b g κ)(s:Same b c):Ov H c g κ:=⟨o.nd,fun p d h=>⟨(o.at_ p d h).1,s _ _ (o.at_ p d h).2⟩,o.sm.trans s⟩
def zaa(b:List (Int×Int))(κ:Nat->List Int):Prop:=∀p:Nat,(κ p).Nodup/\∀q∈κ p,∃k,1<=k/\Wk b k q p
def zfo(b:List (Int×Int))(κ:Nat->List Int)(m p:Nat):Prop:=∀q k,1<=k->k<=m->Wk b k q p->q∈κ p
theorem Wy{c:List (Int×Int)}{p:Nat}{q:Int}:q∈YB c p↔(q,(p:Int))∈c:=by
 unfold YB;rw[vO,qo];constructor
 ·rintro(z | ⟨⟨a,b⟩,h,rfl⟩)
  ·exact absurd z (by simp)
  ·obtain⟨h1,h2⟩:=ji.mp h
   rw[<- qQ h2];exact h1
 ·intro h
  exact .inr ⟨_,ji.mpr ⟨h,qk rfl⟩,rfl⟩
theorem ziv(b:List (Int×Int)):zaa b (YB b):=fun p=>⟨yG List.nodup_nil,fun q h=>⟨1,zQ _,_,Wy.mp h,rfl⟩⟩
theorem ziw(b:List (Int×Int))(p:Nat):zfo b (YB b) 1 p:=fun q k h1 h2 c=>by
 cases(show k=1 by omega)
 obtain⟨m,h,e⟩:=c;cases(show m=(p:Int) from e)
 exact Wy.mpr h
theorem Wk.rank{g:List (Int×Int)}{c:Int->Nat}(h:∀q∈g,c q.1<c q.2):∀{k:Nat} {a b:Int},Wk g k a b->c a+k<=c b
 | 0,a,b,e=>by cases(show a=b from e);exact zQ _
 | k+1,a,b,⟨m,e,w⟩=>by
  have:=Wk.rank h w;have:c a<c m:=h (a,m) e;omega
theorem Wk.in1{c:List (Int×Int)}{n:Nat}(h:∀q∈c,InN n q.1/\InN n q.2):∀{k:Nat} {a b:Int},1<=k->Wk c k a b->InN n a
 | k+1,a,b,_,⟨m,e,w⟩=>(h _ e).1
theorem ze6{b:List (Int×Int)}{κ:Nat->List Int}{p o:Nat}(g:zaa b κ)(h:(o:Int)∈κ p):zaa b (fun x=>if x=p then yU (κ p) (κ o) else κ x):=fun x=>by
 dsimp only;by_cases c:x=p
 ·subst c
  rw[zu rfl];refine⟨yG (g x).1,fun q hq=>?_⟩
  rcases vO.mp hq with z | z
  ·exact(g x).2 q z
  ·obtain⟨i,a1,w1⟩:=(g o).2 q z
   obtain⟨l,a2,m⟩:=(g x).2 _ h;exact⟨i+l,by omega,w1.add m⟩
 ·rw[zo c]
  exact g x
theorem zb1{g:List (Int×Int)}{κ b:Nat->List Int}{n m p:Nat}{s:List Int}(l:∀q∈g,InN n q.1/\InN n q.2)(f:∀x<n,zfo g κ m x)(hp:p<n)(sub:∀x q,q∈κ x->q∈b x)(s1:∀q∈b p,q∈s)(s2:∀o∈b p,∀q∈b o.toNat,q∈s) :
  ∀q k,1<=k->k<=2*m->Wk g k q p->q∈s:=fun q k h1 h2 u=>by
 by_cases c:k<=m
 ·exact s1 q (sub p q (f p hp q k h1 c u))
 ·have e:k=m+(k-m):=by omega
  rw[e] at u;by_cases D:m=0
  ·omega
  obtain⟨j,w1,A⟩:=u.split;have i:=Wk.in1 l (by omega) A
  have B:((j.toNat:Nat):Int)=j:=by have:=i.1;omega
  have C:=sub p j (f p hp j (k-m) (by omega) (by omega) A)
  refine s2 j C q (sub _ _ (f j.toNat (by have:=i.1;have:=i.2;omega) q m (by omega) (zQ _) ?_))
  rw[B];exact w1
def Rws(H i:Hp)(b:List (List Int))(g:List V):Prop:=g.length=b.length/\∀(p:Nat) (c:List Int),b[p]? =some c->∃a,g[p]? =some (.ref a)/\H a=none/\i a=some (.lst (c.map V.int))
theorem Rws.same{H g b:Hp}{c:List (List Int)}{i:List V}(h:Rws H g c i)(s:Same g b):Rws H b c i:=⟨h.1,fun p m e=>by
 obtain⟨a,e1,e2,l⟩:=h.2 p m e;exact⟨a,e1,e2,s _ _ l⟩⟩
theorem Rws.snoc{H i:Hp}{b:List (List Int)}{u:List V}{l:Addr}{s:List Int}(h:Rws H i b u)(h0:H l=none)(e:i l=some (.lst (s.map V.int))):Rws H i (b++[s]) (u++[.ref l]):=by
 refine⟨by rw[zW,zW,h.1];rfl,fun p m g=>?_⟩
 by_cases c:p<b.length
 ·rw[j9 c] at g
  rw[j9 (by rw[h.1];exact c)]
  exact h.2 p m g
 ·rw[xa (by omega)] at g
  rw[xa (by rw[h.1];omega),h.1]
  have:p-b.length=0:=by
   have:=(zL.mp g).1;simp at this;omega
  rw[this] at g ⊢;cases g;exact⟨l,rfl,h0,e⟩
inductive V1(K:W.Frag)(A:List V)(H:Hp)(Q:VK):Prop
 | mk (t:Addr) (u:List V) (c:List (Int×Int)) (n:Nat) (s:Int->Nat) (_:A=[.int n,.ref t]) (_:(SqL K H t u\/SqT K H t u)) (_:Reps K H (c.map prD) u) (_:c.length<=1000) (_:n<=60) (_:(∀q∈c,InN n q.1/\InN n q.2)) (_:(∀q∈c,s q.1<s q.2)) (_:(∀i,s i<=60)) (_:∀(l:Addr) (b:List (List Int)) g,Same H g->H l=none->(∃B,g l=some (.lst B)/\Rws H g b B)->b.length=n->(∀p m,b[p]? =some m->m.Pairwise (·< ·)/\∀j,j∈m↔∃k,1<=k/\Wk c k j (p:Nat))->Q (.ref l) g):V1 K A H Q
def Yd(K:W.Frag):Sp:=fun b H Q _=>V1 K b H Q
theorem zcO:zD ["_law_many","_law_aheads_here","_law_found","_law_turn","_law_part","_law_one"] ["_law_many","_law_aheads_here"] (zr (topL 51)):=u5
theorem zeK{f:Addr}{fd:FuncData}(F:Fun K "_law_over" "_law_over" (topL 51) f fd)(B:Blt I):FnOk P w K I G CX0 1 f fd ["_law_many","_law_aheads_here"] (Yd K):=by
 have nd:=zcO.nd;refine F.ok zcO (fun vs H Q E h=>?_) (fun ba A ay s H vs Q E hr h=>?_)
 ·obtain⟨t,xs,J,n,rk,rfl,_⟩:=h
  rfl
 ·obtain⟨t,xs,J,n,rk,rfl,ht,rp,al,bd,af,aq,ap,k⟩:=h
  have b0:=bG100000;have bc:=za2 hr;have lx:=rp.len;rw[zp] at lx;refine⟨_,(zf (zgu ["_law_aheads_here"] [1] rfl rfl (by kernel_rfl) (qN rfl B.range (za (pv 0) zd)) (fun _ _ _ _=>jk) (fun _ _ _ _=>(ja (YG hr.hd) rfl B.dict zb8 (za (zeq (K:=K) rfl ["_law_part"] [0] rfl rfl (by kernel_rfl) (zeo (K:=K) rfl (pv 1)) (fun _ _ _ _=>(vC (zF xm (pv 1) (pv 2) (zS _)))) (fun _ _ _ _=>(qB (za (pv 0) (za vg zd))))) zd))) (zA (i:=2) nd rfl (Or.inl rfl)))
   (zf (qS jr rfl (qN rfl B.range (za ze zd)) (zA (i:=3) nd rfl (Or.inl rfl))
   (zk (qS jr rfl (qN rfl B.range (za (pv 0) zd)) (zA (i:=4) nd rfl (Or.inl rfl))
    (zk (qS jr rfl (qD (ja (WN hr.hd) rfl B.list xK (za (zx qh (pv 2) (pv 4) (fun _ _=>rfl)) zd))) (zA (i:=5) nd rfl (Or.inl rfl))
     (zk (qK (zes (zx qh (pv 2) (pv 4) (fun _ _=>rfl)) (zx qh (pv 2) (pv 5) (fun _ _=>rfl)) ⟨rfl,rfl,rfl,rfl⟩))))))))
   (zk (zC (jZ [] [] rfl rfl (by kernel_rfl) (qD (pv 2)) (fun _ _ _ _=>jk) (fun _ _ _ _=>(zy (JE hr.hd) rfl B.sorted jC (za (pv 0) zd)))))))),?_⟩
  have ab:=bGe;have l2:∀x y:V,[x,y].length<=sizeLine:=fun x y=>by rw[sizeLine_eq];show 2<=_;decide
  refine⟨_,rfl,_,rfl,(by rw[ab];omega),(by rw[ab];omega),y6 (fun i zs H1=>∃u:List Addr,zs=u.map V.ref/\u.length=i/\Ov H H1 u (YB J)) ⟨[],rfl,rfl,List.nodup_nil,(fun p d e=>by simp at e),u9 _⟩ ?_ ?_⟩
  ·rintro i zs H1 hi ⟨u,rfl,ld,ov⟩
   have az:=rp.same ov.sm;have i0:(0:Int)+(i:Int)=(i:Int):=X8 _;rw[i0];refine⟨rfl,_,rfl,t,rfl,ht.elim (fun hL=>.inl ⟨⟨_,ov.sm.seq hL⟩,jD (K:=K) (a:=t) (xs:=xs) (fun j ys N=>PrsL N ys (dkB (((J.take j).filter fun q=>decide (q.2=(i:Int))).map (·.1)))/\Same H1 N) ⟨PrsL.nil,u9 _⟩ (fun j ys N ⟨_,D⟩=>(ov.sm.trans D).seq hL) ?s1 ?e1⟩)
    (fun hT=>.inr ⟨⟨_,ov.sm.sqT hT⟩,yI (K:=K) (a:=t) (xs:=xs) (fun j ys N=>PrsL N ys (dkB (((J.take j).filter fun q=>decide (q.2=(i:Int))).map (·.1)))/\Same H1 N) ⟨PrsL.nil,u9 _⟩ (fun j ys N ⟨_,D⟩=>(ov.sm.trans D).sqT hT) ?s2 ?e2⟩)⟩
   case s1 | s2=>
    rintro j x ys N hx ⟨pr,D⟩;obtain⟨dd,e1,r1⟩:=(az.same D).get hx;rw[zU] at e1;obtain⟨q,eq,rfl⟩:=qr.mp e1;obtain⟨a,ws,rfl,qa,x1,be,rfl,e2,x2,bf,rfl,e3,e4⟩:=r1;cases e2;cases e3;cases e4;have hj:=(zL.mp eq).1;rw[JK eq,xW,zM];refine⟨a,_,rfl,qa,rfl,_,_,rfl,_,_,rfl,rfl,rfl,_,rfl,_,rfl,rfl,_,rfl,?_⟩
    by_cases c:q.2=(i:Int)
    ·refine ifT (by show decide (V.int q.2=V.int (i:Int))=true;rw[c];exact qk rfl) ⟨_,rfl,l2 _ _,fun T hT=>⟨?_,?_,D.trans (zc hT)⟩⟩
     ·have:=pr.1
      have:=jt (fun q:Int×Int=>decide (q.2=(i:Int))) (J.take j)
      rw[Qj,zp] at *
      rw[qP] at this;omega
     ·rw[yp,zu (qk c)]
      have e:∀a b,dkB (a++b)=dkB a++dkB b:=fun a b=>zM
      rw[e];exact(pr.same (zc hT)).snoc (k:=Sum.inl q.1) zb
    ·refine ifF (by show decide (V.int q.2=V.int (i:Int))=false;exact jM fun z=>c (V.int.inj z)) ⟨?_,D⟩
     rw[yp,zo (by simpa using c)]
     simpa using pr
   case e1 | e2=>
    rintro ys N ⟨pr,D⟩;rw[lx,qY] at pr;have ly:ys.length<=1000:=by
     have:=pr.1;have:=jt (fun q:Int×Int=>decide (q.2=(i:Int))) J
     rw[Qj,zp] at *
     omega
    refine⟨by omega,fun l hl=>⟨l,ys,_,rfl,zb,pr.same (zc hl),fun d hd=>⟨by rw[zp];omega,u++[d],by rw[zM];rfl,by rw[zW,ld];rfl,?_⟩⟩⟩
    have dl:d≠l:=fun z=>by rw[z,zb] at hd;cases hd
    have d2:N d=none:=by rw[zj dl] at hd;exact hd
    refine ov.snoc (d:=d) ((D.trans (zc hl)).trans (zc hd)) ?_ ?_
    ·cases z:H1 d with
     | none=>rfl
     | some o'=>rw[D _ _ z] at d2;cases d2
    ·rw[zb,ld]
     have:(j5 [] (dkB ((J.filter fun q=>decide (q.2=(i:Int))).map (·.1))))=dkB (YB J i):=Zt _ []
     rw[this]
  ·rintro zs H1 ⟨u,rfl,ld,ov⟩
   rw[xu] at ld;have lr:(u.map V.ref).length=n:=by rw[zp];exact ld
   refine⟨by omega,fun F hF=>?_⟩
   have F0:H F=none:=by
    cases z:H F with
    | none=>rfl
    | some o'=>rw[ov.sm _ _ z] at hF;cases hF
   refine⟨7,rfl,(by decide),(by decide),ju (fun t' σ N=>Ex4 fun(v3 v4 v5:Option V) (κ:Nat->List Int)=>An5 (σ=[some (.int n),some (.ref t),some (.ref F),v3,v4,v5]) (N F=some (.lst (u.map V.ref))) (Ov H N u κ) (zaa J κ) (∀x<n,zfo J κ (2^t') x))
    ⟨_,_,_,YB J,rfl,zb,ov.same (zc hF),ziv J,fun x _=>ziw J x⟩ ?_ ?_⟩
   ·rintro t' σ N bb ⟨v3,v4,v5,κ,rfl,ac,Y,g2,f2⟩
    refine⟨_,rfl,_,rfl,(by rw[ab];omega),(by rw[ab];omega),ju (fun p σ H3=>Ex3 fun(v4 v5:Option V) (m:Nat->List Int)=>An6 (σ=[some (.int n),some (.ref t),some (.ref F),some (.int (0+(t':Int))),v4,v5]) (H3 F=some (.lst (u.map V.ref))) (Ov H H3 u m) (zaa J m) ((∀x q,q∈κ x->q∈m x)) (∀x<p,zfo J m (2^(t'+1)) x))
     ⟨_,_,κ,rfl,ac,Y,g2,fun _ _ h=>h,fun x hx=>absurd hx (Nat.not_lt_zero _)⟩ ?_ ?_⟩
    ·rintro p σ H3 hp ⟨v4,v5,m,rfl,aa,ag,g3,U,f3⟩
     rw[xu] at hp;have i0:(0:Int)+(p:Int)=(p:Int):=X8 _;rw[i0];have ed:u[p]? =some (u[p]'(by omega)):=qR _
     generalize u[p]'(by omega)=d at ed
     obtain⟨d0,aj⟩:=ag.at_ p d ed;refine⟨_,rfl,_,rfl,F,_,_,_,rfl,rfl,u7 aa,X3 ed,d,_,rfl,.inl aj,fun L hL=>⟨L,rfl,⟨_,u7 zb⟩,?_⟩⟩
     have em:(dkB (m p)).map (fun kv=>kV kv.1)=(m p).map V.int:=by
      unfold dkB;rw[xA];rfl
     rw[em];have Ld:L≠d:=fun z=>by rw[z,aj] at hL;cases hL
     refine jG (K:=K) (a:=L) (xs:=(m p).map V.int) (fun i σ H4=>Ex2 fun(v5:Option V) (M:List Int)=>An7 (σ=[some (.int n),some (.ref t),some (.ref F),some (.int (0+(t':Int))),some (.int (p:Int)),v5]) (H4 F=some (.lst (u.map V.ref))) (H4 L=some (.lst ((m p).map V.int))) (Ov H H4 u (fun x=>if x=p then M else m x)) (zaa J (fun x=>if x=p then M else m x)) ((∀q∈m p,q∈M)) (∀o∈(m p).take i,∀q∈m o.toNat,q∈M))
      ⟨_,m p,rfl,(zc hL) _ _ aa,zb,?_,?_,fun _ h=>h,fun o ho=>absurd ho (by simp)⟩ (fun i σ H' _ ⟨_,_,_,_,h,_,_,_,_⟩=>u7 h) ?_ ?_
     ·have:(fun x=>if x=p then m p else m x)=m:=funext fun x=>by by_cases c:x=p<;>simp[c]
      rw[this];exact ag.same (zc hL)
     ·have:(fun x=>if x=p then m p else m x)=m:=funext fun x=>by by_cases c:x=p<;>simp[c]
      rw[this];exact g3
     ·rintro i x σ H4 hx ⟨v5,M,rfl,O,ai,a0,g4,a4,b4⟩
      rw[zU] at hx;obtain⟨o,eo,rfl⟩:=qr.mp hx;have mo:o∈m p:=je eo;obtain⟨k1,av,ar⟩:=(g3 p).2 o mo;obtain⟨o0,o1⟩:=Wk.in1 af av ar;have oi:((o.toNat:Nat):Int)=o:=by omega
      have ah:o.toNat≠p:=fun z=>by
       have:=ar.rank aq;rw[z] at oi;rw[oi] at this;omega
      have ee:u[o.toNat]? =some (u[o.toNat]'(by omega)):=qR _
      generalize u[o.toNat]'(by omega)=e at ee
      have ae:=(a0.at_ p d ed).2;have ak:=(a0.at_ o.toNat e ee).2;rw[zu rfl] at ae;rw[zo ah] at ak;have ax:d≠e:=fun z=>by
       subst z;obtain⟨h1,h2⟩:=zL.mp ed;obtain⟨h3,h4⟩:=zL.mp ee;exact ah ((yQ a0.nd).mp (h4.trans h2.symm))
      have ao:=X3 ee;rw[oi] at ao;have an:∀(κ:Nat->List Int),zaa J κ->∀x,(κ x).length<=60:=fun κ g x=>by
       have:=wO (n:=n) (g x).1 fun q hq=>let ⟨k,h1,w⟩:=(g x).2 q hq;Wk.in1 af h1 w
       omega
      have l1:=an _ g4 p;rw[zu rfl] at l1;have l2:=an _ g3 o.toNat;have LF:L≠F:=fun z=>by rw[z,aa] at hL;cases hL
      have Fd:F≠d:=fun z=>by rw[z,ae] at O;cases O
      refine⟨_,rfl,_,rfl,F,_,_,_,rfl,rfl,u7 O,X3 ed,d,rfl,.inl ⟨_,.inl ae⟩,_,rfl,_,rfl,F,_,_,_,rfl,rfl,u7 O,ao,e,_,_,rfl,ax,ae,ak,by rw[Qj,Qj];omega,?_⟩
      rw[Zt];have ef:(fun x=>if x=p then yU M (m o.toNat) else(fun x=>if x=p then M else m x) x)=fun x=>if x=p then yU M (m o.toNat) else m x:=funext fun x=>by by_cases c:x=p<;>simp[c]
      have eg:(fun x=>if x=p then yU ((fun x=>if x=p then M else m x) p) ((fun x=>if x=p then M else m x) o.toNat) else(fun x=>if x=p then M else m x) x)=fun x=>if x=p then yU M (m o.toNat) else m x:=funext fun x=>by by_cases c:x=p<;>simp[c,ah]
      refine⟨_,yU M (m o.toNat),rfl,by rw[zj Fd];exact O,by rw[zj Ld];exact ai,?_,?_,fun q hq=>vO.mpr (.inl (a4 q hq)),fun z hz q hq=>?_⟩
      ·have:=a0.upd ed (yU M (m o.toNat))
       rw[ef] at this;exact this
      ·have:=ze6 (p:=p) (o:=o.toNat) g4 (by rw[zu rfl,oi];exact a4 o mo)
       rw[eg] at this;exact this
      ·rw[JK eo] at hz
       rcases zP.mp hz with h | h
       ·exact vO.mpr (.inl (b4 z h q hq))
       ·rw[zR.mp h] at hq
        exact vO.mpr (.inr hq)
     ·rintro σ H4 ⟨v5,M,rfl,O,ai,a0,g4,a4,b4⟩
      rw[zp,qY] at b4;refine⟨_,_,_,rfl,O,a0,g4,fun x q hq=>?_,fun x hx=>?_⟩
      ·show q∈(if x=p then M else m x)
       by_cases c:x=p
       ·rw[zu c]
        subst c;exact a4 q (U x q hq)
       ·rw[zo c]
        exact U x q hq
      ·by_cases c:x=p
       ·subst c
        intro q k h1 h2 wk;show q∈(if x=x then M else m x)
        rw[zu rfl];exact zb1 af f2 hp U a4 b4 q k h1 (by rw[Nat.pow_succ,Nat.mul_comm] at h2;exact h2) wk
       ·have:=f3 x (by omega)
        intro q k h1 h2 wk;show q∈(if x=p then M else m x)
        rw[zo c];exact this q k h1 h2 wk
    ·rintro σ H3 ⟨v4,v5,m,rfl,aa,ag,g3,U,f3⟩
     rw[xu] at f3;exact⟨_,_,_,m,rfl,aa,ag,g3,f3⟩
   ·rintro σ N ⟨v3,v4,v5,κ,rfl,ac,Y,g2,f2⟩
    have all:∀(p:Nat),p<n->∀j,j∈κ p↔∃k,1<=k/\Wk J k j p:=fun p hp j=>⟨fun h=>(g2 p).2 j h,fun ⟨k,h1,wk⟩=>f2 p hp j k h1 (by have:=wk.rank aq;have:=ap (p:Int);show k<=128;omega) wk⟩
    refine⟨_,rfl,F,rfl,⟨_,u7 ac⟩,jD (K:=K) (a:=F) (xs:=u.map V.ref) (fun i zs H3=>Ex1 fun(C:List (List Int))=>An4 (C.length=i) (Rws H H3 C zs) (Same N H3) (∀p ms,C[p]? =some ms->ms.Pairwise (·< ·)/\∀j,j∈ms↔j∈κ p)) ⟨[],rfl,⟨rfl,fun p ms e=>by simp at e⟩,u9 _,fun p ms e=>by simp at e⟩ (fun i zs H3 ⟨_,_,_,D,_⟩=>u7 (D _ _ ac)) ?_ ?_⟩
    ·rintro i x zs H3 hx ⟨C,lm,rm,D,am⟩
     rw[zU] at hx;obtain⟨d,ed,rfl⟩:=qr.mp hx;have hi:=(zL.mp ed).1;have hd:=D _ _ (Y.at_ i d ed).2;have lk:(κ i).length<=60:=by
      have:=wO (n:=n) (g2 i).1 fun q hq=>let ⟨k,h1,w⟩:=(g2 i).2 q hq;Wk.in1 af h1 w
      omega
     have ek:dkB (κ i)=((κ i).map fun j=>(j,V.bl true)).map fun kv=>(Sum.inl kv.1,kv.2):=by unfold dkB;rw[xA];rfl
     have au:((κ i).map fun j=>(j,V.bl true)).map (·.1)=κ i:=by rw[xA];exact List.map_id'' (fun _=>rfl) _
     refine⟨rfl,_,rfl,d,(κ i).map fun j=>(j,V.bl true),rfl,.inl (by rw[<- ek];exact hd),by rw[zp];omega,fun l ms hl pm pw=>⟨?_,C++[ms],by rw[zW,lm];rfl,?_,D.trans (zc hl),fun p aw e=>?_⟩⟩
     ·have:=rm.1
      omega
     ·exact(rm.same (zc hl)).snoc ((Y.sm.trans D).free hl) zb
     ·rw[au] at pm
      by_cases c:p<C.length
      ·rw[j9 c] at e
       exact am p aw e
      ·rw[xa (by omega)] at e
       have:p=C.length:=by
        have:=(zL.mp e).1;simp at this;omega
       subst this;simp at e;subst e;rw[lm];exact⟨zfp pm (g2 i).1 pw,fun j=>pm.mem_iff⟩
    ·rintro zs H3 ⟨C,lm,rm,D,am⟩
     rw[lr] at lm;have lz:=rm.1;refine⟨by omega,fun l hl=>k l C _ ((Y.sm.trans D).trans (zc hl)) ?_ ⟨zs,zb,rm.same (zc hl)⟩ lm fun p ms e=>?_⟩
     ·cases z:H l with
      | none=>rfl
      | some o'=>rw[(Y.sm.trans D) _ _ z] at hl;cases hl
     ·have hp:=(zL.mp e).1
      obtain⟨a,b⟩:=am p ms e;exact⟨a,fun j=>by rw[b j,all p (by omega) j]⟩
theorem Same.none{H b:Hp}{t:Addr}(s:Same H b)(h:b t=Option.none):H t=Option.none:=s.free h
def atK(b:List xC)(c:Str)(n:Nat):List Nat:=(List.range n).filter fun i=>decide (b[i]?.map xC.k=some c)
theorem YI(b:List xC)(c:Str)(n:Nat):(atK b c n).length<=n:=jd (jt _ _) (by rw[xV];exact zQ _)
theorem zfi{b:List xC}{c:Str}{n:Nat}{f:xC}(h:b[n]? =some f)(e:f.k=c):atK b c (n+1)=atK b c n++[n]:=by
 unfold atK;rw[YL,xW,Xx (by rw[h];exact qk (by show some f.k=_;rw[e]))]
 rfl
theorem zfj{b:List xC}{c:Str}{n:Nat}{f:xC}(h:b[n]? =some f)(e:f.k≠c):atK b c (n+1)=atK b c n:=by
 unfold atK;rw[YL,xW,Q7 (by rw[h];simpa using e),ZC,z7]
theorem J8(os:List Nat)(n:Nat):zE (os++[n])=zE os++[.int (n:Int)]:=by
 unfold zE;rw[zM];rfl
theorem xo{H:Hp}{J:Job}{u:Addr}(h:Rep K H (vE J) (.ref u)):∃(g c i b:Addr) (s pv:List V),SqT K H u [.ref g,.int J.hd,.ref c,.ref i,.ref b]/\Rep K H (.tup [.int J.gx,.int J.gy]) (.ref g)/\SqT K H c s/\Reps K H (J.fs.map wz) s/\SqT K H i pv/\Reps K H (J.ps.map xE) pv/\Rep K H (Zj J.as) (.ref b):=by
 obtain⟨a,xs,e,q,x0,r0,C,h0,x1,r1,e1,h1,x2,r2,e2,h2,x3,r3,D,U,x4,r4,E,Y,L⟩:=h;cases e;subst C e1 e2 D E;have l:r4=[]:=L;subst l;have m:x1=.int J.hd:=h1;subst m;obtain⟨g,T,rfl,Q⟩:=h0;obtain⟨c,O,rfl,M,N⟩:=h2;obtain⟨i,px,rfl,pq,pr⟩:=U;obtain⟨b,B,rfl,A⟩:=Y;exact⟨g,c,i,b,O,px,q,⟨g,T,rfl,Q⟩,M,N,pq,pr,⟨b,B,rfl,A⟩⟩
inductive zaw(K:W.Frag)(i:List V)(H:Hp)(Q:VK):Prop
 | mk (c:Addr) (J:Job) (g:Str) (_:i=[.ref c,.str g]) (_:Rep K H (vE J) (.ref c)) (_:J.fs.length<=100) (_:∀(l:Addr) b,H l=none->Same H b->b l=some (.lst (zE (atK J.fs g J.fs.length)))->Q (.ref l) b):zaw K i H Q
def zfx(K:W.Frag):Sp:=fun b H Q _=>zaw K b H Q
theorem zfK:zD ["job","kind"] ["job","kind"] (zr (topL 11)):=u5
theorem zgU{f:Addr}{N:FuncData}(F:Fun K "feeders_for" "feeders_for" (topL 11) f N)(B:Blt I):FnOk P w K I G CX0 1 f N ["job","kind"] (zfx K):=by
 have nd:=zfK.nd;refine F.ok zfK (fun vs H Q E h=>?_) (fun a0 A L s H vs Q E hr h=>?_)
 ·obtain⟨jp,J,C,rfl,_⟩:=h
  rfl
 ·obtain⟨jp,J,C,rfl,rj,fl,k⟩:=h
  have Y:=bG100000;obtain⟨g,O,ps,as,fv,aa,qj,_,qf,rf,qp,rp,_⟩:=xo rj;have lf:=rf.len;rw[zp] at lf;refine⟨_,(zk (zC (wj ["kind"] [1] rfl rfl (by kernel_rfl) (Wi rfl B.enumerate (za (zx zI (pv 0) ze (fun _ _=>rfl)) zd)) (fun _ _ _ _=>(vC (zF xm (zx (jc (K:=K) rfl) (pv 1) ze (fun _ _=>rfl)) (pv 2) (zS _)))) (fun _ _ _ _=>(pv 0))))),?_⟩
  refine⟨_,rfl,jp,_,_,_,rfl,rfl,qj,rfl,O,rfl,⟨_,qf⟩,WB (K:=K) (a:=O) (xs:=fv) (fun i D u=>D=zE (atK J.fs C i)/\Same H u) ⟨rfl,u9 _⟩ (fun i D u ⟨_,m⟩=>m.sqT qf) ?_ ?_⟩
  ·rintro i x D u T hx ⟨rfl,m⟩ U
   obtain⟨d,e1,r1⟩:=(rf.same m).get hx;rw[zU] at e1;obtain⟨fe,b,rfl⟩:=qr.mp e1;have hi:=(zL.mp b).1;have sT:=m.trans (zc (o:=.tup [.int (i:Int),x]) U);obtain⟨fa,fc,rfl,M,_⟩:=xJ (r1.same (zc (o:=.tup [.int (i:Int),x]) U));have le:=YI J.fs C i;refine⟨T,_,rfl,u8 zb,rfl,_,_,rfl,_,_,rfl,rfl,rfl,?_⟩
   refine⟨_,rfl,fa,_,_,_,rfl,rfl,M,rfl,_,rfl,rfl,_,rfl,jX (fun c=>⟨_,rfl,?_,?_,sT⟩) (fun c=>⟨?_,sT⟩)⟩
   ·rw[zT];omega
   ·rw[zfi b (V.str.inj (qQ c)),J8]
   ·rw[zfj b fun z=>c (qk (by rw[z]))]
  ·rintro D u ⟨rfl,m⟩
   rw[lf];have le:=YI J.fs C J.fs.length;exact⟨by rw[zT];omega,fun l hl=>k l _ (m.none hl) (m.trans (zc hl)) zb⟩
def VD(b g c i:Int):Int:=if yS (g-i)>yS (b-c) then yS (g-i) else yS (b-c)
theorem zdZ(a:Int):0<=yS a:=by unfold yS;split<;>omega
theorem zf4(b g c i:Int):0<=VD b g c i:=by
 unfold VD;have:=zdZ (g-i);have:=zdZ (b-c);split<;>assumption
theorem zf5(b g c i t:Int):VD b g c i<=t↔yS (b-c)<=t/\yS (g-i)<=t:=by
 unfold VD;split<;>omega
theorem zf6{g l i m:Int}(a:0<=g)(b:g<=1000)(c:0<=l)(d:l<=1000)(s:0<=i)(u:i<=1000)(A:0<=m)(B:m<=1000):VD g l i m<=1000:=by
 rw[zf5];unfold yS;constructor<;>split<;>omega
def inB(p:Int×Int):Prop:=0<=p.1/\p.1<=1000/\0<=p.2/\p.2<=1000
def xh:List (Int×Int)->List Int
 | p::q::r=>VD p.1 p.2 q.1 q.2::xh (q::r)
 | _=>[]
theorem xQ:∀b:List (Int×Int),(xh b).length=b.length-1
 | []=>rfl
 | [_]=>rfl
 | p::q::r=>by
  have:=xQ (q::r);show(xh (q::r)).length+1=_;rw[this];simp
theorem Qm:∀{ps:List (Int×Int)} {i:Nat} {p q:Int×Int},ps[i]? =some p->ps[i+1]? =some q->(xh ps)[i]? =some (VD p.1 p.2 q.1 q.2)
 | [],_,_,_,h,_=>by simp at h
 | [_],i,_,_,_,h=>by simp at h
 | a::b::r,0,p,q,h1,h2=>by simp at h1 h2;subst h1;subst h2;rfl
 | a::b::r,i+1,p,q,h1,h2=>Qm (ps:=b::r) (i:=i) (by simpa using h1) (by simpa using h2)
theorem Qa:∀{ps:List (Int×Int)},(∀p∈ps,inB p)->∀z∈xh ps,0<=z/\z<=1000
 | [],_,z,h=>by cases h
 | [_],_,z,h=>by cases h
 | a::b::r,hb,z,h=>by
  rcases qg.mp h with e | h
  ·have h1:=hb a (by simp)
   have h2:=hb b (by simp)
   rw[e];exact⟨zf4 _ _ _ _,zf6 h1.1 h1.2.1 h1.2.2.1 h1.2.2.2 h2.1 h2.2.1 h2.2.2.1 h2.2.2.2⟩
  ·exact Qa (ps:=b::r) (fun p hp=>hb p (jA _ hp)) z h
def plD(p:Int×Int):Dat:=.tup [.int p.1,.int p.2]
theorem XJ:∀(l:List (Int×Int)),Dat.imms (l.map plD)=true
 | []=>rfl
 | p::l=>by
  show(true&&Dat.imms (l.map plD))=true;rw[XJ l];rfl
theorem zcn:∀{l:List Int} {m:Int},(∀z∈l,0<=z/\z<=m)->0<=l.sum/\l.sum<=m*(l.length:Int)
 | [],m,_=>by simp
 | a::l,m,h=>by
  have h1:=h a (by simp)
  have h2:=zcn (l:=l) (m:=m) fun z b=>h z (jA _ b)
  rw[List.sum_cons,jU];have:m*((l.length+1:Nat):Int)=m*(l.length:Int)+m:=by rw[Int.natCast_add,Int.mul_add];simp
  omega
theorem Qe{H:Hp}{p:Int×Int}{x:V}(h:Rep K H (plD p) x):∃a,x=.ref a/\SqT K H a [.int p.1,.int p.2]:=by
 obtain⟨u,D,rfl,b,A,C,g,m,B,c,i,s,l⟩:=h;subst g i;cases(show c=[] from l)
 cases(show A=_ from m)
 cases(show B=_ from s)
 exact⟨u,rfl,b⟩
inductive zae(K:W.Frag)(b:List V)(H:Hp)(Q:VK):Prop
 | mk (u v:V) (p q:Int×Int) (_:b=[u,v]) (_:Rep K H (plD p) u) (_:Rep K H (plD q) v) (_:Q (.int (VD p.1 p.2 q.1 q.2)) H):zae K b H Q
def VR(K:W.Frag):Sp:=fun b H Q _=>zae K b H Q
theorem zhP:zD ["one","other"] ["one","other"] (zr (topL 3)):=u5
theorem zgJ{f:Addr}{l:FuncData}(F:Fun K "way_between" "way_between" (topL 3) f l)(B:Blt I):FnOk P w K I G CX0 1 f l ["one","other"] (VR K):=by
 refine F.ok zhP (fun D H Q E h=>?_) (fun C A i s H D Q E J h=>?_)
 ·obtain⟨u,v,p,q,rfl,_⟩:=h
  rfl
 ·obtain⟨u,v,p,q,rfl,c,g,k⟩:=h
  obtain⟨a,rfl,m⟩:=Qe c;obtain⟨b,rfl,hb⟩:=Qe g;refine⟨_,(zk (zC (zy (Zv rfl) rfl B.max QZ (za (zy vT rfl B.abs vU (za (zH vh (zx zI (pv 0) ze (fun _ _=>rfl)) (zx zI (pv 1) ze (fun _ _=>rfl))) zd)) (za (zy vT rfl B.abs vU (za (zH vh (zx zI (pv 0) ze (fun _ _=>rfl)) (zx zI (pv 1) ze (fun _ _=>rfl))) zd)) zd))))),?_⟩
  refine⟨_,rfl,a,_,_,_,rfl,rfl,m,rfl,_,rfl,b,_,_,_,rfl,rfl,hb,rfl,_,_,rfl,rfl,_,rfl,_,rfl,a,_,_,_,rfl,rfl,m,rfl,_,rfl,b,_,_,_,rfl,rfl,hb,rfl,_,_,rfl,rfl,_,rfl,_,_,rfl,k⟩
theorem Xk(b:List V):jE b (some 1) none=b.drop 1:=by
 unfold jE;rw[show(some (1:Int))=some ((1:Nat):Int) from rfl,HT.sIx_nat,HT.sIx_none]
 cases b with
 | nil=>rfl
 | cons x r=>
  have:min 1 (x::r).length=1:=by simp only[jU];omega
  rw[this];simp
inductive zas(K:W.Frag)(g:List V)(H:Hp)(Q:VK):Prop
 | mk (a:Addr) (i:List V) (b:List (Int×Int)) (_:g=[.ref a]) (_:SqL K H a i) (_:Reps K H (b.map plD) i) (_:(∀p∈b,inB p)) (_:b.length<=1000) (_:∀c,Same H c->Q (.int (xh b).sum) c):zas K g H Q
def zfu(K:W.Frag):Sp:=fun b H Q _=>zas K b H Q
theorem zfF:zD ["places"] ["places"] (zr (topL 4)):=u5
theorem zgP{f:Addr}{Y:FuncData}(F:Fun K "length_of" "length_of" (topL 4) f Y)(B:Blt I)(b:Dfn P w K I G "way_between" 1 ["one","other"] (VR K)):FnOk P w K I G CX0 2 f Y ["places"] (zfu K):=by
 have nd:=zfF.nd;refine F.ok zfF (fun vs H Q E h=>?_) (fun aa A O s H vs Q E hr h=>?_)
 ·obtain⟨a,c,C,rfl,_⟩:=h
  rfl
 ·obtain⟨a,c,C,rfl,hx,hp,hb,hl,k⟩:=h
  have a0:=bG100000;have N:=hp.len;rw[zp] at N;refine⟨_,(zk (zC (zy (Xm rfl) rfl B.sum boot_sum (za (wj [] [] rfl rfl (by kernel_rfl) (Yl rfl B.zip (za (pv 0) (za (xR ya (pv 0) (x6 ze) wc) zd))) (fun _ _ _ _=>jk) (fun _ _ _ _=>(zi b hr.m rfl (za (pv 0) (za (pv 1) zd))))) zd)))),?_⟩
  refine⟨_,rfl,_,rfl,1,rfl,a,c,rfl,hx,fun t ht=>?_⟩
  have s1:Same H (upd H t (.lst (jE c (some 1) none))):=zc ht;have l:upd H t (.lst (jE c (some 1) none)) t=some (.lst (c.drop 1)):=by rw[zb,Xk]
  have m:=s1.seq hx;have g:=hp.same s1;generalize upd H t (.lst (jE c (some 1) none))=H1 at s1 l m g;refine⟨true,true,a,t,rfl,⟨c,m⟩,⟨_,u7 l⟩,?_⟩
  refine Yy (K:=K) (k1:=true) (k2:=true) (xs:=c) (ys:=c.drop 1) (fun i L J=>L=((xh C).take i).map V.int/\Same H1 J) ⟨rfl,u9 _⟩ (fun i L J ⟨_,u⟩=>⟨u.seq m,u.seq (u7 l)⟩) ?_ ?_
  ·rintro i x y L J T e1 e2 ⟨rfl,u⟩ hT
   have M:c[i+1]? =some y:=by rw[Vm] at e2;rw[Nat.add_comm];exact e2
   have U:=u.trans (zc (o:=.tup [x,y]) hT);obtain⟨d1,q1,r1⟩:=(g.same U).get e1;obtain⟨d2,q2,r2⟩:=(g.same U).get M;rw[zU] at q1 q2;obtain⟨p,w1,rfl⟩:=qr.mp q1;obtain⟨q,w2,rfl⟩:=qr.mp q2;refine⟨T,_,rfl,u8 zb,rfl,_,_,rfl,_,_,rfl,rfl,rfl,?_⟩
   refine⟨_,rfl,_,rfl,x,y,p,q,rfl,r1,r2,?_,?_,U⟩
   ·have:=xQ C
    rw[zp,qP];omega
   ·rw[qq (Qm w1 w2),zM];rfl
  ·rintro L J ⟨rfl,u⟩
   have hm:min c.length (c.drop 1).length=(xh C).length:=by rw[xQ,ZV];omega
   refine⟨by rw[zp,qP];omega,fun D hD=>⟨D,xh C,rfl,?_,fun z hz=>?_,by rw[xQ];omega,k _ ((s1.trans u).trans (zc hD))⟩⟩
   ·refine u7 ?_
    rw[zb,hm,qY]
   ·have:=Qa hb z hz
    omega
end
theorem at0{x:V}{r:List V}:atI (x::r) 0=some x:=zY (j:=0) rfl
theorem at1{x y:V}{r:List V}:atI (x::y::r) 1=some y:=zY (j:=1) rfl
theorem at2{x y z:V}{r:List V}:atI (x::y::z::r) 2=some z:=zY (j:=2) rfl
inductive Ev where
 | behind (p:Nat) | none (p:Nat) | failed (p:Nat) | dropped (p:Nat) | picked (p f:Nat) | missed (p f:Nat) | laid (p:Nat) (k:Str) (x y:Int)
def Ev.w:Ev->Str
 | .behind _=> "behind" | .none _=> "none" | .failed _=> "failed" | .dropped _=> "dropped" | .picked _ _=> "picked" | .missed _ _=> "missed" | .laid _ _ _ _=> "laid"
def Ev.p:Ev->Nat
 | .behind p=>p | .none p=>p | .failed p=>p | .dropped p=>p | .picked p _=>p | .missed p _=>p | .laid p _ _ _=>p
def Ev.r:Ev->List Dat
 | .picked _ f=>[.int (f:Int)] | .missed _ f=>[.int (f:Int)] | .laid _ k x y=>[.str k,.tup [.int x,.int y]] | _=>[]
def evD(e:Ev):Dat:=.tup (.str e.w::.int (e.p:Int)::e.r)
def zt(c:List Str)(b:List Ev):List Ev:=b.filter fun e=>decide (e.w∈c)
theorem Qg(t:Str):∀l:List Str,inV (.str t) (l.map V.str)=decide (t∈l)
 | []=>(jM (fun z=>nomatch z)).symm
 | x::l=>by
  show((x==t)||inV (.str t) (l.map V.str))=_
  rw[Qg t l,wB,Jh,wE,wE,qg,xr];exact⟨fun h=>h.imp Eq.symm id,fun h=>h.imp Eq.symm id⟩
theorem ZJ{α:Type}{f:α->Bool}{l:List α}{i:Nat}{x:α}(h:l[i]? =some x):(l.take (i+1)).filter f=(l.take i).filter f++if f x=true then [x] else []:=by
 rw[qq h,xW];congr 1
 cases q:f x with
 | true=>rw[Xx q,zu rfl];rfl
 | false=>rw[Q7 (by rw[q];exact qH),zo qH];rfl
section
variable{P:Program}{w:World}{K:W.Frag}{C:Str->Option Value}{u:Heap}
theorem xO{H:Hp}{e:Ev}{x:V}(h:Rep K H (evD e) x):∃a r,x=.ref a/\SqT K H a (.str e.w::.int (e.p:Int)::r)/\Reps K H e.r r:=by
 obtain⟨a,l,rfl,q,c,i,rfl,h0,g,b,rfl,h1,h2⟩:=h;cases(show c=_ from h0)
 cases(show g=_ from h1)
 exact⟨a,b,rfl,q,h2⟩
def Evs(K:W.Frag)(H:Hp)(l:Addr)(c:List Ev):Prop:=∃b,H l=some (.lst b)/\Reps K H (c.map evD) b
theorem Evs.same{H c:Hp}{l:Addr}{g:List Ev}(h:Evs K H l g)(s:Same H c):Evs K c l g:=let ⟨i,a,b⟩:=h;⟨i,s _ _ a,b.same s⟩
inductive zay(K:W.Frag)(g:List V)(H:Hp)(Q:VK):Prop
 | mk (l t:Addr) (c:List Ev) (i:List Str) (_:g=[.ref l,.ref t]) (_:Evs K H l c) (_:SqT K H t (i.map V.str)) (_:c.length<=100000) (_:∀(p:Addr) b,H p=none->Same H b->Evs K b p (zt i c)->Q (.ref p) b):zay K g H Q
def JW(K:W.Frag):Sp:=fun b H Q _=>zay K b H Q
theorem zfM:zD ["events","words"] ["events","words"] (zr (topL 18)):=u5
theorem zgW{f:Addr}{N:FuncData}(F:Fun K "events_of" "events_of" (topL 18) f N)(B:Blt C):FnOk P w K C u CX0 1 f N ["events","words"] (JW K):=by
 have nd:=zfM.nd;refine F.ok zfM (fun vs H Q E h=>?_) (fun a0 A I s H vs Q E hr h=>?_)
 ·obtain⟨l,t,g,b,rfl,_⟩:=h
  rfl
 ·obtain⟨l,t,g,b,rfl,⟨xs,T,Y⟩,ht,le,k⟩:=h
  have O:=bG1000000;have xl:=Y.len;rw[zp] at xl;refine⟨_,(zk (zC (jZ ["words"] [1] rfl rfl (by kernel_rfl) (qD (pv 0)) (fun _ _ _ _=>(vC (zF (jP (K:=K) rfl) (zx (jc (K:=K) rfl) (pv 0) ze (fun _ _=>rfl)) (pv 1) (by with_unfolding_all rfl)))) (fun _ _ _ _=>(pv 0))))),?_⟩
  refine⟨_,rfl,l,rfl,⟨_,u7 T⟩,jD (K:=K) (a:=l) (xs:=xs) (fun i G D=>Reps K D ((zt b (g.take i)).map evD) G/\Same H D) ⟨rfl,u9 _⟩ (fun i G D ⟨_,s1⟩=>u7 (s1 _ _ T)) ?_ ?_⟩
  ·rintro i x G D hx ⟨m,s1⟩
   obtain⟨d,L,U⟩:=(Y.same s1).get hx;rw[zU] at L;obtain⟨e,M,rfl⟩:=qr.mp L;obtain⟨a,r,rfl,qa,_⟩:=xO U;have il:=(zL.mp M).1;have J:=m.len;rw[zp] at J;have z2:(zt b (g.take i)).length<=i:=jd (jt _ _) (by rw[qP];omega)
   have e2:zt b (g.take (i+1))=zt b (g.take i)++if decide (e.w∈b)=true then [e] else []:=ZJ M
   refine⟨rfl,_,rfl,a,_,_,.str e.w,rfl,rfl,qa,at0,_,rfl,t,_,rfl,.inr (s1.sqT ht),rfl,vI b,_,rfl,?_⟩
   rw[Qg,e2];refine jX (fun c=>⟨_,rfl,by omega,?_,s1⟩) (fun c=>⟨?_,s1⟩)
   ·rw[zu (show decide (e.w∈b)=true from c),zM]
    exact ub U m
   ·rw[zo (show ¬decide (e.w∈b)=true from c),z7];exact m
  ·rintro G D ⟨m,s1⟩
   rw[xl,qY] at m;have J:=m.len;rw[zp] at J;have z2:(zt b g).length<=g.length:=jt _ _;refine⟨by omega,fun p hp=>k p _ (s1.free hp) (s1.trans (zc hp)) ⟨_,zb,m.same (zc hp)⟩⟩
inductive zal(K:W.Frag)(g:List V)(H:Hp)(Q:VK):Prop
 | mk (l t:Addr) (c:List Ev) (i:List Str) (_:g=[.ref l,.ref t]) (_:Evs K H l c) (_:SqT K H t (i.map V.str)) (_:c.length<=100000) (_:∀(p:Addr) b,H p=none->Same H b->b p=some (.lst ((zt i c).map fun e=>V.int (e.p:Int)))->Q (.ref p) b):zal K g H Q
def zam(K:W.Frag):Sp:=fun b H Q _=>zal K b H Q
theorem zfC:zD ["events","words"] ["events","words"] (zr (topL 19)):=u5
theorem zgM{f:Addr}{N:FuncData}(F:Fun K "parts_of" "parts_of" (topL 19) f N)(B:Blt C)(b:Dfn P w K C u "events_of" 1 ["events","words"] (JW K)):FnOk P w K C u CX0 2 f N ["events","words"] (zam K):=by
 have nd:=zfC.nd;refine F.ok zfC (fun vs H Q E h=>?_) (fun a0 A I s H vs Q E hr h=>?_)
 ·obtain⟨l,t,c,m,rfl,_⟩:=h
  rfl
 ·obtain⟨l,t,c,m,rfl,hl,ht,le,k⟩:=h
  have O:=bG1000000;refine⟨_,(zk (zC (jZ [] [] rfl rfl (by kernel_rfl) (qD (zi b hr.m rfl (za (pv 0) (za (pv 1) zd)))) (fun _ _ _ _=>jk) (fun _ _ _ _=>(zx (jc (K:=K) rfl) (pv 0) ze (fun _ _=>rfl)))))),?_⟩
  refine⟨_,rfl,_,rfl,l,t,c,m,rfl,hl,ht,le,fun q Y hq s1 ⟨U,hx,J⟩=>?_⟩
  have z2:(zt m c).length<=c.length:=jt _ _;generalize zt m c=fs at J k z2;have T:=J.len;rw[zp] at T;refine⟨q,rfl,⟨_,u7 hx⟩,jD (K:=K) (a:=q) (xs:=U) (fun i D g=>D=(fs.take i).map (fun e=>V.int (e.p:Int))/\Same Y g) ⟨rfl,u9 _⟩ (fun i D g ⟨_,s2⟩=>u7 (s2 _ _ hx)) ?_ ?_⟩
  ·rintro i x D g G ⟨rfl,s2⟩
   obtain⟨d,L,rd⟩:=(J.same s2).get G;rw[zU] at L;obtain⟨e,M,rfl⟩:=qr.mp L;obtain⟨a,r,rfl,qa,_⟩:=xO rd;have il:=(zL.mp M).1;refine⟨rfl,_,rfl,a,_,_,_,rfl,rfl,qa,at1,by rw[zp,qP];omega,?_,s2⟩
   rw[qq M,zM];rfl
  ·rintro D g ⟨rfl,s2⟩
   rw[T,qY];exact⟨by rw[zp];omega,fun p hp=>k p _ (s1.free (s2.free hp)) ((s1.trans s2).trans (zc hp)) zb⟩
def zw:List Str:=["picked","missed"]
def zB:List Str:=["behind","none","failed","dropped"]
structure TxG(K:W.Frag)(a:Addr)(ws:List Str):Prop where
 all:∀H,SqT K H a (ws.map V.str)
structure JSm(J:Job):Prop where
 ps:J.ps.length<=60
 fs:J.fs.length<=60
 as:∀q∈asI J,InN J.ps.length q.1/\InN J.ps.length q.2
 al:J.as.length<=300
theorem zdu(z:Int)(l:List Ev):inV (.int z) (l.map fun e=>V.int (e.p:Int))=l.any fun e=>((e.p:Int)==z):=by
 unfold inV;rw[List.any_map];rfl
theorem WG(l:List Ev):(l.map fun e=>V.int (e.p:Int)).all jS=true:=by
 rw[Je];exact xB.mpr fun _ _=>rfl
inductive V4(K:W.Frag)(m:List V)(H:Hp)(Q:VK):Prop
 | mk (i l:Addr) (J:Job) (s:Nat) (c:List Ev) (_:m=[.ref i,.int (s:Int),.ref l]) (_:Rep K H (vE J) (.ref i)) (_:JSm J) (_:s<J.ps.length) (_:Evs K H l c) (_:c.length<=100000) (_:∀b g,Same H g->(b=true↔∃e∈zt zB c,(e.p:Int)≠(s:Int)/\∃k,Wk (asI J) k (e.p:Int) (s:Int))->Q (.bl b) g):V4 K m H Q
def Ye(K:W.Frag):Sp:=fun b H Q _=>V4 K b H Q
theorem zcR:zD ["job","part","events","given"] ["job","part","events"] (zr (topL 20)):=u5
theorem zeP{f O:Addr}{fd:FuncData}(F:Fun K "is_lost" "is_lost" (topL 20) f fd)(B:Blt C)(b:C "GIVEN_UP" = some (.ref O))(G:TxG K O zB)(m:Dfn P w K C u "parts_of" 2 ["events","words"] (zam K))(c:Dfn P w K C u "ahead_of" 3 ["job","part"] (XG K)):FnOk P w K C u CX0 4 f fd ["job","part","events"] (Ye K):=by
 have nd:=zcR.nd;refine F.ok zcR (fun vs H Q E h=>?_) (fun ac A a0 s H vs Q E hr h=>?_)
 ·obtain⟨jp,l,J,s,L,rfl,_⟩:=h
  rfl
 ·obtain⟨jp,l,J,s',L,rfl,rj,T,sl,hl,le,k⟩:=h
  have aa:=bG1000000;have ae:=T.ps;refine⟨_,(zf (zG (i:=3) nd rfl (Or.inr rfl) (zi m hr.m rfl (za (pv 2) (za (y3 (v:=.ref O) rfl b rfl) zd))))
   (zk (zC (zy (Xo rfl) rfl B.any WT (za (jZ ["given"] [3] rfl rfl (by kernel_rfl) (qD (zi c hr.m rfl (za (pv 0) (za (pv 1) zd)))) (fun _ _ _ _=>jk) (fun _ _ _ _=>(qZ (jP (K:=K) rfl) (pv 0) (pv 1) (by with_unfolding_all rfl)))) zd))))),?_⟩
  refine⟨_,rfl,l,O,L,zB,rfl,hl,G.all _,le,fun g H1 hg s1 G1=>?_⟩
  have z2:(zt zB L).length<=L.length:=jt _ _;generalize zt zB L=fs at G1 k z2;refine⟨_,rfl,_,rfl,(s':Int),jp,J,rfl,rj.same s1,T.ps,⟨by omega,by omega⟩,T.as,T.al,fun ml M H2 s2 _ M2 ab _ mem=>?_⟩
  have G2:=s2 _ _ G1;refine⟨ml,rfl,⟨_,u7 M2⟩,jD (K:=K) (a:=ml) (xs:=M.map V.int) (fun i U N=>U=((M.take i).map fun z=>fs.any fun e=>((e.p:Int)==z)).map V.bl/\Same H2 N) ⟨rfl,u9 _⟩ (fun i U N ⟨_,I⟩=>u7 (I _ _ M2)) ?_ ?_⟩
  ·rintro i x U N hx ⟨rfl,I⟩
   rw[zU] at hx;obtain⟨z,ez,rfl⟩:=qr.mp hx;have il:=(zL.mp ez).1;refine⟨rfl,_,rfl,_,rfl,g,_,rfl,.inl (u7 (I _ _ G2)),rfl,WG fs,by rw[zp,zp,qP];omega,?_,I⟩
   rw[qq ez,zM,zM,zdu];rfl
  ·rintro U N ⟨rfl,I⟩
   rw[show M.take (M.map V.int).length=M by rw[zp,qY]]
   refine⟨by rw[zp,zp];omega,fun D hD=>⟨D,_,rfl,u7 zb,k _ _ ((s1.trans (s2.trans I)).trans (zc hD)) ?_⟩⟩
   rw[List.any_map,vZ];constructor
   ·rintro⟨z,hz,h⟩
    obtain⟨e,Y,h2⟩:=vZ.mp h;have h3:(e.p:Int)=z:=by simpa using h2
    rw[<- h3] at hz;exact⟨e,Y,(mem _).mp hz⟩
   ·rintro⟨e,Y,h⟩
    exact⟨(e.p:Int),(mem _).mpr h,vZ.mpr ⟨e,Y,by simp⟩⟩
def Ev.f:Ev->Nat
 | .picked _ f=>f | .missed _ f=>f | _=>0
def qA(b:List Ev):List Int:=(zt zw b).map fun e=>(e.f:Int)
theorem Qb{es:List Ev}{e:Ev}(h:e∈zt zw es):e.r=[.int (e.f:Int)]:=by
 have:=qQ (ji.mp h).2;cases e with
 | picked p f=>rfl
 | missed p f=>rfl
 | behind p=>exact absurd (show("behind":Str)∈zw from this) (by decide)
 | none p=>exact absurd (show("none":Str)∈zw from this) (by decide)
 | failed p=>exact absurd (show("failed":Str)∈zw from this) (by decide)
 | dropped p=>exact absurd (show("dropped":Str)∈zw from this) (by decide)
 | laid p k x y=>exact absurd (show("laid":Str)∈zw from this) (by decide)
def wb(J:Job)(c:xb)(b:List Ev):List Nat:=(atK J.fs c.k J.fs.length).filter fun f:Nat=>decide (((qA b).count (f:Int):Int)<(J.fs[f]?.map xC.m).getD 0)
inductive NF(b:List Nat)(own:Nat):V->Prop
 | own (h:own∈b):NF b own (.int (own:Int))
 | non (h:b=[]):NF b own .non
 | least (f:Nat) (n:own∉b) (h:f∈b) (l:∀g∈b,f<=g):NF b own (.int (f:Int))
theorem xz(z:Nat)(l:List Nat):inV (.int (z:Int)) (zE l)=decide (z∈l):=by
 unfold inV zE;rw[List.any_map,wB,vZ,wE];constructor
 ·rintro⟨x,hx,h⟩
  have h2:(x:Int)=(z:Int):=by simpa [eqV] using h
  rw[<- show x=z by omega];exact hx
 ·intro h
  exact⟨z,h,by show((z:Int)==(z:Int))=true;simp⟩
theorem zbO(l:List Nat):(zE l).all jS=true:=by
 unfold zE;rw[Je];exact xB.mpr fun _ _=>rfl
inductive zcw(K:W.Frag)(s:List V)(H:Hp)(Q:VK):Prop
 | mk (g m l:Addr) (J:Job) (p own:Nat) (i:xb) (b:List Ev) (_:s=[.ref g,.ref m,.ref l]) (_:Rep K H (vE J) (.ref g)) (_:JSm J) (_:SqT K H m [.int (p:Int),.int (own:Int)]) (_:J.ps[p]? =some i) (_:Evs K H l b) (_:b.length<=100000) (_:∀v c,Same H c->NF (wb J i b) own v->Q v c):zcw K s H Q
def zhJ(K:W.Frag):Sp:=fun b H Q _=>zcw K b H Q
theorem zhS:zD ["job","pick","events","part","own","taken","ready"] ["job","pick","events"] (zr (topL 21)):=u5
theorem zie{f tr:Addr}{fd:FuncData}(F:Fun K "next_feeder" "next_feeder" (topL 21) f fd)(B:Blt C)(N:C "TRIED" = some (.ref tr))(G:TxG K tr zw)(I:Dfn P w K C u "events_of" 1 ["events","words"] (JW K))(b:Dfn P w K C u "feeders_for" 1 ["job","kind"] (zfx K)):FnOk P w K C u CX0 2 f fd ["job","pick","events"] (zhJ K):=by
 have nd:=zhS.nd;refine F.ok zhS (fun vs H Q E h=>?_) (fun ax A ao s H vs Q E hr h=>?_)
 ·obtain⟨jp,pk,l,J,p,own,pa,D,rfl,_⟩:=h
  rfl
 ·obtain⟨jp,pk,l,J,p,own,pa,D,rfl,rj,js,hp,ep,hl,le,k⟩:=h
  have av:=bG1000000;have hu:=hr.units0;have ae:=hr.units;have az:=js.fs;obtain⟨g,fs,ps,as,fv,ap,qj,_,qf,rf,qp,rp,_⟩:=xo rj;refine⟨_,(zf (xc (pv 1) (jN rfl (zK (zA (i:=3) nd rfl (Or.inl rfl)) (zK (zA (i:=4) nd rfl (Or.inl rfl)) jv))))
   (zf (zG (i:=5) nd rfl (Or.inr rfl) (jZ [] [] rfl rfl (by kernel_rfl) (qD (zi I hr.m rfl (za (pv 2) (za (y3 (v:=.ref tr) rfl N rfl) zd)))) (fun _ _ _ _=>jk) (fun _ _ _ _=>(zx (jc (K:=K) rfl) (pv 0) ze (fun _ _=>rfl)))))
   (zf (XI ["taken","job"] [5,0] rfl rfl (by kernel_rfl) (qD (zi b hr.m rfl (za (pv 0) (za (zx zI (zx zI (zx zI (pv 0) ze (fun _ _=>rfl)) (pv 3) (fun _ _=>rfl)) ze (fun _ _=>rfl)) zd)))) (fun _ _ _ _=>(vC (zF zaR (zgG (K:=K) rfl jV PySem.F.slot_list_count PySem.F.type_list_count zbQ (pv 1) (za (pv 0) zd)) (zx (jc (K:=K) rfl) (zx (jc (K:=K) rfl) (zx (jc (K:=K) rfl) (pv 2) ze (fun _ _=>rfl)) (pv 0) (fun _ _=>rfl)) ze (fun _ _=>rfl)) (zS _)))) (fun _ _ _ _=>(pv 0)) (zA (i:=6) nd rfl (Or.inl rfl)))
   (zf (jq (zF jJ (pv 4) (pv 6) (by with_unfolding_all rfl))
   (zk (zC (pv 4)))
   qy)
   (zk (zC (Ym (YF rfl ae) rfl B.min WQ (za (pv 6) zd) yE))))))),?_⟩
  refine⟨_,rfl,pk,_,rfl,hp,rfl,_,_,rfl,_,_,rfl,rfl,?_⟩
  refine⟨_,rfl,l,tr,D,zw,rfl,hl,G.all _,le,fun q H1 hq s1 ⟨xs,hx,rx⟩=>?_⟩
  have z2:(zt zw D).length<=D.length:=jt _ _;have xl:=rx.len;rw[zp] at xl;refine⟨q,rfl,⟨_,u7 hx⟩,jD (K:=K) (a:=q) (xs:=xs) (fun i T H2=>T=(((zt zw D).take i).map fun e=>(e.f:Int)).map V.int/\Same H1 H2) ⟨rfl,u9 _⟩ (fun i T H2 ⟨_,s2⟩=>u7 (s2 _ _ hx)) ?_ ?_⟩
  ·rintro i x T H2 M ⟨rfl,s2⟩
   obtain⟨d,U,rd⟩:=(rx.same s2).get M;rw[zU] at U;obtain⟨e,ee,rfl⟩:=qr.mp U;obtain⟨a,r,rfl,qa,rr⟩:=xO rd;rw[Qb (je ee)] at rr;obtain⟨x0,r0,rfl,e0,_⟩:=rr;cases(show x0=_ from e0)
   have il:=(zL.mp ee).1;refine⟨rfl,_,rfl,a,_,_,_,rfl,rfl,qa,at2,by rw[zp,zp,qP];omega,?_,s2⟩
   rw[qq ee,zM,zM];rfl
  rintro T H2 ⟨rfl,s2⟩;rw[xl,qY];refine⟨by rw[zp,zp];omega,fun tk an=>?_⟩
  have s3:=(s1.trans s2).trans (zc (H:=H2) (o:=.lst (((zt zw D).map fun e=>(e.f:Int)).map V.int)) an)
  have T3:=zb (H:=H2) (a:=tk) (o:=.lst (((zt zw D).map fun e=>(e.f:Int)).map V.int))
  rw[show((zt zw D).map fun e=>(e.f:Int))=qA D from rfl] at s3 T3 ⊢
  generalize upd H2 tk (.lst ((qA D).map V.int))=H3 at s3 T3;have pl:=rp.len;rw[zp] at pl;obtain⟨xp,ac⟩:∃x,ap[p]? =some x:=⟨_,qR (by rw[pl];exact(zL.mp ep).1)⟩
  obtain⟨d,U,rd⟩:=rp.get ac;rw[zU,ep] at U;cases U;obtain⟨af,pc,rfl,ar,_⟩:=yc rd;refine⟨_,rfl,_,rfl,jp,_,_,_,rfl,rfl,s3.sqT qj,rfl,_,rfl,ps,_,_,.ref af,rfl,rfl,s3.sqT qp,zY ac,af,_,_,_,rfl,rfl,s3.sqT ar,rfl,jp,J,pa.k,rfl,rj.same s3,by omega,fun fl H4 ay s4 L4=>?_⟩
  have ag:=s3.trans s4;have T4:=s4 _ _ T3;have al:=YI J.fs pa.k J.fs.length;have Y:=rf.len;rw[zp] at Y;have aa:∀f∈atK J.fs pa.k J.fs.length,f<J.fs.length:=fun f hf=>x5.mp (ji.mp hf).1
  rw[show wb J pa D=(atK J.fs pa.k J.fs.length).filter fun f:Nat=>decide (((qA D).count (f:Int):Int)<(J.fs[f]?.map xC.m).getD 0) from rfl] at k
  generalize atK J.fs pa.k J.fs.length=L at L4 al aa k;refine⟨fl,rfl,⟨_,u7 L4⟩,jD (K:=K) (a:=fl) (xs:=zE L) (fun i T H5=>An2 (T=zE ((L.take i).filter fun f:Nat=>decide (((qA D).count (f:Int):Int)<(J.fs[f]?.map xC.m).getD 0))) (Same H4 H5)) ⟨rfl,u9 _⟩ (fun i T H5 ⟨_,O⟩=>u7 (O _ _ L4)) ?_ ?_⟩
  ·rintro i x T H5 M ⟨rfl,O⟩
   have aw:=M;unfold zE at M;rw[zU] at M;obtain⟨f,ef,rfl⟩:=qr.mp M;have ai:=aa f (je ef);have ii:=(zL.mp ef).1;obtain⟨xf,ab⟩:∃x,fv[f]? =some x:=⟨_,qR (by rw[Y];exact ai)⟩
   obtain⟨d,U,au⟩:=rf.get ab;rw[zU] at U;obtain⟨fe,ah,rfl⟩:=qr.mp U;obtain⟨fa,fc,rfl,aq,_⟩:=xJ au;have a0:=ag.trans O;have zl:((L.take i).filter fun f:Nat=>decide (((qA D).count (f:Int):Int)<(J.fs[f]?.map xC.m).getD 0)).length<=i:=jd (jt _ _) (by rw[qP];omega)
   refine⟨rfl,_,rfl,.inl ⟨rfl,_,u7 (O _ _ T4)⟩,_,rfl,tk,qA D,(f:Int),rfl,rfl,O _ _ T4,_,rfl,jp,_,_,_,rfl,rfl,a0.sqT qj,rfl,_,rfl,fs,_,_,.ref fa,rfl,rfl,a0.sqT qf,zY ab,fa,_,_,_,rfl,rfl,a0.sqT aq,rfl,_,_,rfl,rfl,_,rfl,?_⟩
   rw[ZJ ef,ah];show if decide (((qA D).count (f:Int):Int)<fe.m)=true then _ else _
   refine jX (fun c=>?_) (fun c=>?_)
   ·refine⟨_,rfl,by rw[zT];omega,?_,O⟩
    rw[show(Option.map xC.m (some fe)).getD 0=fe.m from rfl,zu c,J8]
   ·refine⟨?_,O⟩
    rw[show(Option.map xC.m (some fe)).getD 0=fe.m from rfl,zo c,z7]
  rintro T H5 ⟨rfl,O⟩;rw[show L.take (zE L).length=L by rw[zT,qY]]
  have rl:(L.filter fun f:Nat=>decide (((qA D).count (f:Int):Int)<(J.fs[f]?.map xC.m).getD 0)).length<=L.length:=jt _ _
  generalize (L.filter fun f:Nat=>decide (((qA D).count (f:Int):Int)<(J.fs[f]?.map xC.m).getD 0))=R at k rl
  refine⟨by rw[zT];omega,fun ro am=>?_⟩
  have s6:=(ag.trans O).trans (zc (H:=H5) (o:=.lst (zE R)) am);have R6:=zb (H:=H5) (a:=ro) (o:=.lst (zE R));generalize upd H5 ro (.lst (zE R))=H6 at s6 R6;refine⟨_,rfl,_,rfl,ro,_,rfl,.inl (u7 R6),rfl,zbO R,_,rfl,?_⟩
  rw[xz];refine jX (fun c=>?_) (fun c=>?_)
  ·exact⟨_,rfl,k _ _ s6 (.own (qQ c))⟩
  ·refine⟨_,rfl,ro,R.map fun i:Nat=>(i:Int),rfl,u7 (by rw[R6];unfold zE;rw[xA];rfl),fun h=>k _ _ s6 (.non (List.map_eq_nil_iff.mp h)),fun m hm ak=>?_⟩
   obtain⟨f,hf,rfl⟩:=qo.mp hm;exact k _ _ s6 (.least f (fun z=>c (qk z)) hf fun g' aj=>by have:=ak _ (qo.mpr ⟨g',aj,rfl⟩);omega)
def Wz(b:List Bool)(c:List Ev):Bool:=if b.length<=(zt zw c).length then true else b.getD (zt zw c).length false
theorem Evs.len{H:Hp}{l:Addr}{c:List Ev}(h:Evs K H l c):∃xs,H l=some (.lst xs)/\xs.length=c.length:=by
 obtain⟨xs,a,b⟩:=h;have:=b.len;rw[zp] at this;exact⟨xs,a,this⟩
inductive V3(K:W.Frag)(m:List V)(H:Hp)(Q:VK):Prop
 | mk (i l:Addr) (g:List Bool) (b:List Ev) (_:m=[.ref i,.ref l]) (_:SqL K H i (g.map V.bl)) (_:Evs K H l b) (_:b.length<=100000) (_:∀c,Same H c->Q (.bl (Wz g b)) c):V3 K m H Q
def zcx(K:W.Frag):Sp:=fun b H Q _=>V3 K b H Q
theorem zcQ:zD ["luck","events","spent"] ["luck","events"] (zr (topL 22)):=u5
theorem zeO{f D:Addr}{N:FuncData}(F:Fun K "is_lucky" "is_lucky" (topL 22) f N)(B:Blt C)(g:C "TRIED" = some (.ref D))(G:TxG K D zw)(b:Dfn P w K C u "events_of" 1 ["events","words"] (JW K)):FnOk P w K C u CX0 2 f N ["luck","events"] (zcx K):=by
 have nd:=zcQ.nd;refine F.ok zcQ (fun vs H Q E h=>?_) (fun Y A L s H vs Q E hr h=>?_)
 ·obtain⟨J,l,I,M,rfl,_⟩:=h
  rfl
 ·obtain⟨J,l,I,M,rfl,hk,hl,le,k⟩:=h
  refine⟨_,(zf (zG (i:=2) nd rfl (Or.inl rfl) (zy zO rfl B.len boot_len (za (zi b hr.m rfl (za (pv 1) (za (y3 (v:=.ref D) rfl g rfl) zd))) zd)))
   (zk (zC (zfT (qZ zfW (pv 2) (zy zO rfl B.len boot_len (za (pv 0) zd)) (zS _)) (we (zx qh (pv 0) (pv 2) (fun _ _=>rfl))))))),?_⟩
  refine⟨_,rfl,l,D,M,zw,rfl,hl,G.all _,le,fun q T hq s1 O=>?_⟩
  obtain⟨xs,hx,xl⟩:=O.len;have mb:(I.map V.bl).length=I.length:=zp ..;have m:=k T s1;unfold Wz at m;refine⟨q,_,rfl,.inl (u7 hx),_,rfl,_,rfl,J,_,rfl,.inl (s1.seq hk),_,_,rfl,rfl,_,rfl,jX (fun c=>?_) (fun c=>?_)⟩
  ·have U:=qQ c
   rw[zu (by omega)] at m
   exact m
  ·have U:=of_decide_eq_false ((Jj _).mp c)
   rw[zo (by omega)] at m
   refine⟨_,rfl,_,rfl,J,_,_,_,rfl,rfl,s1.seq hk,?_,m⟩
   rw[xl];refine zY ?_
   rw[zU,Ja,qR (by omega)];rfl
def Y9(J:Job)(p:Nat)(b:List Ev):Prop:=∃e∈zt zB b,(e.p:Int)≠(p:Int)/\∃k,Wk (asI J) k (e.p:Int) (p:Int)
inductive TryR(J:Job)(i:xb)(p own:Nat)(l:List Bool)(c:List Ev):Nat->List Ev->List Ev->Prop
 | fin (b:List Ev):TryR J i p own l c 0 b (b++[.failed p])
 | none (n:Nat) (b:List Ev) (h:NF (wb J i (c++b)) own .non):TryR J i p own l c (n+1) b (b++[.none p])
 | luck (n:Nat) (b:List Ev) (f:Nat) (h:NF (wb J i (c++b)) own (.int (f:Int))) (g:Wz l (c++b)=true):TryR J i p own l c (n+1) b (b++[.picked p f])
 | miss (n:Nat) (b:List Ev) (f:Nat) (r:List Ev) (h:NF (wb J i (c++b)) own (.int (f:Int))) (g:Wz l (c++b)=false) (t:TryR J i p own l c n (b++[.missed p f]) r):TryR J i p own l c (n+1) b r
def PickR(J:Job)(g:xb)(p own:Nat)(c:List Bool)(n:Nat)(b r:List Ev):Prop:=(Y9 J p b/\r=[.behind p])\/(¬Y9 J p b/\TryR J g p own c b n [] r)
theorem x8:∀b:List Ev,Dat.imms (b.map evD)=true
 | []=>rfl
 | e::b=>by
  show((evD e).imm&&Dat.imms (b.map evD))=true;rw[x8 b];cases e<;>rfl
theorem XX{H:Hp}{T c q:Addr}{g ys:List V}{b:List Ev}{e:Ev}(r:Reps K H (b.map evD) g)(m:Reps K H (.str e.w::.int (e.p:Int)::e.r) ys)(i:H T=none)(h1:upd H T (.tup ys) c=none)(hq:upd (upd H T (.tup ys)) c (.lst [.ref T]) q=none) :
  Evs K (upd (upd (upd H T (.tup ys)) c (.lst [.ref T])) q (.lst (g++[.ref T]))) q (b++[e]):=by
 have s2:=(zc (o:=.lst [.ref T]) h1).trans (zc (o:=.lst (g++[.ref T])) hq);have s1:=(zc (o:=.tup ys) i).trans s2;refine⟨_,zb,?_⟩
 rw[zM];have l:Rep K (upd (upd (upd H T (.tup ys)) c (.lst [.ref T])) q (.lst (g++[.ref T]))) (evD e) (.ref T):=⟨T,ys,rfl,u8 (s2 _ _ zb),m.same s1⟩;exact ub l (r.same s1)
inductive V0(K:W.Frag)(B:List V)(H:Hp)(Q:VK):Prop
 | mk (i A m l:Addr) (J:Job) (p own:Nat) (s:xb) (g:List Bool) (n:Nat) (c:List Ev) (_:B=[.ref i,.ref A,.ref m,.int (n:Int),.ref l]) (_:Rep K H (vE J) (.ref i)) (_:JSm J) (_:SqT K H A [.int (p:Int),.int (own:Int)]) (_:J.ps[p]? =some s) (_:SqL K H m (g.map V.bl)) (_:n<=10) (_:Evs K H l c) (_:c.length<=10000) (_:∀(q:Addr) (r:List Ev) b,H q=none->Same H b->Evs K b q r->r.length<=n+1->PickR J s p own g n c r->Q (.ref q) b):V0 K B H Q
def zcu(K:W.Frag):Sp:=fun b H Q _=>V0 K b H Q
theorem zcN:zD ["job","pick","luck","tries","events","part","found","step","feeder"] ["job","pick","luck","tries","events"] (zr (topL 23)):=u5
theorem zeJ{f:Addr}{fd:FuncData}(F:Fun K "pick_events" "pick_events" (topL 23) f fd)(B:Blt C)(N:Dfn P w K C u "is_lost" 4 ["job","part","events"] (Ye K))(G:Dfn P w K C u "next_feeder" 2 ["job","pick","events"] (zhJ K))(L:Dfn P w K C u "is_lucky" 2 ["luck","events"] (zcx K)):FnOk P w K C u CX0 5 f fd ["job","pick","luck","tries","events"] (zcu K):=by
 have nd:=zcN.nd;refine F.ok zcN (fun vs H Q E h=>?_) (fun ao A am s H vs Q E hr h=>?_)
 ·obtain⟨jp,pk,lk,l,J,p,own,pa,bs,n,es,rfl,_⟩:=h
  rfl
 ·obtain⟨jp,pk,lk,l,J,p,own,pa,bs,n,es,rfl,rj,js,hp,ep,hk,ap,hl,le,k⟩:=h
  have an:=bG1000000;have ac:=bGe;have pl:=(zL.mp ep).1;refine⟨_,(zf (zG (i:=5) nd rfl (Or.inl rfl) (zx zI (pv 1) ze (fun _ _=>rfl)))
   (zf (jq (xx (zi N hr.m rfl (za (pv 0) (za (pv 5) (za (pv 4) zd)))))
   (zk (zC (zV (za (qB (za jz (za (pv 5) zd))) zd))))
   qy)
   (zf (zG (i:=6) nd rfl (Or.inl rfl) (zV zd))
   (zf (qS jr rfl (qN rfl B.range (za (pv 3) zd)) (zA (i:=7) nd rfl (Or.inl rfl))
   (zf (zG (i:=8) nd rfl (Or.inl rfl) (zi G hr.m rfl (za (pv 0) (za (pv 1) (za (zH jQ (pv 4) (pv 6)) zd)))))
    (zf (jq (zF zc8 (pv 8) yE (zS _))
    (zk (zC (zH jQ (pv 6) (zV (za (qB (za jz (za (pv 5) zd))) zd)))))
    qy)
    (zf (jq (xx (zi L hr.m rfl (za (pv 2) (za (zH jQ (pv 4) (pv 6)) zd))))
    (zk (zC (zH jQ (pv 6) (zV (za (qB (za jz (za (pv 5) (za (pv 8) zd)))) zd)))))
    qy)
    (zk (qK (jO jV xG xF qF (pv 6) (za (qB (za jz (za (pv 5) (za (pv 8) zd)))) zd))))))))
   (zk (zC (zH jQ (pv 6) (zV (za (qB (za jz (za (pv 5) zd))) zd))))))))),?_⟩
  refine⟨_,rfl,pk,_,_,_,rfl,rfl,hp,rfl,?_⟩
  refine⟨_,rfl,_,rfl,_,rfl,jp,l,J,p,es,rfl,rj,js,pl,hl,by omega,fun b H1 s1 hb=>⟨_,rfl,?_⟩⟩
  obtain⟨O,af,a0⟩:=hl;have ae:=a0.len;rw[zp] at ae;cases b with
  | true=>
   refine ifT rfl ?_
   refine⟨_,rfl,le2,fun T I=>⟨le1,fun q hq=>?_⟩⟩
   have s2:=(zc (o:=.tup [.str "behind",.int (p:Int)]) I).trans (zc (o:=.lst [.ref T]) hq);have he:Rep K (upd (upd H1 T (.tup [.str "behind",.int (p:Int)])) q (.lst [.ref T])) (evD (.behind p)) (.ref T):=⟨T,_,rfl,u8 ((zc hq) _ _ zb),_,_,rfl,rfl,_,_,rfl,rfl,rfl⟩;refine k q [.behind p] _ (s1.free ((zc I).free hq)) (s1.trans s2) ⟨_,zb,_,_,rfl,he,rfl⟩ (by show 1<=_;omega) (.inl ⟨hb.mp rfl,rfl⟩)
  | false=>
   refine ifF rfl ?_
   have nl:¬Y9 J p es:=fun z=>by have:=hb.mpr z;cases this
   refine⟨le0,fun fo ag=>?_⟩
   have al:H fo=none:=s1.free ag;refine⟨_,rfl,_,rfl,(by rw[ac];omega),(by rw[ac];omega),?_⟩
   rw[xu];refine ju (fun i σ H'=>Ex4 fun(D:List Ev) (M:List V) (v7 v8:Option V)=>An6 (σ=[some (.ref jp),some (.ref pk),some (.ref lk),some (.int (n:Int)),some (.ref l),some (.int (p:Int)),some (.ref fo),v7,v8]) (Same H H') (H' fo=some (.lst M)) (Reps K H' (D.map evD) M) (D.length<=i) (∀r,TryR J pa p own bs es (n-i) D r->TryR J pa p own bs es n [] r)) ⟨[],[],_,_,rfl,s1.trans (zc ag),zb,rfl,zQ _,fun r h=>h⟩ ?_ ?_
   ·rintro i σ H2 hi ⟨D,M,v7,v8,rfl,s2,F2,R2,fl,tr⟩
    have xl:=R2.len;rw[zp] at xl;obtain⟨m,em⟩:∃m,n-i=m+1:=⟨n-i-1,by omega⟩
    have aj:n-(i+1)=m:=by omega
    rw[em] at tr;rw[aj];refine⟨_,rfl,_,rfl,_,rfl,_,rfl,l,fo,_,_,rfl,rfl,s2 _ _ af,F2,by omega,fun c hc=>?_⟩
    have s3:=zc (H:=H2) (o:=.lst (O++M)) hc;have C3:Evs K (upd H2 c (.lst (O++M))) c (es++D):=⟨_,zb,by rw[zM];exact uc (a0.same (s2.trans s3)) (R2.same s3)⟩
    generalize upd H2 c (.lst (O++M))=H3 at s3 C3;have aa:=s2.trans s3;refine⟨jp,pk,c,J,p,own,pa,es++D,rfl,rj.same aa,js,aa.sqT hp,ep,C3,by rw[zW];omega,fun v H4 s4 nf=>?_⟩
    have U:=aa.trans s4;have F4:=s4 _ _ (s3 _ _ F2);have R4:=R2.same (s3.trans s4);refine⟨_,rfl,rfl,_,rfl,jX (fun c1=>?_) (fun c1=>?_)⟩
    ·have ev:v=.non:=qQ c1
     subst ev;refine⟨_,rfl,_,rfl,le2,fun T I=>⟨le1,fun l1 h1=>⟨fo,l1,_,_,rfl,rfl,(zc h1) _ _ ((zc I) _ _ F4),zb,by show _+1<=_;omega,fun q hq=>?_⟩⟩⟩
     have Y:=(zc (o:=.tup [.str "none",.int (p:Int)]) I).trans ((zc (o:=.lst [.ref T]) h1).trans (zc (o:=.lst (M++[.ref T])) hq));exact k q (D++[.none p]) _ (U.free ((zc I).free ((zc h1).free hq))) (U.trans Y) (XX (e:=.none p) (ys:=[.str "none",.int (p:Int)]) R4 ⟨_,_,rfl,rfl,_,_,rfl,rfl,rfl⟩ I h1 hq) (by rw[zW];show _+1<=_;omega) (.inr ⟨nl,tr _ (.none m D nf)⟩)
    obtain⟨g,rfl⟩:∃g:Nat,v=.int (g:Int):=by
     cases nf with
     | own h=>exact⟨_,rfl⟩
     | non h=>exact absurd (qk rfl) c1
     | least f a b d=>exact⟨_,rfl⟩
    refine⟨_,rfl,_,rfl,_,rfl,l,fo,_,_,rfl,rfl,U _ _ af,F4,by omega,fun c2 ak=>?_⟩
    have Y:=zc (H:=H4) (o:=.lst (O++M)) ak;have C5:Evs K (upd H4 c2 (.lst (O++M))) c2 (es++D):=⟨_,zb,by rw[zM];exact uc (a0.same (U.trans Y)) (R4.same Y)⟩
    generalize upd H4 c2 (.lst (O++M))=H5 at Y C5;have ah:=U.trans Y;refine⟨lk,c2,bs,es++D,rfl,ah.seq hk,C5,by rw[zW];omega,fun H6 s6=>⟨_,rfl,?_⟩⟩
    have ab:=ah.trans s6;have F6:=s6 _ _ (Y _ _ F4);have R6:=R4.same (Y.trans s6);refine jX (fun c3=>?_) (fun c3=>?_)
    ·refine⟨_,rfl,_,rfl,_,rfl,le3,fun T I=>⟨le1,fun l1 h1=>⟨fo,l1,_,_,rfl,rfl,(zc h1) _ _ ((zc I) _ _ F6),zb,by show _+1<=_;omega,fun q hq=>?_⟩⟩⟩
     have s7:=(zc (o:=.tup [.str "picked",.int (p:Int),.int (g:Int)]) I).trans ((zc (o:=.lst [.ref T]) h1).trans (zc (o:=.lst (M++[.ref T])) hq));exact k q (D++[.picked p g]) _ (ab.free ((zc I).free ((zc h1).free hq))) (ab.trans s7) (XX (e:=.picked p g) (ys:=[.str "picked",.int (p:Int),.int (g:Int)]) R6 ⟨_,_,rfl,rfl,_,_,rfl,rfl,_,_,rfl,rfl,rfl⟩ I h1 hq) (by rw[zW];show _+1<=_;omega) (.inr ⟨nl,tr _ (.luck m D g nf c3)⟩)
    ·refine⟨_,rfl,.inl ⟨rfl,_,u7 F6⟩,_,rfl,_,rfl,le3,fun T I=>⟨fo,_,_,rfl,rfl,(zc I) _ _ F6,by omega,?_⟩⟩
     have s7:=zc (H:=H6) (o:=.tup [.str "missed",.int (p:Int),.int (g:Int)]) I;have F7:=s7 _ _ F6;have he:Rep K (upd H6 T (.tup [.str "missed",.int (p:Int),.int (g:Int)])) (evD (.missed p g)) (.ref T):=⟨T,_,rfl,u8 zb,_,_,rfl,rfl,_,_,rfl,rfl,_,_,rfl,rfl,rfl⟩;have R7:Reps K (upd H6 T (.tup [.str "missed",.int (p:Int),.int (g:Int)])) ((D++[Ev.missed p g]).map evD) (M++[.ref T]):=by rw[zM];exact ub he (R6.same s7)
     have ai:=ab.trans s7;generalize upd H6 T (.tup [.str "missed",.int (p:Int),.int (g:Int)])=H7 at ai F7 R7;refine⟨D++[.missed p g],M++[.ref T],_,_,rfl,fun c0 u0 e0=>?_,zb,R7.keep (ud F7) (x8 _),by rw[zW];show _+1<=_;omega,fun r h=>tr r (.miss m D g r nf ((Jj _).mp c3) h)⟩
     rw[zj (zg e0 al)];exact ai c0 u0 e0
   ·rintro σ H2 ⟨D,M,v7,v8,rfl,s2,F2,R2,fl,tr⟩
    have xl:=R2.len;rw[zp] at xl;rw[wY] at tr;refine⟨_,rfl,_,rfl,le2,fun T I=>⟨le1,fun l1 h1=>⟨fo,l1,_,_,rfl,rfl,(zc h1) _ _ ((zc I) _ _ F2),zb,by show _+1<=_;omega,fun q hq=>?_⟩⟩⟩
    have Y:=(zc (o:=.tup [.str "failed",.int (p:Int)]) I).trans ((zc (o:=.lst [.ref T]) h1).trans (zc (o:=.lst (M++[.ref T])) hq));exact k q (D++[.failed p]) _ (s2.free ((zc I).free ((zc h1).free hq))) (s2.trans Y) (XX (e:=.failed p) (ys:=[.str "failed",.int (p:Int)]) R2 ⟨_,_,rfl,rfl,_,_,rfl,rfl,rfl⟩ I h1 hq) (by rw[zW];show _+1<=_;omega) (.inr ⟨nl,tr _ (.fin D)⟩)
def ziH(J:Job)(b:xb)(p:Nat)(c:List Ev)(e:Ev):Prop:=(Y9 J p c/\e=.dropped p)\/(¬Y9 J p c/\e=.laid p b.k b.x b.y)
theorem Yn{H:Hp}{p:xb}{x:V}(h:Rep K H (xE p) x):∃a c,x=.ref a/\SqT K H a [.str p.k,.ref c]/\Rep K H (.tup [.int p.x,.int p.y]) (.ref c):=by
 obtain⟨a,I,rfl,q,D,G,b,l,J,B,g,m,i⟩:=h;subst b g;cases(show B=[] from i)
 cases(show D=_ from l)
 obtain⟨c,E,rfl,A,s⟩:=m;exact⟨a,c,rfl,q,c,E,rfl,A,s⟩
theorem zev{H:Hp}{J:Job}{b:List V}{p:Nat}{i:xb}(A:Reps K H (J.ps.map xE) b)(m:J.ps[p]? =some i):∃a c,b[p]? =some (.ref a)/\SqT K H a [.str i.k,.ref c]/\Rep K H (.tup [.int i.x,.int i.y]) (.ref c):=by
 have s:=A.len;rw[zp] at s;obtain⟨G,g⟩:∃x,b[p]? =some x:=⟨_,qR (by rw[s];exact(zL.mp m).1)⟩
 obtain⟨d,l,E⟩:=A.get g;rw[zU,m] at l;cases l;obtain⟨a,c,rfl,B,D⟩:=Yn E;exact⟨a,c,g,B,D⟩
inductive zat(K:W.Frag)(m:List V)(H:Hp)(Q:VK):Prop
 | mk (g l:Addr) (J:Job) (p:Nat) (i:xb) (c:List Ev) (_:m=[.ref g,.int (p:Int),.ref l]) (_:Rep K H (vE J) (.ref g)) (_:JSm J) (_:J.ps[p]? =some i) (_:Evs K H l c) (_:c.length<=100000) (_:∀(T:Addr) (e:Ev) b,Same H b->Rep K b (evD e) (.ref T)->ziH J i p c e->Q (.ref T) b):zat K m H Q
def zfv(K:W.Frag):Sp:=fun b H Q _=>zat K b H Q
theorem zfG:zD ["job","part","events","kind","place"] ["job","part","events"] (zr (topL 24)):=u5
theorem zgQ{f:Addr}{U:FuncData}(F:Fun K "lay_event" "lay_event" (topL 24) f U)(B:Blt C)(m:Dfn P w K C u "is_lost" 4 ["job","part","events"] (Ye K)):FnOk P w K C u CX0 5 f U ["job","part","events"] (zfv K):=by
 have Y:=zfG.nd;refine F.ok zfG (fun vs H Q E h=>?_) (fun a0 A N s H vs Q E hr h=>?_)
 ·obtain⟨M,l,J,p,G,I,rfl,_⟩:=h
  rfl
 ·obtain⟨M,l,J,p,G,I,rfl,rj,js,O,hl,le,k⟩:=h
  obtain⟨g,fs,ps,as,fv,aa,qj,_,qf,rf,qp,rp,_⟩:=xo rj;obtain⟨a,c,L,qa,rc⟩:=zev rp O;refine⟨_,(zf (jq (xx (zi m hr.m rfl (za (pv 0) (za (pv 1) (za (pv 2) zd)))))
   (zk (zC (qB (za jz (za (pv 1) zd)))))
   qy)
   (zf (xc (zx zI (zx zI (pv 0) ze (fun _ _=>rfl)) (pv 1) (fun _ _=>rfl)) (jN rfl (zK (zA (i:=3) Y rfl (Or.inl rfl)) (zK (zA (i:=4) Y rfl (Or.inl rfl)) jv))))
   (zk (zC (qB (za jz (za (pv 1) (za (pv 3) (za (pv 4) zd))))))))),?_⟩
  refine⟨_,rfl,_,rfl,_,rfl,M,l,J,p,I,rfl,rj,js,(zL.mp O).1,hl,le,fun b H1 s1 hb=>⟨_,rfl,?_⟩⟩
  cases b with
  | true=>
   refine ifT rfl ⟨_,rfl,le2,fun T D=>?_⟩
   exact k T (.dropped p) _ (s1.trans (zc D)) ⟨T,_,rfl,u8 zb,_,_,rfl,rfl,_,_,rfl,rfl,rfl⟩ (.inl ⟨hb.mp rfl,rfl⟩)
  | false=>
   refine ifF rfl ?_
   have nl:¬Y9 J p I:=fun z=>by have:=hb.mpr z;cases this
   refine⟨_,rfl,M,_,_,_,rfl,rfl,s1.sqT qj,rfl,_,rfl,ps,_,_,.ref a,rfl,rfl,s1.sqT qp,zY L,a,_,rfl,s1.sqT qa,rfl,_,_,rfl,_,_,rfl,rfl,?_⟩
   refine⟨_,rfl,_,rfl,_,rfl,le4,fun T D=>?_⟩
   exact k T (.laid p G.k G.x G.y) _ (s1.trans (zc D)) ⟨T,_,rfl,u8 zb,_,_,rfl,rfl,_,_,rfl,rfl,_,_,rfl,rfl,_,_,rfl,rc.same (s1.trans (zc D)),rfl⟩ (.inr ⟨nl,rfl⟩)
def zhZ(c:List (Nat×Nat))(b:List Nat):Dat:=.tup [.tup (c.map xZ),.tup (b.map fun n:Nat=>Dat.int (n:Int))]
inductive PksR(J:Job)(i:List Bool)(n:Nat)(l:List Ev):List (Nat×Nat)->List Ev->Prop
 | nil:PksR J i n l [] []
 | snoc (c:List (Nat×Nat)) (b:List Ev) (p own:Nat) (m:xb) (r:List Ev) (h:PksR J i n l c b) (e:J.ps[p]? =some m) (g:PickR J m p own i n (l++b) r):PksR J i n l (c++[(p,own)]) (b++r)
inductive LysR(J:Job)(m:List Ev)(i:List Ev):List Nat->List Ev->Prop
 | nil (b:List Ev) (h:b=i):LysR J m i [] b
 | skip (c:List Nat) (b:List Ev) (p:Nat) (h:LysR J m i c b) (g:(zt ["picked"] i).any (fun e=>((e.p:Int)==(p:Int)))=false):LysR J m i (c++[p]) b
 | lay (c:List Nat) (b:List Ev) (p:Nat) (s:xb) (e:Ev) (h:LysR J m i c b) (g:(zt ["picked"] i).any (fun e=>((e.p:Int)==(p:Int)))=true) (A:J.ps[p]? =some s) (l:ziH J s p (m++b) e):LysR J m i (c++[p]) (b++[e])
def TripR(J:Job)(l:List Bool)(n:Nat)(i:List Ev)(g:List (Nat×Nat))(c:List Nat)(r:List Ev):Prop:=∃b,PksR J l n i g b/\LysR J i b c r
inductive zak(K:W.Frag)(D:List V)(H:Hp)(Q:VK):Prop
 | mk (s B A l:Addr) (J:Job) (c:List (Nat×Nat)) (b:List Nat) (m:List Bool) (n:Nat) (i:List Ev) (_:D=[.ref s,.ref B,.ref A,.int (n:Int),.ref l]) (_:Rep K H (vE J) (.ref s)) (_:JSm J) (_:Rep K H (zhZ c b) (.ref B)) (_:(∀q∈c,q.1<J.ps.length)) (_:(∀q∈b,q<J.ps.length)) (_:c.length<=60) (_:b.length<=60) (_:SqL K H A (m.map V.bl)) (_:n<=10) (_:Evs K H l i) (_:i.length<=5000) (_:∀(q:Addr) (r:List Ev) g,H q=none->Same H g->Evs K g q r->r.length<=11*c.length+b.length->TripR J m n i c b r->Q (.ref q) g):zak K D H Q
def zfr(K:W.Frag):Sp:=fun b H Q _=>zak K b H Q
theorem zfB:zD ["job","trip","luck","tries","events","picks","lays","found","pick","picked","part"] ["job","trip","luck","tries","events"] (zr (topL 25)):=u5
theorem zgL{f:Addr}{fd:FuncData}(F:Fun K "trip_events" "trip_events" (topL 25) f fd)(B:Blt C)(D:Dfn P w K C u "pick_events" 5 ["job","pick","luck","tries","events"] (zcu K))(I:Dfn P w K C u "parts_of" 2 ["events","words"] (zam K))(G:Dfn P w K C u "lay_event" 5 ["job","part","events"] (zfv K)):FnOk P w K C u CX0 6 f fd ["job","trip","luck","tries","events"] (zfr K):=by
 have nd:=zfB.nd;refine F.ok zfB (fun vs H Q E h=>?_) (fun bc A aw s H vs Q E hr h=>?_)
 ·obtain⟨jp,tp,lk,l,J,ac,al,bs,n,es,rfl,_⟩:=h
  rfl
 ·obtain⟨jp,tp,lk,l,J,ac,al,bs,n,es,rfl,rj,js,rt,ay,aq,be,bd,hk,au,hl,le,k⟩:=h
  have bb:=bG1000000;obtain⟨M,ai,aa⟩:=hl;have ah:=aa.len;rw[zp] at ah;obtain⟨t0,bf,e0,qt,x0,r0,rfl,⟨pt,az,rfl,qp,an⟩,x1,r1,rfl,⟨lt,as,rfl,ql,am⟩,e1⟩:=rt;cases e0;cases(show r1=[] from e1)
  have ae:=an.len;rw[zp] at ae;have ab:=am.len;rw[zp] at ab;refine⟨_,(zf (xc (pv 1) (jN rfl (zK (zA (i:=5) nd rfl (Or.inl rfl)) (zK (zA (i:=6) nd rfl (Or.inl rfl)) jv))))
   (zf (zG (i:=7) nd rfl (Or.inl rfl) (zV zd))
   (zf (qS jr rfl (vB (pv 5)) (zA (i:=8) nd rfl (Or.inl rfl))
   (zk (qK (jO jV PySem.F.slot_list_extend PySem.F.type_list_extend J9 (pv 7) (za (zi D hr.m rfl (pa5 (pv 0) (pv 8) (pv 2) (pv 3) (zH jQ (pv 4) (pv 7)))) zd)))))
   (zf (zG (i:=9) nd rfl (Or.inl rfl) (zi I hr.m rfl (za (pv 7) (za (qB (za jz zd)) zd))))
   (zf (qS jr rfl (vB (pv 6)) (zA (i:=10) nd rfl (Or.inl rfl))
   (zk (jq (zF jJ (pv 10) (pv 9) (by with_unfolding_all rfl))
    (zk (qK (jO jV xG xF qF (pv 7) (za (zi G hr.m rfl (za (pv 0) (za (pv 10) (za (zH jQ (pv 4) (pv 7)) zd)))) zd))))
    qy)))
   (zk (zC (pv 7)))))))),?_⟩
  refine⟨_,rfl,tp,_,rfl,qt,rfl,_,_,rfl,_,_,rfl,rfl,le0,fun N U=>?_⟩
  have s1:=zc (H:=H) (o:=.lst []) U;refine⟨_,rfl,pt,rfl,⟨_,s1.sqT qp⟩,Qi (K:=K) (a:=pt) (xs:=az) (fun i σ O=>Ex3 fun(b:List Ev) (m:List V) (v8:Option V)=>An6 (σ=[some (.ref jp),some (.ref tp),some (.ref lk),some (.int (n:Int)),some (.ref l),some (.ref pt),some (.ref lt),some (.ref N),v8,none,none]) (Same H O) (O N=some (.lst m)) (Reps K O (b.map evD) m) (b.length<=11*i) (PksR J bs n es (ac.take i) b)) ⟨[],[],_,rfl,s1,zb,rfl,zQ _,.nil⟩ (fun i σ O _ ⟨_,_,_,_,s',_,_,_,_⟩=>s'.sqT qp) ?_ ?_⟩
  ·rintro i x σ H2 hx ⟨b,m,v8,rfl,s2,F2,R2,fl,pr⟩
   have xl:=R2.len;rw[zp] at xl;have il:=(zL.mp hx).1;obtain⟨d,ed,rd⟩:=(an.same s2).get hx;rw[zU] at ed;obtain⟨⟨p,own⟩,aj,rfl⟩:=qr.mp ed;obtain⟨ax,ys,rfl,b0,y0,r0,rfl,g0,y1,r1,rfl,g1,g2⟩:=rd;cases(show r1=[] from g2)
   cases(show y0=_ from g0)
   cases(show y1=_ from g1)
   have hp:=ay _ (je aj);have ep:J.ps[p]? =some J.ps[p]:=qR hp;generalize J.ps[p]=pa at ep;refine⟨_,rfl,.inl ⟨rfl,_,u7 F2⟩,_,rfl,_,rfl,_,rfl,_,rfl,_,rfl,_,rfl,l,N,_,_,rfl,rfl,s2 _ _ ai,F2,by omega,fun c hc=>?_⟩
   have L:=zc (H:=H2) (o:=.lst (M++m)) hc;have C3:Evs K (upd H2 c (.lst (M++m))) c (es++b):=⟨_,zb,by rw[zM];exact uc (aa.same (s2.trans L)) (R2.same L)⟩
   generalize upd H2 c (.lst (M++m))=H3 at L C3;have af:=s2.trans L;refine⟨jp,ax,lk,c,J,p,own,pa,bs,n,es++b,rfl,rj.same af,js,L.sqT b0,ep,af.seq hk,au,C3,by rw[zW];omega,fun q r H4 hq s4 ⟨zs,hz,rz⟩ rl pk=>?_⟩
   have zl:=rz.len;rw[zp] at zl;have F4:=s4 _ _ (L _ _ F2);have R4:Reps K H4 ((b++r).map evD) (m++zs):=by rw[zM];exact uc (R2.same (L.trans s4)) rz
   have Y:=af.trans s4;refine⟨N,q,_,_,rfl,rfl,F4,hz,by omega,b++r,m++zs,_,rfl,fun c0 u0 e0=>?_,zb,R4.keep (ud F4) (x8 _),by rw[zW];omega,?_⟩
   ·rw[zj (zg e0 U)];exact Y c0 u0 e0
   ·rw[qq aj]
    exact .snoc _ b p own pa r pr ep pk
  rintro σ H2 ⟨b,m,v8,rfl,s2,F2,R2,fl,pr⟩;rw[ae,qY] at pr;rw[ae] at fl;refine⟨_,rfl,le1,fun wt ap=>?_⟩
  have L:=zc (H:=H2) (o:=.tup [.str "picked"]) ap;have W3:=zb (H:=H2) (a:=wt) (o:=.tup [.str "picked"]);generalize upd H2 wt (.tup [.str "picked"])=H3 at L W3;refine⟨N,wt,b,["picked"],rfl,⟨m,L _ _ F2,R2.same L⟩,u8 W3,by omega,fun pd H4 ak s4 P4=>?_⟩
  have Y:=s2.trans (L.trans s4);have F4:=s4 _ _ (L _ _ F2);have R4:=R2.same (L.trans s4);have av:N≠pd:=fun z=>by rw[<- z,L _ _ F2] at ak;cases ak
  refine⟨_,rfl,lt,rfl,⟨_,Y.sqT ql⟩,Qi (K:=K) (a:=lt) (xs:=as) (fun i σ O=>Ex3 fun(g:List Ev) (m:List V) (ag:Option V)=>An7 (σ=[some (.ref jp),some (.ref tp),some (.ref lk),some (.int (n:Int)),some (.ref l),some (.ref pt),some (.ref lt),some (.ref N),v8,some (.ref pd),ag]) (Same H O) (O N=some (.lst m)) (Reps K O (g.map evD) m) (g.length<=11*ac.length+i) (O pd=some (.lst ((zt ["picked"] b).map fun e=>V.int (e.p:Int)))) (LysR J es b (al.take i) g)) ⟨b,m,_,rfl,Y,F4,R4,by omega,P4,.nil _ rfl⟩ (fun i σ O _ ⟨_,_,_,_,s',_,_,_,_,_⟩=>s'.sqT ql) ?_ ?_⟩
  ·rintro i x σ H5 hx ⟨g,m,ag,rfl,s5,F5,R5,ol,P5,lr⟩
   have xl:=R5.len;rw[zp] at xl;have il:=(zL.mp hx).1;obtain⟨d,ed,rd⟩:=(am.same s5).get hx;rw[zU] at ed;obtain⟨p,a0,rfl⟩:=qr.mp ed;cases(show x=_ from rd)
   have hp:=aq _ (je a0);have ep:J.ps[p]? =some J.ps[p]:=qR hp;generalize J.ps[p]=pa at ep;refine⟨_,rfl,_,rfl,pd,_,rfl,.inl (u7 P5),rfl,WG _,_,rfl,?_⟩
   rw[zdu];refine jX (fun c1=>?_) (fun c1=>?_)
   ·refine⟨_,rfl,.inl ⟨rfl,_,u7 F5⟩,_,rfl,_,rfl,_,rfl,_,rfl,l,N,_,_,rfl,rfl,s5 _ _ ai,F5,by omega,fun c hc=>?_⟩
    have s6:=zc (H:=H5) (o:=.lst (M++m)) hc;have C6:Evs K (upd H5 c (.lst (M++m))) c (es++g):=⟨_,zb,by rw[zM];exact uc (aa.same (s5.trans s6)) (R5.same s6)⟩
    generalize upd H5 c (.lst (M++m))=H6 at s6 C6;have ao:=s5.trans s6;refine⟨jp,c,J,p,pa,es++g,rfl,rj.same ao,js,ep,C6,by rw[zW];omega,fun T e H7 s7 re ar=>?_⟩
    have F7:=s7 _ _ (s6 _ _ F5);have P7:=s7 _ _ (s6 _ _ P5);have R7:Reps K H7 ((g++[e]).map evD) (m++[.ref T]):=by rw[zM];exact ub re (R5.same (s6.trans s7))
    have ba:=ao.trans s7;refine⟨N,_,_,rfl,rfl,F7,by omega,g++[e],m++[.ref T],_,rfl,fun c0 u0 e0=>?_,zb,R7.keep (ud F7) (x8 _),by rw[zW];show _+1<=_;omega,by rw[zj (qz av)];exact P7,?_⟩
    ·rw[zj (zg e0 U)];exact ba c0 u0 e0
    ·rw[qq a0]
     exact .lay _ g p pa e lr c1 ep ar
   ·refine⟨g,m,_,rfl,s5,F5,R5,by omega,P5,?_⟩
    rw[qq a0];exact .skip _ g p lr ((Jj _).mp c1)
  ·rintro σ H5 ⟨g,m,ag,rfl,s5,F5,R5,ol,_,lr⟩
   rw[ab,qY] at lr;rw[ab] at ol;exact⟨_,rfl,k N g H5 U s5 ⟨m,F5,R5⟩ ol ⟨b,pr,lr⟩⟩
def Ev.xy:Ev->Int×Int
 | .laid _ _ x y=>(x,y)
 | _=>(0,0)
structure vt(J:Job)(e:Ev):Prop where
 tr:e.w∈zw->e.f<J.fs.length
 ly:inB e.xy
structure JIn(J:Job):Prop where
 g:inB (J.gx,J.gy)
 f:∀f∈J.fs,inB (f.x,f.y)
 p:∀p∈J.ps,inB (p.x,p.y)
def Z8(J:Job)(i:Nat):Int×Int:=((J.fs[i]?.map xC.x).getD 0,(J.fs[i]?.map xC.y).getD 0)
def Qu(J:Job)(b:List Ev):List (Int×Int):=(([(J.gx,J.gy)]++(zt zw b).map fun e=>Z8 J e.f)++(zt ["laid"] b).map Ev.xy)++[(J.gx,J.gy)]
theorem zg5{b:List Ev}{e:Ev}(h:e∈zt ["laid"] b):∃k,e.r=[.str k,plD e.xy]:=by
 have:=qQ (ji.mp h).2;cases e with
 | laid p k x y=>exact⟨k,rfl⟩
 | picked p f=>exact absurd (show("picked":Str)∈(["laid"]:List Str) from this) (by decide)
 | missed p f=>exact absurd (show("missed":Str)∈(["laid"]:List Str) from this) (by decide)
 | behind p=>exact absurd (show("behind":Str)∈(["laid"]:List Str) from this) (by decide)
 | none p=>exact absurd (show("none":Str)∈(["laid"]:List Str) from this) (by decide)
 | failed p=>exact absurd (show("failed":Str)∈(["laid"]:List Str) from this) (by decide)
 | dropped p=>exact absurd (show("dropped":Str)∈(["laid"]:List Str) from this) (by decide)
theorem za5{J:Job}(j:JIn J){i:Nat}(h:i<J.fs.length):inB (Z8 J i):=by
 unfold Z8;rw[qR h];exact j.f _ (vY _)
theorem zaJ{J:Job}{c:List Ev}(j:JIn J)(h:∀e∈c,vt J e):∀p∈Qu J c,inB p:=fun p hp=>by
 rcases zP.mp hp with hp | hp
 ·rcases zP.mp hp with hp | hp
  ·rcases zP.mp hp with hp | hp
   ·rw[zR.mp hp];exact j.g
   ·obtain⟨e,b,rfl⟩:=qo.mp hp
    obtain⟨h1,h2⟩:=ji.mp b;exact za5 j ((h e h1).tr (qQ h2))
  ·obtain⟨e,b,rfl⟩:=qo.mp hp
   exact(h e (ji.mp b).1).ly
 ·rw[zR.mp hp];exact j.g
theorem za7{H:Hp}{J:Job}{g:List V}{i:Nat}(D:Reps K H (J.fs.map wz) g)(l:i<J.fs.length):∃a c k m,g[i]? =some (.ref a)/\SqT K H a [.str k,.ref c,.int m]/\Rep K H (plD (Z8 J i)) (.ref c):=by
 have B:=D.len;rw[zp] at B;obtain⟨I,b⟩:∃x,g[i]? =some x:=⟨_,qR (by rw[B];exact l)⟩
 obtain⟨d,A,G⟩:=D.get b;rw[zU,qR l] at A;cases A;obtain⟨a,c,rfl,E,s⟩:=xJ G;have s:Rep K _ (.tup [.int _,.int _]) (.ref c):=⟨c,_,rfl,s,_,_,rfl,rfl,_,_,rfl,rfl,rfl⟩;refine⟨a,c,_,_,b,E,?_⟩
 unfold Z8;rw[qR l];exact s
inductive VQ(K:W.Frag)(i:List V)(H:Hp)(Q:VK):Prop
 | mk (g l:Addr) (J:Job) (b:List Ev) (_:i=[.ref g,.ref l]) (_:Rep K H (vE J) (.ref g)) (_:JIn J) (_:Evs K H l b) (_:(∀e∈b,vt J e)) (_:b.length<=400) (_:∀c,Same H c->Q (.int (xh (Qu J b)).sum) c):VQ K i H Q
def zcq(K:W.Frag):Sp:=fun b H Q _=>VQ K b H Q
theorem zcG:zD ["job","events","feeders","places"] ["job","events"] (zr (topL 26)):=u5
theorem zeC{f tr:Addr}{fd:FuncData}(F:Fun K "way_by" "way_by" (topL 26) f fd)(B:Blt C)(I:C "TRIED" = some (.ref tr))(G:TxG K tr zw)(b:Dfn P w K C u "events_of" 1 ["events","words"] (JW K))(m:Dfn P w K C u "length_of" 2 ["places"] (zfu K)):FnOk P w K C u CX0 3 f fd ["job","events"] (zcq K):=by
 have nd:=zcG.nd;refine F.ok zcG (fun vs H Q E h=>?_) (fun ay A ap s H vs Q E hr h=>?_)
 ·obtain⟨jp,l,J,L,rfl,_⟩:=h
  rfl
 ·obtain⟨jp,l,J,L,rfl,rj,ao,hl,ok,le,k⟩:=h
  have ax:=bG1000000;obtain⟨g,fs,ps,as,fv,b0,qj,rg,qf,rf,qp,rp,_⟩:=xo rj;refine⟨_,(zf (XI ["job"] [0] rfl rfl (by kernel_rfl) (qD (zi b hr.m rfl (za (pv 1) (za (y3 (v:=.ref tr) rfl I rfl) zd)))) (fun _ _ _ _=>jk) (fun _ _ _ _=>(zx (jc (K:=K) rfl) (zx (jc (K:=K) rfl) (zx (jc (K:=K) rfl) (pv 1) ze (fun _ _=>rfl)) (zx (jc (K:=K) rfl) (pv 0) ze (fun _ _=>rfl)) (fun _ _=>rfl)) ze (fun _ _=>rfl))) (zA (i:=2) nd rfl (Or.inl rfl)))
   (zf (XI [] [] rfl rfl (by kernel_rfl) (qD (zi b hr.m rfl (za (pv 1) (za (qB (za jz zd)) zd)))) (fun _ _ _ _=>jk) (fun _ _ _ _=>(zx (jc (K:=K) rfl) (pv 0) ze (fun _ _=>rfl))) (zA (i:=3) nd rfl (Or.inl rfl)))
   (zk (zC (zi m hr.m rfl (za (zH jQ (zH jQ (zH jQ (zV (za (zx zI (pv 0) ze (fun _ _=>rfl)) zd)) (pv 2)) (pv 3)) (zV (za (zx zI (pv 0) ze (fun _ _=>rfl)) zd))) zd)))))),?_⟩
  refine⟨_,rfl,l,tr,L,zw,rfl,hl,G.all _,by omega,fun q H1 hq s1 ⟨xs,hx,rx⟩=>?_⟩
  have z2:(zt zw L).length<=L.length:=jt _ _;have xl:=rx.len;rw[zp] at xl;refine⟨q,rfl,⟨_,u7 hx⟩,jD (K:=K) (a:=q) (xs:=xs) (fun i c D=>Reps K D ((((zt zw L).take i).map fun e=>Z8 J e.f).map plD) c/\Same H1 D) ⟨rfl,u9 _⟩ (fun i c D ⟨_,s2⟩=>u7 (s2 _ _ hx)) ?_ ?_⟩
  ·rintro i x c D T ⟨U,s2⟩
   obtain⟨d,ed,rd⟩:=(rx.same s2).get T;rw[zU] at ed;obtain⟨e,O,rfl⟩:=qr.mp ed;obtain⟨a,r,rfl,qa,rr⟩:=xO rd;have hm:=je O;rw[Qb hm] at rr;obtain⟨x0,r0,rfl,e0,_⟩:=rr;cases(show x0=_ from e0)
   have il:=(zL.mp O).1;have zl:=U.len;rw[zp,zp,qP] at zl;have hf:=(ok e (ji.mp hm).1).tr (qQ (ji.mp hm).2);obtain⟨fa,fc,fk,fm,ef,aq,ar⟩:=za7 rf hf;have N:=s1.trans s2;refine⟨rfl,_,rfl,jp,_,_,_,rfl,rfl,N.sqT qj,rfl,_,rfl,a,_,_,_,rfl,rfl,qa,at2,fs,_,_,.ref fa,rfl,rfl,N.sqT qf,zY ef,fa,_,_,_,rfl,rfl,N.sqT aq,rfl,by omega,?_,s2⟩
   rw[qq O,zM,zM];exact ub (ar.same N) U
  rintro c D ⟨U,s2⟩;rw[xl,qY] at U;have zl:=U.len;rw[zp,zp] at zl;refine⟨by omega,fun fe a0=>?_⟩
  have s3:=(s1.trans s2).trans (zc (H:=D) (o:=.lst c) a0);have F3:=zb (H:=D) (a:=fe) (o:=.lst c);have ag:=U.same (zc (H:=D) (o:=.lst c) a0);generalize upd D fe (.lst c)=H3 at s3 F3 ag;clear U;refine⟨_,rfl,le1,fun wt an=>?_⟩
  have s4:=zc (H:=H3) (o:=.tup [.str "laid"]) an;have W4:=zb (H:=H3) (a:=wt) (o:=.tup [.str "laid"]);generalize upd H3 wt (.tup [.str "laid"])=H4 at s4 W4;refine⟨l,wt,L,["laid"],rfl,hl.same (s3.trans s4),u8 W4,by omega,fun q2 H5 az s5 ⟨aw,ab,af⟩=>?_⟩
  have y2:(zt ["laid"] L).length<=L.length:=jt _ _;have aj:=af.len;rw[zp] at aj;refine⟨q2,rfl,⟨_,u7 ab⟩,jD (K:=K) (a:=q2) (xs:=aw) (fun i c D=>Reps K D ((((zt ["laid"] L).take i).map Ev.xy).map plD) c/\Same H5 D) ⟨rfl,u9 _⟩ (fun i c D ⟨_,s2⟩=>u7 (s2 _ _ ab)) ?_ ?_⟩
  ·rintro i x M H6 T ⟨Y,s6⟩
   obtain⟨d,ed,rd⟩:=(af.same s6).get T;rw[zU] at ed;obtain⟨e,O,rfl⟩:=qr.mp ed;obtain⟨a,r,rfl,qa,rr⟩:=xO rd;obtain⟨lk,el⟩:=zg5 (je O);rw[el] at rr;obtain⟨x0,r0,rfl,e0,x1,r1,rfl,e1,_⟩:=rr;have il:=(zL.mp O).1;have ul:=Y.len;rw[zp,zp,qP] at ul;refine⟨rfl,_,rfl,a,_,_,x1,rfl,rfl,qa,(show atI (V.str e.w::V.int (e.p:Int)::x0::x1::r1) ((3:Nat):Int)=some x1 from zY rfl),by omega,?_,s6⟩
   rw[qq O,zM,zM];exact ub e1 Y
  rintro M H6 ⟨Y,s6⟩;rw[aj,qY] at Y;have ul:=Y.len;rw[zp,zp] at ul;refine⟨by omega,fun pl aa=>?_⟩
  have t6:=(s4.trans (s5.trans s6)).trans (zc (H:=H6) (o:=.lst M) aa);have P7:=zb (H:=H6) (a:=pl) (o:=.lst M);have ae:=Y.same (zc (H:=H6) (o:=.lst M) aa);generalize upd H6 pl (.lst M)=H7 at t6 P7 ae;have s7:=s3.trans t6;have F7:=t6 _ _ F3;have av:=ag.same t6;refine⟨_,rfl,jp,_,_,_,rfl,rfl,s7.sqT qj,rfl,le1,fun a1 h1=>⟨_,rfl,a1,fe,_,_,rfl,rfl,zb,(zc h1) _ _ F7,by show 1+_<=_;omega,fun c1 ak=>?_⟩⟩
  have s8:=(zc (H:=H7) (o:=.lst [.ref g]) h1).trans (zc (o:=.lst ([.ref g]++c)) ak);have C8:=zb (H:=upd H7 a1 (.lst [.ref g])) (a:=c1) (o:=.lst ([.ref g]++c));generalize upd (upd H7 a1 (.lst [.ref g])) c1 (.lst ([.ref g]++c))=H8 at s8 C8;refine⟨_,rfl,c1,pl,_,_,rfl,rfl,C8,s8 _ _ P7,by rw[zW];show 1+_+_<=_;omega,fun c2 al=>?_⟩
  have s9:=s8.trans (zc (H:=H8) (o:=.lst (([.ref g]++c)++M)) al);have C9:=zb (H:=H8) (a:=c2) (o:=.lst (([.ref g]++c)++M));generalize upd H8 c2 (.lst (([.ref g]++c)++M))=H9 at s9 C9;have ah:=s7.trans s9;refine⟨_,rfl,jp,_,_,_,rfl,rfl,ah.sqT qj,rfl,le1,fun a2 h2=>⟨c2,a2,_,_,rfl,rfl,(zc h2) _ _ C9,zb,by rw[zW,zW];show 1+_+_+1<=_;omega,fun c3 am=>?_⟩⟩
  have sA:=(zc (H:=H9) (o:=.lst [.ref g]) h2).trans (zc (o:=.lst ((([.ref g]++c)++M)++[.ref g])) am);have ai:=ah.trans sA;have au:=rg.same ai;have ac:Reps K (upd (upd H9 a2 (.lst [.ref g])) c3 (.lst ((([.ref g]++c)++M)++[.ref g]))) ([(J.gx,J.gy)].map plD) [.ref g]:=⟨_,_,rfl,au,rfl⟩;refine⟨c3,_,Qu J L,rfl,u7 zb,?_,zaJ ao ok,?_,fun H' s'=>k H' (ai.trans s')⟩
  ·unfold Qu
   rw[zM,zM,zM];exact uc (uc (uc ac (av.same (s9.trans sA))) (ae.same (s9.trans sA))) ac
  ·unfold Qu
   rw[zW,zW,zW,zp,zp];show 1+_+_+1<=_;omega
end
theorem zbY:inB ((0,0):Int×Int):=⟨by decide,by decide,by decide,by decide⟩
theorem Wc{J:Job}{c:xb}{b:List Ev}{f:Nat}(h:f∈wb J c b):f<J.fs.length:=x5.mp (ji.mp (ji.mp h).1).1
theorem QI{b:List Nat}{own f:Nat}(h:NF b own (.int (f:Int))):f∈b:=by
 generalize hv:V.int (f:Int)=v at h;cases h with
 | own h=>rw[show f=own by have:=V.int.inj hv;omega];exact h
 | non h=>cases hv
 | least g n h l=>rw[show f=g by have:=V.int.inj hv;omega];exact h
theorem yd{J:Job}{a b:List Ev}(h:∀e∈a,vt J e)(g:∀e∈b,vt J e):∀e∈a++b,vt J e:=fun e c=>(zP.mp c).elim (h e) (g e)
theorem Zr{J:Job}{x:Ev}(h:vt J x):∀e∈[x],vt J e:=fun e b=>by rw[zR.mp b];exact h
theorem zbM{J:Job}{p:Nat}:vt J (.behind p):=⟨fun h=>absurd (show("behind":Str)∈zw from h) (by decide),zbY⟩
theorem zeL{J:Job}{p:Nat}:vt J (.none p):=⟨fun h=>absurd (show("none":Str)∈zw from h) (by decide),zbY⟩
theorem zbL{J:Job}{p:Nat}:vt J (.failed p):=⟨fun h=>absurd (show("failed":Str)∈zw from h) (by decide),zbY⟩
theorem Yq{J:Job}{p:Nat}:vt J (.dropped p):=⟨fun h=>absurd (show("dropped":Str)∈zw from h) (by decide),zbY⟩
theorem TryR.ok{J:Job}{s:xb}{p own:Nat}{i:List Bool}{l:List Ev}{n:Nat}{b r:List Ev}(h:TryR J s p own i l n b r):(∀e∈b,vt J e)->∀e∈r,vt J e:=by
 induction h with
 | fin b=>exact fun c=>yd c (Zr zbL)
 | none n b h=>exact fun c=>yd c (Zr zeL)
 | luck n b f h g=>exact fun c=>yd c (Zr ⟨fun _=>Wc (QI h),zbY⟩)
 | miss n b f r h g t m=>exact fun c=>m (yd c (Zr ⟨fun _=>Wc (QI h),zbY⟩))
theorem PksR.ok{J:Job}{i:List Bool}{n:Nat}{l:List Ev}{b:List (Nat×Nat)}{r:List Ev}(h:PksR J i n l b r):∀e∈r,vt J e:=by
 induction h with
 | nil=>exact fun e c=>nomatch c
 | snoc b m p own u r h e g s=>
  refine yd s ?_
  rcases g with ⟨_,rfl⟩ | ⟨_,t⟩
  ·exact Zr zbM
  ·exact t.ok fun e c=>nomatch c
theorem LysR.ok{J:Job}(j:JIn J){u m:List Ev}{b:List Nat}{r:List Ev}(h:LysR J u m b r)(hp:∀e∈m,vt J e):∀e∈r,vt J e:=by
 induction h with
 | nil c h=>rw[h];exact hp
 | skip b c p h g i=>exact i
 | lay b c p w e h g s l i=>
  refine yd i (Zr ?_)
  rcases l with ⟨_,rfl⟩ | ⟨_,rfl⟩
  ·exact Yq
  ·exact⟨fun h=>absurd (show("laid":Str)∈zw from h) (by decide),j.p _ (je s)⟩
theorem TripR.ok{J:Job}(j:JIn J){i:List Bool}{n:Nat}{l:List Ev}{g:List (Nat×Nat)}{c:List Nat}{r:List Ev}(h:TripR J i n l g c r):∀e∈r,vt J e:=let ⟨_,a,b⟩:=h;b.ok j a.ok
inductive RunR(J:Job)(g:List Bool)(n:Nat):List (List (Nat×Nat)×List Nat)->List Ev->Int->Prop
 | nil:RunR J g n [] [] 0
 | snoc (l:List (List (Nat×Nat)×List Nat)) (i:List Ev) (w:Int) (c:List (Nat×Nat)) (b:List Nat) (r:List Ev) (h:RunR J g n l i w) (t:TripR J g n i c b r):RunR J g n (l++[(c,b)]) (i++r) (w+(xh (Qu J r)).sum)
def yi(b:List Bool)(s:Nat):Bool:=if b.length<=s then true else b.getD s false
def spent(b:List Ev):Nat:=(zt zw b).length
theorem y4(b:List Bool)(c:List Ev):Wz b c=yi b (spent c):=rfl
theorem zq(c:List Str)(a b:List Ev):zt c (a++b)=zt c a++zt c b:=xW ..
theorem jy(a b:List Ev):spent (a++b)=spent a+spent b:=by unfold spent;rw[zq,zW]
theorem JM{e:Ev}(h:e.w∈zw):spent [e]=1:=by
 show([e].filter fun e=>decide (e.w∈zw)).length=1
 rw[Xx (p:=fun e:Ev=>decide (e.w∈zw)) (qk h)];rfl
theorem zd7(p f:Nat):spent [.picked p f]=1:=JM (show("picked":Str)∈zw by decide)
theorem zad(p f:Nat):spent [.missed p f]=1:=JM (show("missed":Str)∈zw by decide)
theorem NF.uniq{i:List Nat}{own:Nat}{v m:V}(a:NF i own v)(b:NF i own m):v=m:=by
 cases a with
 | own h=>
  cases b with
  | own _=>rfl
  | non c=>rw[c] at h;cases h
  | least f n _ _=>exact absurd h n
 | non h=>
  cases b with
  | own c=>rw[h] at c;cases c
  | non _=>rfl
  | least f n c _=>rw[h] at c;cases c
 | least f n h l=>
  cases b with
  | own c=>exact absurd c n
  | non c=>rw[c] at h;cases h
  | least g _ c s=>
   have:=l g c;have:=s f h;rw[show f=g by omega]
theorem NF.f_uniq{g:List Nat}{own f c:Nat}(a:NF g own (.int (f:Int)))(b:NF g own (.int (c:Int))):f=c:=by
 have:=V.int.inj (a.uniq b);omega
section
variable{J:Job}{m:xb}{p own n:Nat}{i l:List Bool}{c:List Ev}
theorem TryR.pre{b r:List Ev}(h:TryR J m p own i c n b r):∃s,r=b++s:=by
 induction h with
 | fin b=>exact⟨_,rfl⟩
 | none n b h=>exact⟨_,rfl⟩
 | luck n b f h g=>exact⟨_,rfl⟩
 | miss n b f r h g t u=>
  obtain⟨s,e⟩:=u;exact⟨[.missed p f]++s,by rw[e,qx]⟩
theorem TryR.agree{b r:List Ev}(h:TryR J m p own i c n b r):(∀s,s<spent (c++r)->yi i s=yi l s)->TryR J m p own l c n b r:=by
 induction h with
 | fin b=>exact fun _=>.fin b
 | none n b h=>exact fun _=>.none n b h
 | luck n b f h g=>
  intro a;refine .luck n b f h ?_
  rw[y4,<- a _ (by rw[<- qx,jy _ [_],zd7];omega),<- y4]
  exact g
 | miss n b f r h g t u=>
  intro a;refine .miss n b f r h ?_ (u a)
  obtain⟨w,e⟩:=t.pre;rw[y4,<- a _ (by simp only[e,jy,zad];omega),<- y4]
  exact g
theorem TryR.uniq{b r B:List Ev}(h:TryR J m p own i c n b r)(u:TryR J m p own i c n b B):r=B:=by
 induction h with
 | fin b=>cases u;rfl
 | none n b h=>
  cases u with
  | none _ _ _=>rfl
  | luck _ _ f g _=>exact absurd (h.uniq g) (fun z=>nomatch z)
  | miss _ _ f _ g _ _=>exact absurd (h.uniq g) (fun z=>nomatch z)
 | luck n b f h g=>
  cases u with
  | none _ _ s=>exact absurd (s.uniq h) (fun z=>nomatch z)
  | luck _ _ w s _=>rw[h.f_uniq s]
  | miss _ _ w _ _ s _=>rw[g] at s;cases s
 | miss n b f r h g t A=>
  cases u with
  | none _ _ s=>exact absurd (s.uniq h) (fun z=>nomatch z)
  | luck _ _ w _ s=>rw[g] at s;cases s
  | miss _ _ w _ s _ C=>rw[h.f_uniq s] at A;exact A C
theorem PickR.agree{r:List Ev}(h:PickR J m p own i n c r)(a:∀s,s<spent (c++r)->yi i s=yi l s):PickR J m p own l n c r:=h.imp id fun ⟨x,y⟩=>⟨x,y.agree a⟩
theorem PickR.uniq{r s:List Ev}(h:PickR J m p own i n c r)(g:PickR J m p own i n c s):r=s:=by
 rcases h with ⟨a,rfl⟩ | ⟨a,t⟩
 ·rcases g with ⟨_,rfl⟩ | ⟨b,_⟩
  ·rfl
  ·exact absurd a b
 ·rcases g with ⟨b,_⟩ | ⟨_,u⟩
  ·exact absurd b a
  ·exact t.uniq u
end
section
variable{J:Job}{n:Nat}{m i:List Bool}{c:List Ev}
theorem PksR.agree{l:List (Nat×Nat)}{b:List Ev}(h:PksR J m n c l b):(∀s,s<spent (c++b)->yi m s=yi i s)->PksR J i n c l b:=by
 induction h with
 | nil=>exact fun _=>.nil
 | snoc l b p own w r h e g u=>
  intro a;refine .snoc l b p own w r (u fun s hs=>a s ?_) e (g.agree fun s hs=>a s (by rw[<- qx];exact hs))
  rw[<- qx,jy (c++b)];omega
theorem vK{α:Type}{a b:List α}{x y:α}(h:a++[x]=b++[y]):a=b/\x=y:=by
 have:=List.append_inj' h rfl;exact⟨this.1,by simpa using this.2⟩
theorem PksR.uniq{s l:List (Nat×Nat)}{u b:List Ev}(h:PksR J m n c s u)(B:PksR J m n c l b)(e:s=l):u=b:=by
 induction h generalizing l b with
 | nil=>
  cases B with
  | nil=>rfl
  | snoc s _ p own _ _ _ _ _=>exact absurd e.symm (by simp)
 | snoc s u p own M r h E g H=>
  cases B with
  | nil=>exact absurd e (by simp)
  | snoc D A L C I N h2 w G=>
   obtain⟨e1,e2⟩:=vK e;cases e2;cases H h2 e1;rw[E] at w;cases w;rw[g.uniq G]
theorem LysR.uniq{L:List Ev}{l D:List Nat}{r H:List Ev}(h:LysR J c L l r)(B:LysR J c L D H)(e:l=D):r=H:=by
 induction h generalizing D H with
 | nil u h=>
  cases B with
  | nil _ h2=>rw[h,h2]
  | skip l _ _ _ _=>exact absurd e.symm (by simp)
  | lay l _ _ _ _ _ _ _ _=>exact absurd e.symm (by simp)
 | skip l u p h g C=>
  cases B with
  | nil _ _=>exact absurd e (by simp)
  | skip E _ G h2 _=>
   obtain⟨e1,_⟩:=vK e;exact C h2 e1
  | lay E _ G _ _ _ w _ _=>
   obtain⟨_,rfl⟩:=vK e;rw[g] at w;cases w
 | lay l u p Q x h g M N C=>
  cases B with
  | nil _ _=>exact absurd e (by simp)
  | skip E _ G _ w=>
   obtain⟨_,rfl⟩:=vK e;rw[g] at w;cases w
  | lay E I G O T h2 _ s A=>
   obtain⟨e1,rfl⟩:=vK e;cases C h2 e1;rw[M] at s;cases s;rcases N with ⟨a,rfl⟩ | ⟨a,rfl⟩
   ·rcases A with ⟨_,rfl⟩ | ⟨b,_⟩
    ·rfl
    ·exact absurd a b
   ·rcases A with ⟨b,_⟩ | ⟨_,rfl⟩
    ·exact absurd b a
    ·rfl
theorem LysR.pre{w:List Ev}{l:List Nat}{r:List Ev}(h:LysR J c w l r):∃u,r=w++u:=by
 induction h with
 | nil b h=>exact⟨[],by rw[h,z7]⟩
 | skip l b p h g s=>exact s
 | lay l b p C x h g A B s=>
  obtain⟨u,e⟩:=s;exact⟨u++[x],by rw[e,qx]⟩
theorem TripR.agree{b:List (Nat×Nat)}{l:List Nat}{r:List Ev}(h:TripR J m n c b l r)(a:∀s,s<spent (c++r)->yi m s=yi i s):TripR J i n c b l r:=by
 obtain⟨g,h1,h2⟩:=h;obtain⟨u,e⟩:=h2.pre;exact⟨g,h1.agree fun s hs=>a s (by rw[e,<- qx,jy];omega),h2⟩
theorem TripR.uniq{b:List (Nat×Nat)}{l:List Nat}{r w:List Ev}(h:TripR J m n c b l r)(B:TripR J m n c b l w):r=w:=by
 obtain⟨A,h1,h2⟩:=h;obtain⟨u,g,s⟩:=B;cases h1.uniq g rfl;exact h2.uniq s rfl
end
section
variable{J:Job}{n:Nat}{b bs':List Bool}
theorem RunR.agree{g:List (List (Nat×Nat)×List Nat)}{c:List Ev}{w:Int}(h:RunR J b n g c w):(∀s,s<spent c->yi b s=yi bs' s)->RunR J bs' n g c w:=by
 induction h with
 | nil=>exact fun _=>.nil
 | snoc g c w i l r h t m=>exact fun a=>.snoc g c w i l r (m fun s hs=>a s (by rw[jy];omega)) (t.agree a)
theorem RunR.uniq{i g:List (List (Nat×Nat)×List Nat)}{m c:List Ev}{w s:Int}(h:RunR J b n i m w)(u:RunR J b n g c s)(e:i=g):m=c/\w=s:=by
 induction h generalizing g c s with
 | nil=>
  cases u with
  | nil=>exact⟨rfl,rfl⟩
  | snoc i _ _ _ _ _ _ _=>exact absurd e.symm (by simp)
 | snoc i m w D l r h t C=>
  cases u with
  | nil=>exact absurd e (by simp)
  | snoc G B L A H I h2 E=>
   obtain⟨e1,e2⟩:=vK e;cases e2;obtain⟨rfl,rfl⟩:=C h2 e1;cases t.uniq E;exact⟨rfl,rfl⟩
theorem RunR.same{i:List (List (Nat×Nat)×List Nat)}{g c:List Ev}{w l:Int}(h:RunR J b n i g w)(m:RunR J bs' n i c l)(a:∀s,s<spent g->yi b s=yi bs' s):g=c/\w=l:=(h.agree a).uniq m rfl
end
def WV(b:List (List (Nat×Nat)×List Nat)):List (Nat×Nat):=b.flatMap (·.1)
def X6(b:List (List (Nat×Nat)×List Nat)):List Nat:=b.flatMap (·.2)
theorem zcc(b:List (List (Nat×Nat)×List Nat))(t:List (Nat×Nat)×List Nat):WV (b++[t])=WV b++t.1:=by
 unfold WV;rw[ZW,Vh,Vf,z7]
theorem Zx(b:List (List (Nat×Nat)×List Nat))(t:List (Nat×Nat)×List Nat):X6 (b++[t])=X6 b++t.2:=by
 unfold X6;rw[ZW,Vh,Vf,z7]
theorem zdj{α:Type}[DecidableEq α]:∀{l m:List α},l.Nodup->(∀x∈l,x∈m)->l.length<=m.length
 | [],_,_,_=>qX _
 | a::l,m,i,h=>by
  obtain⟨c,g⟩:=ZF.mp i;have b:=h a qI;have:=zdj (l:=l) (m:=m.erase a) g fun x hx=>(List.mem_erase_of_ne (fun z=>c (by rw[<- z];exact hx))).mpr (h x (jA _ hx))
  rw[Y2 b] at this;have:=YZ b;rw[jU];omega
inductive PkX(p:Nat):Ev->Prop
 | behind:PkX p (.behind p)
 | none:PkX p (.none p)
 | failed:PkX p (.failed p)
 | picked (f:Nat):PkX p (.picked p f)
inductive PkN(p:Nat):Ev->Prop
 | behind:PkN p (.behind p)
 | none:PkN p (.none p)
 | failed:PkN p (.failed p)
section
variable{J:Job}{s:xb}{p own n:Nat}{i:List Bool}{m:List Ev}
theorem TryR.form{b r:List Ev}(h:TryR J s p own i m n b r):∃(c:List Nat) (x:Ev),r=b++c.map (.missed p)++[x]/\c.length<=n/\PkX p x:=by
 induction h with
 | fin b=>exact⟨[],_,by simp,qX _,.failed⟩
 | none n b h=>exact⟨[],_,by simp,qX _,.none⟩
 | luck n b f h g=>exact⟨[],_,by simp,qX _,.picked f⟩
 | miss n b f r h g t u=>
  obtain⟨c,x,e,l,k⟩:=u;exact⟨f::c,x,by rw[e];simp,by rw[jU];omega,k⟩
theorem PickR.form{r:List Ev}(h:PickR J s p own i n m r):∃(b:List Nat) (x:Ev),r=b.map (.missed p)++[x]/\b.length<=n/\PkX p x:=by
 rcases h with ⟨_,rfl⟩ | ⟨_,t⟩
 ·exact⟨[],_,rfl,qX _,.behind⟩
 ·obtain⟨b,x,e,l,k⟩:=t.form
  exact⟨b,x,by rw[e,vX],l,k⟩
theorem xI(b:List Str)(h:("missed":Str)∉b)(p:Nat):∀c:List Nat,zt b (c.map (.missed p))=[]
 | []=>rfl
 | f::c=>by
  show zt b ([.missed p f]++c.map (.missed p))=[];rw[zq,xI b h p c,z7];exact Q7 (p:=fun e:Ev=>decide (e.w∈b)) (fun z=>h (qQ z))
theorem vQ(b:List Str)(e:Ev):zt b [e]=if decide (e.w∈b)=true then [e] else []:=by
 unfold zt;rw[yp];rfl
theorem PkX.one{x:Ev}(h:PkX p x):(zt zB [x]).length+(zt ["picked"] [x]).length=1/\zt ["laid"] [x]=[]/\spent [x]<=1:=by
 cases h<;>exact⟨rfl,rfl,by first| exact zQ _ | exact qX _⟩
theorem VO(p:Nat):∀b:List Nat,spent (b.map (.missed p))=b.length
 | []=>rfl
 | f::b=>by
  show spent ([.missed p f]++b.map (.missed p))=_;rw[jy,zad,VO p b,jU];omega
theorem PickR.counts{r:List Ev}(h:PickR J s p own i n m r):(zt zB r).length+(zt ["picked"] r).length=1/\zt ["laid"] r=[]/\spent r<=n+1:=by
 obtain⟨g,x,rfl,l,k⟩:=h.form;obtain⟨a,b,c⟩:=k.one;rw[zq,zq,zq,xI _ (by decide),xI _ (by decide),xI _ (by decide),jy,VO]
 exact⟨a,b,by omega⟩
end
section
variable{J:Job}{n:Nat}{A:List Bool}{i:List Ev}
theorem PksR.counts{m:List (Nat×Nat)}{l:List Ev}(h:PksR J A n i m l):(zt zB l).length+(zt ["picked"] l).length=m.length/\zt ["laid"] l=[]/\spent l<=(n+1)*m.length:=by
 induction h with
 | nil=>exact⟨rfl,rfl,qX _⟩
 | snoc m l p own C r h e g u=>
  obtain⟨a,b,c⟩:=u;obtain⟨w,s,B⟩:=g.counts;rw[zq,zq,zq,zW,zW,zW,b,s,jy,Nat.mul_add];exact⟨by show _=m.length+1;omega,rfl,by show _<=_+(n+1)*1;omega⟩
theorem LysR.parts{C:List Ev}{l:List Nat}{r:List Ev}(h:LysR J i C l r):∃m:List Ev,r=C++m/\(m.map Ev.p).Sublist l/\(∀e∈m,∃x∈zt ["picked"] C,x.p=e.p)/\(zt zB m).length+(zt ["laid"] m).length=m.length/\spent m=0/\zt ["picked"] m=[]:=by
 induction h with
 | nil s h=>exact⟨[],by rw[h,z7],Vi _,(fun e G=>nomatch G),rfl,rfl,rfl⟩
 | skip l s p h g w=>
  obtain⟨m,a,b,c⟩:=w;exact⟨m,a,b.trans (List.sublist_append_left _ _),c⟩
 | lay l s p L x h g I D w=>
  obtain⟨m,a,b,c,d,e,f⟩:=w;have H:x.p=p:=by rcases D with ⟨_,rfl⟩ | ⟨_,rfl⟩<;>rfl
  have B:(zt zB [x]).length+(zt ["laid"] [x]).length=1/\spent [x]=0/\zt ["picked"] [x]=[]:=by rcases D with ⟨_,rfl⟩ | ⟨_,rfl⟩<;>exact⟨rfl,rfl,rfl⟩
  refine⟨m++[x],by rw[a,qx],?_,fun y hy=>?_,?_,by rw[jy,e,B.2.1],by rw[zq,f,B.2.2];rfl⟩
  ·rw[zM]
   exact b.append (by rw[<- H];exact Vi _)
  ·rcases zP.mp hy with z | z
   ·exact c y z
   ·cases zR.mp z
    obtain⟨u,hu,E⟩:=vZ.mp g;exact⟨u,hu,by have:=eq_of_beq E;omega⟩
  ·rw[zq,zq,zW,zW,zW]
   have:=B.1;show _=_+1;omega
theorem TripR.counts{g:List (Nat×Nat)}{l:List Nat}{r:List Ev}(h:TripR J A n i g l r)(C:l.Nodup):(zt zB r).length+(zt ["laid"] r).length<=g.length/\spent r<=(n+1)*g.length:=by
 obtain⟨u,h1,h2⟩:=h;obtain⟨a,b,c⟩:=h1.counts;obtain⟨D,rfl,s,m,d,e,_⟩:=h2.parts;have B:=zdj (C.sublist s) (m:=(zt ["picked"] u).map Ev.p) fun q hq=>by
  obtain⟨y,hy,rfl⟩:=qo.mp hq;obtain⟨x,hx,w⟩:=m y hy;exact qo.mpr ⟨x,hx,w⟩
 rw[zp,zp] at B;rw[zq,zq,zW,zW,b,jy,e];exact⟨by show _+(0+_)<=_;omega,by omega⟩
theorem RunR.counts{g:List (List (Nat×Nat)×List Nat)}{i:List Ev}{w:Int}(h:RunR J A n g i w):(∀t∈g,t.2.Nodup)->(zt zB i).length+(zt ["laid"] i).length<=(WV g).length/\spent i<=(n+1)*(WV g).length:=by
 induction h with
 | nil=>exact fun _=>⟨qX _,qX _⟩
 | snoc g i w c l r h t u=>
  intro m;obtain⟨a,b⟩:=u fun t s=>m t (qm _ s)
  obtain⟨B,C⟩:=t.counts (m (c,l) (qE _ (zR.mpr rfl)));rw[zq,zq,zW,zW,zcc,zW,jy,Nat.mul_add];exact⟨by show _<=_+c.length;omega,by show _<=_+(n+1)*c.length;omega⟩
end
def mOf(J:Job)(f:Nat):Int:=(J.fs[f]?.map xC.m).getD 0
def Stk(J:Job)(b:List Ev):Prop:=∀f:Nat,((qA b).count (f:Int):Int)<=mOf J f
theorem xi(a b:List Ev):qA (a++b)=qA a++qA b:=by unfold qA;rw[zq,zM]
theorem VJ{e:Ev}(h:e.w∈zw):qA [e]=[(e.f:Int)]:=by
 unfold qA;rw[vQ,zu (qk h)];rfl
theorem VN{e:Ev}(h:e.w∉zw):qA [e]=[]:=by
 unfold qA;rw[vQ,zo (fun z=>h (qQ z))];rfl
theorem Stk.no{J:Job}{b:List Ev}{e:Ev}(s:Stk J b)(h:e.w∉zw):Stk J (b++[e]):=fun f=>by rw[xi,VN h,z7];exact s f
theorem Stk.tr{J:Job}{b:List Ev}{e:Ev}(s:Stk J b)(h:e.w∈zw)(l:((qA b).count (e.f:Int):Int)<mOf J e.f):Stk J (b++[e]):=fun f=>by
 rw[xi,VJ h,Zf];by_cases z:e.f=f
 ·subst z
  rw[Vy];omega
 ·rw[zdW (a:=(f:Int)) (l:=[(e.f:Int)]) (fun y=>z (by have:=zR.mp y;omega))]
  exact s f
theorem JY{J:Job}{c:xb}{b:List Ev}{own f:Nat}(h:NF (wb J c b) own (.int (f:Int))):((qA b).count (f:Int):Int)<mOf J f:=qQ (ji.mp (QI h)).2
section
variable{J:Job}{i:xb}{p own n:Nat}{c:List Bool}{b:List Ev}
theorem TryR.stk{l r:List Ev}(h:TryR J i p own c b n l r):Stk J (b++l)->Stk J (b++r):=by
 induction h with
 | fin l=>exact fun s=>by rw[<- qx];exact s.no (show("failed":Str)∉zw by decide)
 | none n l h=>exact fun s=>by rw[<- qx];exact s.no (show("none":Str)∉zw by decide)
 | luck n l f h g=>exact fun s=>by rw[<- qx];exact s.tr (e:=.picked p f) (show("picked":Str)∈zw by decide) (JY h)
 | miss n l f r h g t m=>exact fun s=>m (by rw[<- qx];exact s.tr (e:=.missed p f) (show("missed":Str)∈zw by decide) (JY h))
theorem PickR.stk{r:List Ev}(h:PickR J i p own c n b r)(s:Stk J b):Stk J (b++r):=by
 rcases h with ⟨_,rfl⟩ | ⟨_,t⟩
 ·exact s.no (show("behind":Str)∉zw by decide)
 ·exact t.stk (by rw[z7];exact s)
end
def isM(q:Nat)(e:Ev):Bool:=decide (e.w = "missed")&&decide (e.p=q)
def qtW:List Str:=["picked","laid","dropped"]
structure Unl(n:Nat)(ps:List Nat)(r:List Ev):Prop where
 gv:(zt zB r).map Ev.p=ps
 qt:∀e∈r,e.w∉qtW
 ms:∀q,(r.filter (isM q)).length<=n*ps.count q
theorem Unl.nil{n:Nat}:Unl n [] []:=⟨rfl,(fun e b=>nomatch b),fun q=>qX _⟩
theorem Unl.app{n:Nat}{g c:List Nat}{r i:List Ev}(a:Unl n g r)(b:Unl n c i):Unl n (g++c) (r++i):=by
 refine⟨by rw[zq,zM,a.gv,b.gv],fun e l=>(zP.mp l).elim (a.qt e) (b.qt e),fun q=>?_⟩
 have:=a.ms q;have:=b.ms q;rw[xW,zW,Zf,Nat.mul_add];omega
theorem Unl.one{n p:Nat}{b:List Nat}{x:Ev}(l:b.length<=n)(k:PkN p x):Unl n [p] (b.map (.missed p)++[x]):=by
 have g:∀q,isM q x=false:=fun q=>by cases k<;>rfl
 refine⟨?_,fun e c=>?_,fun q=>?_⟩
 ·rw[zq,xI _ (by decide),vX]
  cases k<;>rfl
 ·rcases zP.mp c with z | z
  ·obtain⟨f,_,rfl⟩:=qo.mp z
   exact(show("missed":Str)∉qtW by decide)
  ·cases zR.mp z
   cases k
   ·exact(show("behind":Str)∉qtW by decide)
   ·exact(show("none":Str)∉qtW by decide)
   ·exact(show("failed":Str)∉qtW by decide)
 ·rw[xW,Q7 (by rw[g q];exact qH),ZC,z7]
  by_cases z:p=q
  ·subst z
   rw[Vy,Nat.mul_one];exact jd (jt _ _) (by rw[zp];exact l)
  ·have:(b.map (Ev.missed p)).filter (isM q)=[]:=Xv.mpr fun e c=>by
    obtain⟨f,_,rfl⟩:=qo.mp c;intro y;have:=(j8 _ _▸y:decide ((Ev.missed p f).w = "missed")=true/\decide ((Ev.missed p f).p=q)=true).2;exact z (qQ this)
   rw[this];exact qX _
theorem Unl.none{n:Nat}{g:List Nat}{r:List Ev}(u:Unl n g r){b:List Str}(h:∀w∈b,w∈qtW):zt b r=[]:=Xv.mpr fun e c z=>u.qt e c (h _ (qQ z))
section
variable{J:Job}{n:Nat}{c:List Bool}{b:List Ev}
theorem PksR.stk{l:List (Nat×Nat)}{i:List Ev}(h:PksR J c n b l i)(s:Stk J b):Stk J (b++i):=by
 induction h with
 | nil=>rw[z7];exact s
 | snoc l i p own u r h e g m=>rw[<- qx];exact g.stk m
theorem LysR.stk{g:List Ev}{l:List Nat}{r:List Ev}(h:LysR J b g l r)(s:Stk J (b++g)):Stk J (b++r):=by
 obtain⟨i,rfl,_,_,_,z,_⟩:=h.parts;intro f;have:qA i=[]:=List.eq_nil_of_length_eq_zero (by unfold qA;rw[zp];exact z)
 rw[<- qx,xi,this,z7];exact s f
end
section
variable{J:Job}{n:Nat}{b:List Bool}
theorem RunR.stk{g:List (List (Nat×Nat)×List Nat)}{c:List Ev}{w:Int}(h:RunR J b n g c w)(s:∀f,0<=mOf J f):Stk J c:=by
 induction h with
 | nil=>exact fun f=>s f
 | snoc g c w u l r h t m=>
  obtain⟨i,h1,h2⟩:=t;exact h2.stk (h1.stk m)
end
section
variable{P:Program}{w:World}{K:W.Frag}{M:Str->Option Value}{I:Heap}
inductive zai(K:W.Frag)(D:List V)(H:Hp)(Q:VK):Prop
 | mk (A C B:Addr) (J:Job) (g:List (List (Nat×Nat)×List Nat)) (u:List Bool) (n:Nat) (_:D=[.ref A,.ref C,.ref B,.int (n:Int)]) (_:Rep K H (vE J) (.ref A)) (_:JSm J) (_:JIn J) (_:Rep K H (.lst (g.map fun t=>zhZ t.1 t.2)) (.ref C)) (_:g.length<=60) (_:(WV g).length<=60) (_:(∀t∈g,t.2.Nodup)) (_:(∀t∈g,t.1.length<=4/\t.2.length<=4/\(∀q∈t.1,q.1<J.ps.length)/\∀q∈t.2,q<J.ps.length)) (_:SqL K H B (u.map V.bl)) (_:n<=10) (_:∀(T i a b:Addr) (l:List Ev) (w:Int) (s m:List Int) c,Same H c->c T=some (.tup [.ref i,.ref a,.ref b,.int w])->Evs K c i l->c a=some (.lst (s.map V.int))->c b=some (.lst (m.map V.int))->s.Perm ((zt ["laid"] l).map fun e=>(e.p:Int))->s.Pairwise (·<= ·)->m.Perm ((zt zB l).map fun e=>(e.p:Int))->m.Pairwise (·<= ·)->l.length<=5000->RunR J u n g l w->H i=none->H a=none->H b=none->H T=none->i≠a->i≠b->a≠b->Q (.ref T) c):zai K D H Q
def Qp(K:W.Frag):Sp:=fun b H Q _=>zai K b H Q
theorem zfA:zD ["job","plan","luck","tries","events","way","trip","found"] ["job","plan","luck","tries"] (zr (topL 27)):=u5
theorem zgK{f gu:Addr}{fd:FuncData}(F:Fun K "run_plan" "run_plan" (topL 27) f fd)(B:Blt M)(m:M "GIVEN_UP" = some (.ref gu))(G:TxG K gu zB)(g:Dfn P w K M I "trip_events" 6 ["job","trip","luck","tries","events"] (zfr K))(L:Dfn P w K M I "way_by" 3 ["job","events"] (zcq K))(c:Dfn P w K M I "parts_of" 2 ["events","words"] (zam K)):FnOk P w K M I CX0 7 f fd ["job","plan","luck","tries"] (Qp K):=by
 have nd:=zfA.nd;refine F.ok zfA (fun vs H Q E h=>?_) (fun av A ak s H vs Q E hr h=>?_)
 ·obtain⟨jp,pl,lk,J,ts,bs,n,rfl,_⟩:=h
  rfl
 ·obtain⟨jp,pl,lk,J,ts,bs,n,rfl,rj,js,ab,ao,t2,ap,as,ar,hk,ai,k⟩:=h
  have au:=bG1000000;obtain⟨ax,am,e0,af,ag⟩:=ao;cases e0;have aa:=ag.len;rw[zp] at aa;refine⟨_,(zf (zG (i:=4) nd rfl (Or.inl rfl) (zV zd))
   (zf (zG (i:=5) nd rfl (Or.inl rfl) ze)
   (zf (qS jr rfl (qD (pv 1)) (zA (i:=6) nd rfl (Or.inl rfl))
   (zf (zG (i:=7) nd rfl (Or.inl rfl) (zi g hr.m rfl (pa5 (pv 0) (pv 6) (pv 2) (pv 3) (pv 4))))
    (zf (qK (jO jV PySem.F.slot_list_extend PySem.F.type_list_extend J9 (pv 4) (za (pv 7) zd)))
    (zk (zgx (i:=5) nd rfl (Or.inl rfl) (zi L hr.m rfl (za (pv 0) (za (pv 7) zd))) zhb)))))
   (zk (zC (qB (za (pv 4) (za (zy jF rfl B.sorted jC (za (zi c hr.m rfl (za (pv 4) (za (qB (za jz zd)) zd))) zd)) (za (zy jF rfl B.sorted jC (za (zi c hr.m rfl (za (pv 4) (za (y3 (v:=.ref gu) rfl m rfl) zd))) zd)) (za (pv 5) zd)))))))))),?_⟩
  refine⟨le0,fun C a0=>?_⟩
  have s1:=zc (H:=H) (o:=.lst []) a0;refine⟨_,rfl,pl,rfl,⟨_,s1.seq af⟩,jG (K:=K) (a:=pl) (xs:=am) (fun i σ H'=>Ex5 fun(u:List Ev) (D:List V) (U:Int) (v6 v7:Option V)=>An6 (σ=[some (.ref jp),some (.ref pl),some (.ref lk),some (.int (n:Int)),some (.ref C),some (.int U),v6,v7]) (Same H H') (H' C=some (.lst D)) (Reps K H' (u.map evD) D) (u.length<=48*i) (RunR J bs n (ts.take i) u U)) ⟨[],[],0,_,_,rfl,s1,zb,rfl,zQ _,.nil⟩ (fun i σ H' _ ⟨_,_,_,_,_,_,s',_,_,_,_⟩=>s'.seq af) ?_ ?_⟩
  ·rintro i x σ H2 hx ⟨u,D,U,v6,v7,rfl,s2,F2,R2,el,rr⟩
   have xl:=R2.len;rw[zp] at xl;have il:=(zL.mp hx).1;obtain⟨d,ed,rd⟩:=(ag.same s2).get hx;rw[zU] at ed;obtain⟨⟨ae,ac⟩,et,rfl⟩:=qr.mp ed;obtain⟨h1,h2,h3,h4⟩:=ar _ (je et);dsimp only at h1 h2 h3 h4 rd;have an:=rd;obtain⟨tp,_,rfl,_⟩:=an;refine⟨_,rfl,_,rfl,_,rfl,_,rfl,_,rfl,jp,tp,lk,C,J,ae,ac,bs,n,u,rfl,rj.same s2,js,rd,h3,h4,by omega,by omega,s2.seq hk,ai,⟨D,F2,R2⟩,by omega,fun q r H3 hq O ⟨Y,hz,rz⟩ rl tr=>?_⟩
   have zl:=rz.len;rw[zp] at zl;have F3:=O _ _ F2;have aq:=s2.trans O;have aj:q≠C:=fun z=>by rw[z,F2] at hq;cases hq
   refine⟨_,rfl,.inl ⟨rfl,_,u7 F3⟩,_,rfl,C,q,_,_,rfl,rfl,F3,hz,by omega,?_⟩
   have R3:Reps K H3 ((u++r).map evD) (D++Y):=by rw[zM];exact uc (R2.same O) rz
   have R4:=R3.keep (ud (ys:=D++Y) F3) (x8 _);have Z4:Evs K (upd H3 C (.lst (D++Y))) q r:=⟨Y,by rw[zj aj];exact hz,rz.keep (ud F3) (x8 _)⟩
   have F4:=zb (H:=H3) (a:=C) (o:=.lst (D++Y));have s4:Same H (upd H3 C (.lst (D++Y))):=fun c0 u0 e0=>by rw[zj (zg e0 a0)];exact aq c0 u0 e0
   generalize upd H3 C (.lst (D++Y))=H4 at R4 Z4 F4 s4;refine⟨_,rfl,_,rfl,_,rfl,jp,q,J,r,rfl,rj.same s4,ab,Z4,tr.ok ab,by omega,fun H5 N=>⟨_,_,rfl,rfl,?_⟩⟩
   refine⟨u++r,D++Y,U+(xh (Qu J r)).sum,_,_,rfl,s4.trans N,N _ _ F4,R4.same N,by rw[zW];omega,?_⟩
   rw[qq et];exact .snoc _ u U ae ac r rr tr
  ·rintro σ H2 ⟨u,D,U,v6,v7,rfl,s2,F2,R2,el,rr⟩
   rw[aa,qY] at rr;rw[aa] at el;have z1:=(rr.counts as).1;have E2:Evs K H2 C u:=⟨D,F2,R2⟩;have mp:∀l:List Ev,(l.map fun e=>V.int (e.p:Int))=(l.map fun e=>(e.p:Int)).map V.int:=fun l=>by rw[xA];rfl
   refine⟨_,rfl,_,rfl,le1,fun wt ah=>?_⟩
   have O:=zc (H:=H2) (o:=.tup [.str "laid"]) ah;have W3:=zb (H:=H2) (a:=wt) (o:=.tup [.str "laid"]);generalize upd H2 wt (.tup [.str "laid"])=H3 at O W3;refine⟨C,wt,u,["laid"],rfl,E2.same O,u8 W3,by omega,fun q H4 hq s4 L4=>?_⟩
   refine⟨q,(zt ["laid"] u).map fun e=>(e.p:Int),rfl,u7 (by rw[L4,mp]),by rw[zp];omega,fun a ls ha pa pw=>?_⟩
   have N:=(O.trans s4).trans (zc (H:=H4) (o:=.lst (ls.map V.int)) ha);have A5:=zb (H:=H4) (a:=a) (o:=.lst (ls.map V.int));generalize upd H4 a (.lst (ls.map V.int))=H5 at N A5;refine⟨_,rfl,C,gu,u,zB,rfl,E2.same N,G.all _,by omega,fun q2 H6 aw s6 L6=>?_⟩
   refine⟨q2,(zt zB u).map fun e=>(e.p:Int),rfl,u7 (by rw[L6,mp]),by rw[zp];omega,fun b gs hb pb al=>?_⟩
   have s7:=s6.trans (zc (H:=H6) (o:=.lst (gs.map V.int)) hb);have B7:=zb (H:=H6) (a:=b) (o:=.lst (gs.map V.int));generalize upd H6 b (.lst (gs.map V.int))=H7 at s7 B7;refine⟨_,rfl,le4,fun T hT=>?_⟩
   have s8:=zc (H:=H7) (o:=.tup [.ref C,.ref a,.ref b,.int U]) hT;exact k T C a b u U ls gs _ (s2.trans (N.trans (s7.trans s8))) zb (E2.same (N.trans (s7.trans s8))) ((s7.trans s8) _ _ A5) (s8 _ _ B7) pa pw pb al (by omega) rr a0 ((s2.trans (O.trans s4)).none ha) ((s2.trans (N.trans s6)).none hb) ((s2.trans (N.trans s7)).none hT) (fun z=>by rw[<- z,(O.trans s4) _ _ F2] at ha;cases ha) (fun z=>by rw[<- z,(N.trans s6) _ _ F2] at hb;cases hb) (fun z=>by rw[<- z,s6 _ _ A5] at hb;cases hb)
theorem zek{r:Int}(h0:0<=r)(h1:r<4):∃z:Int,atI [V.int 6,V.int 41,V.int 41,V.int 401] r=some (.int z)/\6<=z/\z<=401:=by
 have hc:r=0\/r=1\/r=2\/r=3:=by omega
 rcases hc with rfl | rfl | rfl | rfl
 ·exact⟨_,rfl,by decide,by decide⟩
 ·exact⟨_,rfl,by decide,by decide⟩
 ·exact⟨_,rfl,by decide,by decide⟩
 ·exact⟨_,rfl,by decide,by decide⟩
theorem zgA{r:Int}(h0:0<=r)(h1:r<4)(a b c d:Bool):∃z:Bool,atI [V.bl a,V.bl b,V.bl c,V.bl d] r=some (.bl z):=by
 have hc:r=0\/r=1\/r=2\/r=3:=by omega
 rcases hc with rfl | rfl | rfl | rfl<;>exact⟨_,rfl⟩
inductive zcy(i:List V)(H:Hp)(Q:VK):Prop
 | mk (b:Addr) (n:Int) (_:i=[.ref b]) (_:BoxAt H b n) (_:n<500000) (_:∀(l:Addr) (g:List Bool) c,SameB b H c->BoxAt c b (n+1000)->H l=none->l≠b->c l=some (.lst (g.map V.bl))->g.length<=400->Q (.ref l) c):zcy  i H Q
def zhK:Sp:=fun b H Q _=>zcy  b H Q
theorem zhT:zD ["_law_box_here","_law_draw","_law_found","_law_many","_law_k"] ["_law_box_here"] (zr (topL 52)):=u5
def zbA(b:_)(d:_)(l:_)(m:_)(H:_)(n:_):=fun(i:Nat) (σ:St) (c:Hp)=>(Ex2 fun(g:List Bool) (s:Option V)=>An5 (σ=[some (.ref b),some (.int d),some (.ref l),some (.int m),s]) (SameB b H c) (BoxAt c b (n+3+2*i)) (c l=some (.lst (g.map V.bl))) (g.length=i):Prop)
theorem zig{f:Addr}{fd:FuncData}(F:Fun K "_law_luck" "_law_luck" (topL 52) f fd)(B:Blt M)(c:Dfn P w K M I "_law_take" 1 ["_law_box_here","_law_size"] xH):FnOk P w K M I CX0 2 f fd ["_law_box_here"] zhK:=by
 have nd:=zhT.nd;refine F.ok zhT (fun vs H Q E h=>?_) (fun ac A aa s H vs Q E C h=>?_)
 ·obtain⟨b,n,rfl,_⟩:=h
  rfl
 ·obtain⟨b,n,rfl,B0,hn,k⟩:=h
  have ab:=bG100000;refine⟨_,(zf (QA (i:=1) (j:=2) rfl nd rfl rfl (by decide) rfl rfl (za (zi c C.m rfl (za (pv 0) (za ze zd))) (za (zV zd) zd)) (by rfl))
   (zf (zG (i:=3) nd rfl (Or.inl rfl) (zi c C.m rfl (za (pv 0) (za (zx qh (zV (za ze (za ze (za ze (za ze zd))))) (zi c C.m rfl (za (pv 0) (za ze zd))) (fun _ _=>rfl)) zd))))
   (zf (qS jr rfl (qN rfl B.range (za (pv 3) zd)) (zA (i:=4) nd rfl (Or.inl rfl))
   (zk (qK (jO jV xG xF qF (pv 2) (za (zx qh (zV (za vg (za vg (za (qZ xm (zi c C.m rfl (za (pv 0) (za ze zd))) ze (zS _)) (za (qZ J5 (zi c C.m rfl (za (pv 0) (za ze zd))) ze (zS _)) zd))))) (pv 1) (fun _ _=>rfl)) zd)))))
   (zk (zC (pv 2)))))),?_⟩
  have u:=bGe;refine⟨_,rfl,b,4,n,rfl,B0,by omega,by decide,by decide,fun d H1 d0 d1 B1 S1=>⟨le0,fun l J=>?_⟩⟩
  have g:=B1.nne J;have S2:=S1.new (o:=.lst []) J;have T:=B1.new (o:=.lst []) J;have L2:upd H1 l (.lst []) l=some (.lst []):=zb;have lN:=S1.none J g;generalize upd H1 l (.lst [])=H2 at S2 T L2;refine⟨_,_,rfl,_,rfl,le4,fun q hq=>⟨_,rfl,b,4,_,rfl,T.new hq,by omega,by decide,by decide,fun r H3 r0 N B3 Y=>?_⟩⟩
  obtain⟨z,G,z0,z1⟩:=zek r0 N;have qb:=T.nne hq;refine⟨q,_,_,_,rfl,rfl,u7 (Y _ _ zb qb),G,b,z,_,rfl,B3,by omega,by omega,by omega,fun m H4 m0 m1 B4 S4=>?_⟩
  have S5:=((S2.new hq).trans Y).trans S4;have L5:=S4 _ _ (Y _ _ ((zc (o:=.lst [.int 6,.int 41,.int 41,.int 401]) hq) _ _ L2) g) g;refine⟨_,rfl,_,rfl,(by rw[u];omega),(by rw[u];omega),?_⟩
  refine ju (zbA b d l m H n) ⟨[],_,rfl,S5,B4.mono (by omega),L5,rfl⟩ ?_ ?_
  ·rintro i σ H' hi ⟨bs,v4,rfl,U,O,D,bl⟩
   refine⟨_,rfl,.inl ⟨rfl,_,u7 D⟩,_,rfl,b,2,_,rfl,O,by omega,by decide,by decide,fun N H6 a0 a1 B6 S6=>⟨rfl,_,rfl,b,5,_,rfl,B6,by omega,by decide,by decide,fun r2 H7 c0 c1 B7 S7=>⟨_,_,rfl,rfl,le4,fun t L=>?_⟩⟩⟩
   obtain⟨z,G⟩:=zgA d0 d1 false true (decide (V.int N=V.int 0)) (decide (0<r2));have tb:=B7.nne L;have S8:=(U.trans S6).trans S7;have L8:=(zc (o:=.lst [.bl false,.bl true,.bl (decide (V.int N=V.int 0)),.bl (decide (0<r2))]) L) _ _ (S7 _ _ (S6 _ _ D g) g);refine⟨_,rfl,t,_,_,_,rfl,rfl,u7 zb,(by first| exact G | (rw[<- G];rfl)),l,_,_,rfl,rfl,L8,by rw[zp];omega,bs++[z],_,rfl,(S8.new L).put lN,((B7.new L).other g).mono (by omega),by rw[zb,zM];rfl,by rw[zW,bl];rfl⟩
  ·rintro σ H' ⟨bs,v4,rfl,U,O,D,bl⟩
   exact⟨_,rfl,k l bs H' U (O.mono (by omega)) lN g D (by omega)⟩
theorem zem{r:Int}(h0:0<=r)(h1:r<3):∃z:Int,atI [V.int 0,V.int 0,V.int 5] r=some (.int z)/\0<=z/\z<=5:=by
 have hc:r=0\/r=1\/r=2:=by omega
 rcases hc with rfl | rfl | rfl<;>exact⟨_,rfl,by decide,by decide⟩
structure CaseAt(K:W.Frag)(H:Hp)(jp pl lk:Addr)(J:Job)(ts:List qV)(bs:List Bool)(m:Nat):Prop where
 rj:Rep K H (vE J) (.ref jp)
 jo:∃ord,JobOk J ord
 rp:∃tr,H pl=some (.lst tr)/\Reps K H (ts.map vH) tr
 po:∃os:List Nat,os.Perm (List.range J.ps.length)/\ByOrd os J.as/\Y7 J os ts
 hl:H lk=some (.lst (bs.map V.bl))
 bl:bs.length<=400
 m1:1<=m
 m5:m<=5
inductive V8(K:W.Frag)(s:List V)(H:Hp)(Q:VK):Prop
 | mk (b:Addr) (n t:Int) (_:s=[.ref b,.int t]) (_:BoxAt H b n) (_:n<400000) (_:∀(T g l i:Addr) (J:Job) (A:List qV) (u:List Bool) (m:Nat) c,SameB b H c->BoxAt c b (n+6000)->c T=some (.tup [.ref g,.ref l,.ref i,.int (m:Int)])->CaseAt K c g l i J A u m->Q (.ref T) c):V8 K s H Q
def Yh(K:W.Frag):Sp:=fun b H Q _=>V8 K b H Q
theorem zcV:zD ["_law_box_here","_law_turn","_law_few","_law_most","_law_job_here","_law_plan_here"] ["_law_box_here","_law_turn"] (zr (topL 53)):=u5
def zbz(b:_)(t:_)(H:_)(n:_):=fun(l:St) (i:Hp)=>(Ex2 fun(g c:Int)=>An7 (l=[some (.ref b),some (.int t),some (.int g),some (.int c),none,none]) (0<=g) (g<=60) (0<=c) (c<=60) (SameB b H i) (BoxAt i b (n+1)):Prop)
theorem zeT{f:Addr}{fd:FuncData}(F:Fun K "_law_case" "_law_case" (topL 53) f fd)(B:Blt M)(g:Dfn P w K M I "_law_take" 1 ["_law_box_here","_law_size"] xH)(C:Dfn P w K M I "_law_job" 4 ["_law_box_here","_law_few","_law_most","_law_plenty"] (zfw K))(u:Dfn P w K M I "_law_plan" 4 ["_law_box_here","_law_job_here","_law_most"] (zct K))(l:Dfn P w K M I "_law_luck" 2 ["_law_box_here"] zhK):FnOk P w K M I CX0 5 f fd ["_law_box_here","_law_turn"] (Yh K):=by
 have nd:=zcV.nd;refine F.ok zcV (fun vs H Q E h=>?_) (fun aj A ae s H vs Q E D h=>?_)
 ·obtain⟨b,n,t,rfl,_⟩:=h
  rfl
 ·obtain⟨b,n,t,rfl,B0,hn,k⟩:=h
  have ai:=bG100000;refine⟨_,(zf (yb (xc (vf (PW.pt (Qy (zF xm (zi g D.m rfl (za (pv 0) (za ze zd))) ze (zS _)) (yY (zF xm (pv 1) ze (zS _))))) (qB (za ze (za ze zd))) (qB (za ze (za ze zd)))) (jN rfl (zK (zA (i:=2) nd rfl (Or.inl rfl)) (zK (zA (i:=3) nd rfl (Or.inl rfl)) jv)))))
   (zf (zG (i:=4) nd rfl (Or.inl rfl) (zi C D.m rfl (za (pv 0) (za (pv 2) (za (pv 3) (za (qZ xm (zi g D.m rfl (za (pv 0) (za ze zd))) ze (zS _)) zd))))))
   (zf (zG (i:=5) nd rfl (Or.inl rfl) (zi u D.m rfl (za (pv 0) (za (pv 4) (za (zx qh (zV (za ze (za ze (za ze zd)))) (zi g D.m rfl (za (pv 0) (za ze zd))) (fun _ _=>rfl)) zd)))))
   (zk (zC (qB (za (pv 4) (za (pv 5) (za (zi l D.m rfl (za (pv 0) zd)) (za (zH qT ze (zi g D.m rfl (za (pv 0) (za ze zd)))) zd)))))))))),?_⟩
  refine⟨zbz b t H n,?_,?_⟩
  ·refine⟨_,rfl,b,16,n,rfl,B0,by omega,by decide,by decide,fun r H1 r0 r1 G L=>⟨rfl,_,rfl,jX (fun c=>⟨_,rfl,rfl,_,rfl,jX (fun c=>⟨le2,fun q hq=>?_⟩) (fun c=>⟨le2,fun q hq=>?_⟩)⟩) (fun c=>⟨le2,fun q hq=>?_⟩)⟩⟩
   ·exact⟨q,_,rfl,u8 zb,rfl,_,_,rfl,_,_,rfl,rfl,60,60,rfl,by decide,by decide,by decide,by decide,L.new hq,G.new hq⟩
   ·exact⟨q,_,rfl,u8 zb,rfl,_,_,rfl,_,_,rfl,rfl,7,24,rfl,by decide,by decide,by decide,by decide,L.new hq,G.new hq⟩
   ·exact⟨q,_,rfl,u8 zb,rfl,_,_,rfl,_,_,rfl,rfl,7,24,rfl,by decide,by decide,by decide,by decide,L.new hq,G.new hq⟩
  rintro σ' H1 ⟨ab,O,rfl,f0,f1,m0,m1,L,G⟩;refine⟨_,rfl,_,rfl,_,rfl,_,rfl,b,2,_,rfl,G,by omega,by decide,by decide,fun r2 H2 _ _ B2 S2=>⟨rfl,b,ab,O,_,_,rfl,B2,by omega,f0,f1,m0,m1,fun jp J U H3 S3 B3 rj jo=>?_⟩⟩
  have a0:=(L.trans S2).trans S3;refine⟨_,rfl,_,rfl,le3,fun q hq=>⟨_,rfl,b,3,_,rfl,B3.new hq,by omega,by decide,by decide,fun r H4 r0 r1 B4 S4=>?_⟩⟩
  have qb:=B3.nne hq;obtain⟨z,ez,z0,z1⟩:=zem r0 r1;have af:=rj.same (zc (o:=.lst [.int 0,.int 0,.int 5]) hq);have aa:=(a0.new (o:=.lst [.int 0,.int 0,.int 5]) hq).trans S4;have Y:=af.keep (ua (B3.new (o:=.lst [.int 0,.int 0,.int 5]) hq) S4) (vP J);refine⟨q,_,_,_,rfl,rfl,u7 (S4 _ _ zb qb),ez,b,jp,J,U,z,_,rfl,B4,by omega,Y,jo,z0,by omega,fun pl os ts tr H5 S5 B5 pb al L5 r5 pm ob po=>?_⟩
  have ag:=Y.keep (ua B4 S5) (vP J);refine⟨_,rfl,_,rfl,_,rfl,b,_,rfl,B5,by omega,fun lk bs H6 S6 B6 ak ac L6 bl=>?_⟩
  have ah:=ag.keep (ua B5 S6) (vP J);refine⟨_,rfl,b,5,_,rfl,B6,by omega,by decide,by decide,fun m H7 m0 m1 B7 N=>⟨_,_,rfl,rfl,le4,fun T hT=>?_⟩⟩
  have s8:=zc (o:=.tup [.ref jp,.ref pl,.ref lk,.int (1+m)]) hT;have em:(((1+m).toNat:Nat):Int)=1+m:=by omega
  refine k T jp pl lk J ts bs (1+m).toNat _ ((((aa.trans S5).trans S6).trans N).new hT) ((B7.new hT).mono (by omega)) (by rw[zb,em]) ⟨(ah.keep (ua B6 N) (vP J)).same s8,⟨U,jo⟩,⟨tr,s8 _ _ (N _ _ (S6 _ _ L5 pb) pb),((r5.keep (ua B5 S6) (jW ts)).keep (ua B6 N) (jW ts)).same s8⟩,⟨os,pm,ob,po⟩,s8 _ _ (N _ _ L6 ac),bl,by omega,by omega⟩
def mkQ(t:Bool)(b:List Dat):Dat:=if t=true then .tup b else .lst b
theorem SqQ.same{H b:Hp}{t:Bool}{a:Addr}{c:List V}(h:SqQ K H t a c)(s:Same H b):SqQ K b t a c:=by
 cases t with
 | true=>exact s.sqT h
 | false=>exact s.seq h
theorem SqQ.or{H:Hp}{t:Bool}{a:Addr}{b:List V}(h:SqQ K H t a b):SqL K H a b\/SqT K H a b:=by
 cases t with
 | true=>exact .inr h
 | false=>exact .inl h
theorem SqQ.k{H:Hp}{t:Bool}{a:Addr}{b:List V}(h:SqQ K H t a b):SqK K (!t) H a b:=by
 cases t
 ·exact h
 ·exact h
def zgf(K:W.Frag):Nat->Sp
 | 0=>fun _ _ _ _=>False
 | n+1=>fun m H Q _=>∃(t:Bool) (a b:Addr) (i l:List V) (c:List Dat),m=[.ref a,.ref b]/\SqQ K H t a i/\SqQ K H t b l/\Reps K H c i/\Reps K H c l/\c.length<=1000000/\(∀e∈c,Dat.ok n e)/\∀g,Same H g->Q (.bl true) g
inductive zcA(K:W.Frag)(n:Nat)(c:List V)(H:Hp)(Q:VK):Prop
 | mk (d:Dat) (f v:V) (_:c=[f,v]) (_:Rep K H d f) (_:Rep K H d v) (_:Dat.ok n d) (_:∀b,Same H b->Q (.bl true) b):zcA K n c H Q
def zd8(K:W.Frag)(n:Nat):Sp:=fun b H Q _=>zcA K n b H Q
theorem zhW:zD ["things","told"] ["things","told"] (zr (topL 13)):=u5
theorem zeU{f:Addr}{b:FuncData}(_:Fun K "are_same" "are_same" (topL 13) f b)(_:Blt M):FnOk P w K M I CX0 0 f b ["things","told"] (zgf K 0):=⟨fun _ _ _ _ h=>h.elim,fun _ _ _ _ _ _ _ _ _ _ _ _ _ h=>h.elim⟩
theorem XL{f:Addr}{O:FuncData}(F:Fun K "are_same" "are_same" (topL 13) f O)(B:Blt M)(n:Nat)(c:Dfn P w K M I "is_same" (2*n+1) ["thing","told"] (zd8 K n)):FnOk P w K M I CX0 (2*n+2) f O ["things","told"] (zgf K (n+1)):=by
 have nd:=zhW.nd;refine F.ok zhW (fun vs H Q E h=>?_) (fun a0 A G s H vs Q E hr h=>?_)
 ·obtain⟨t,a,b,g,l,ds,rfl,_⟩:=h
  rfl
 ·obtain⟨t,a,b,g,l,ds,rfl,hx,hy,Y,ry,el,ok,k⟩:=h
  have U:=bG1000000;have lx:=Y.len;have ly:=ry.len;refine⟨_,(zk (zC (yF (qZ xm (zy zO rfl B.len boot_len (za (pv 0) zd)) (zy zO rfl B.len boot_len (za (pv 1) zd)) (zS _)) (we (zy (vS rfl) rfl B.all boot_all (za (wj [] [] rfl rfl (by kernel_rfl) (Yl rfl B.zip (za (pv 0) (za (pv 1) zd))) (fun _ _ _ _=>jk) (fun _ _ _ _=>(zi c (hr.mono (by omega)) rfl (za (pv 0) (za (pv 1) zd))))) zd)))))),?_⟩
  refine⟨_,rfl,a,g,rfl,hx.or,_,rfl,b,l,rfl,hy.or,rfl,_,rfl,ifT (by rw[lx,ly];exact qk rfl) ?_⟩
  refine⟨_,rfl,_,rfl,!t,!t,a,b,rfl,⟨g,hx.k⟩,⟨l,hy.k⟩,?_⟩
  refine Yy (K:=K) (k1:=!t) (k2:=!t) (xs:=g) (ys:=l) (fun i C u=>C=List.replicate i (V.bl true)/\Same H u) ⟨rfl,u9 _⟩ (fun i C u ⟨_,m⟩=>⟨(hx.same m).k,(hy.same m).k⟩) ?_ ?_
  ·rintro i x y C u T e1 e2 ⟨rfl,m⟩ hT
   obtain⟨N,q1,r1⟩:=Y.get e1;obtain⟨d2,J,r2⟩:=ry.get e2;cases q1.symm.trans J;have hi:=(zL.mp J).1;have L:=m.trans (zc (o:=.tup [x,y]) hT);refine⟨T,_,rfl,u8 zb,rfl,_,_,rfl,_,_,rfl,rfl,rfl,?_⟩
   exact⟨_,rfl,_,rfl,N,x,y,rfl,r1.same L,r2.same L,ok N (je J),fun H5 s5=>⟨by rw[yu];omega,by rw[Vq],L.trans s5⟩⟩
  ·rintro C u ⟨rfl,m⟩
   refine⟨by rw[yu];omega,fun D hD=>⟨D,List.replicate (min g.length l.length) true,rfl,u7 (by rw[zb,Vl]),?_⟩⟩
   rw[show(List.replicate (min g.length l.length) true).all id=true by simp]
   exact k _ (m.trans (zc hD))
theorem zhV:zD ["thing","told"] ["thing","told"] (zr (topL 14)):=u5
theorem QH{f:Addr}{fd:FuncData}(F:Fun K "is_same" "is_same" (topL 14) f fd)(B:Blt M)(n:Nat)(g:Dfn P w K M I "are_same" (2*n) ["things","told"] (zgf K n)):FnOk P w K M I CX0 (2*n+1) f fd ["thing","told"] (zd8 K n):=by
 have nd:=zhV.nd;refine F.ok zhV (fun vs H Q E h=>?_) (fun a0 A T s H vs Q E O h=>?_)
 ·obtain⟨d,f,v,rfl,_⟩:=h
  rfl
 ·obtain⟨d,f,v,rfl,J,l,ok,k⟩:=h
  have hu:=O.units0;have kk:=k H (u9 _);refine⟨_,(zf (jq (xx (zy xT rfl B.isinstance boot_isinstance (za (pv 1) (za (vy (v:=.ty "list") rfl B.list xK rfl) zd))))
   (zk (zC (yF (zy xT rfl B.isinstance boot_isinstance (za (pv 0) (za (vy (v:=.ty "list") rfl B.list xK rfl) zd))) (we (zi g (O.mono (by omega)) rfl (za (pv 0) (za (pv 1) zd)))))))
   qy)
   (zf (jq (xx (zy xT rfl B.isinstance boot_isinstance (za (pv 1) (za (vy (v:=.ty "tuple") rfl B.tuple xg rfl) zd))))
   (zk (zC (yF (zy xT rfl B.isinstance boot_isinstance (za (pv 0) (za (vy (v:=.ty "tuple") rfl B.tuple xg rfl) zd))) (we (zi g (O.mono (by omega)) rfl (za (pv 0) (za (pv 1) zd)))))))
   qy)
   (zk (zC (yF (qZ xm (zy xT rfl B.isinstance boot_isinstance (za (pv 0) (za (vy (v:=.ty "bool") rfl B.bool Zw rfl) zd))) (zy xT rfl B.isinstance boot_isinstance (za (pv 1) (za (vy (v:=.ty "bool") rfl B.bool Zw rfl) zd))) (zS _)) (we (qZ (zeA hu) (pv 0) (pv 1) (zS _)))))))),?_⟩
  refine⟨_,rfl,v,d.tyN, "list",rfl,l.ty,(by decide),_,rfl,?_⟩
  have sc:yV d.tyN "list" = false->yV d.tyN "tuple" = false->jS v=true/\eqS d v=true:=fun h1 h2=>by
   cases d with
   | lst i=>exact absurd h1 (show ¬yV "list" "list" = false by decide)
   | tup i=>exact absurd h2 (show ¬yV "tuple" "tuple" = false by decide)
   | non=>cases(show v=_ from l);exact⟨rfl,rfl⟩
   | bl b=>cases(show v=_ from l);exact⟨rfl,yO b⟩
   | int b=>cases(show v=_ from l);exact⟨rfl,yO b⟩
   | str b=>cases(show v=_ from l);exact⟨rfl,yO b⟩
  by_cases c:yV d.tyN "list" = false/\yV d.tyN "tuple" = false
  ·obtain⟨fl,e⟩:=sc c.1 c.2
   refine ifF c.1 ⟨_,rfl,v,d.tyN, "tuple",rfl,l.ty,(by decide),_,rfl,ifF c.2 ?_⟩
   refine⟨_,rfl,f,d.tyN, "bool",rfl,J.ty,(by decide),_,rfl,v,d.tyN, "bool",rfl,l.ty,(by decide),rfl,_,rfl,ifT (qk rfl) ⟨_,rfl,_,rfl,d,J,fl,?_⟩⟩
   rw[e];exact kk
  ·have L:∀{i:List Dat} {u:Bool},Dat.ok n (mkQ u i)->∃m,n=m+1/\i.length<=1000000/\∀e∈i,Dat.ok m e:=fun {i u} h=>by
    cases n with
    | zero=>cases u<;>exact(show False from h).elim
    | succ m=>cases u<;>exact⟨m,rfl,h⟩
   cases d with
   | lst i=>
    obtain⟨m,rfl,N,C⟩:=L (u:=false) ok;have D:=J;have G:=l;obtain⟨a,xs,rfl,hx,U⟩:=D;obtain⟨b,ys,rfl,hy,Y⟩:=G;exact ifT rfl ⟨_,rfl,.ref a, "list", "list",rfl,J.ty,(by decide),_,rfl,ifT rfl ⟨_,rfl,_,rfl,false,a,b,xs,ys,i,rfl,hx,hy,U,Y,N,C,k⟩⟩
   | tup i=>
    obtain⟨m,rfl,N,C⟩:=L (u:=true) ok;have D:=J;have G:=l;obtain⟨a,xs,rfl,hx,U⟩:=D;obtain⟨b,ys,rfl,hy,Y⟩:=G;exact ifF rfl ⟨_,rfl,.ref b, "tuple", "tuple",rfl,l.ty,(by decide),_,rfl,ifT rfl ⟨_,rfl,.ref a, "tuple", "tuple",rfl,J.ty,(by decide),_,rfl,ifT rfl ⟨_,rfl,_,rfl,true,a,b,xs,ys,i,rfl,hx,hy,U,Y,N,C,k⟩⟩⟩
   | non=>exact absurd ⟨by decide,by decide⟩ c
   | bl b=>exact absurd ⟨(show yV "bool" "list" = false by decide),(show yV "bool" "tuple" = false by decide)⟩ c
   | int b=>exact absurd ⟨(show yV "int" "list" = false by decide),(show yV "int" "tuple" = false by decide)⟩ c
   | str b=>exact absurd ⟨(show yV "str" "list" = false by decide),(show yV "str" "tuple" = false by decide)⟩ c
def pOf(l:List Ev):List Nat:=l.map Ev.p
theorem vR{b:List Str}{l:List Ev}(h:∀e∈l,e.w∉b):zt b l=[]:=Xv.mpr fun e c=>by rw[wE];exact h e c
theorem zdA{b:List Str}{l:List Ev}(h:∀e∈l,e.w∈b):zt b l=l:=Vo.mpr fun e c=>qk (h e c)
theorem xM{b:List Str}{e:Ev}(h:e.w∈b):zt b [e]=[e]:=zdA fun x hx=>by rw[zR.mp hx];exact h
theorem xS{b:List Str}{e:Ev}(h:e.w∉b):zt b [e]=[]:=vR fun x hx=>by rw[zR.mp hx];exact h
theorem qu(a b:List Ev):pOf (a++b)=pOf a++pOf b:=zM
def rkO(b:List Nat)(i:Int):Nat:=b.idxOf i.toNat
theorem wS{b:List Nat}(i:b.Nodup){k x:Nat}(e:b[k]? =some x):b.idxOf x=k:=by
 obtain⟨h1,h2⟩:=zL.mp e;have c:=zdS (je e);have g:b[b.idxOf x]'c=x:=List.getElem_idxOf c;exact(yQ i).mp (g.trans h2.symm)
theorem va{α:Type}{C:List α->Prop}(h0:C [])(hs:∀l a,C l->C (l++[a])):∀l,C l:=fun l=>by
 have:∀r:List α,C r.reverse:=fun r=>by
  induction r with
  | nil=>exact h0
  | cons a r b=>rw[YT];exact hs _ _ b
 have h:=this l.reverse;rwa[List.reverse_reverse] at h
def zhs(J:Job)(b:List Ev)(p:Nat)(k:Str)(x y:Int):Prop:=(∃c,J.ps[p]? =some c/\k=c.k/\x=c.x/\y=c.y)/\p∉pOf (zt ["laid"] b)/\∀j:Nat,(∃n,1<=n/\Wk (asI J) n (j:Int) (p:Int))->j∈pOf (zt ["laid"] b)
inductive Lies(J:Job):List Ev->Prop
 | nil:Lies J []
 | other (b:List Ev) (e:Ev) (h:Lies J b) (n:e.w ≠ "laid"):Lies J (b++[e])
 | laid (b:List Ev) (p:Nat) (k:Str) (x y:Int) (h:Lies J b) (o:zhs J b p k x y):Lies J (b++[.laid p k x y])
theorem Lies.more{J:Job}{b:List Ev}(h:Lies J b):∀{r:List Ev},(∀e∈r,e.w ≠ "laid")->Lies J (b++r):=fun {r}=>by
 refine va (C:=fun r:List Ev=>(∀e∈r,Ev.w e≠("laid":Str))->Lies J (b++r)) (fun _=>by rw[z7];exact h) (fun l a i c=>?_) r
 rw[<- qx];exact .other _ _ (i fun e g=>c e (qm _ g)) (c a (qE _ qI))
theorem zbS{os L:List Nat}(g:os.Nodup)(s:L.Sublist os):L.Pairwise fun a b=>os.idxOf a<os.idxOf b:=by
 have:os.Pairwise fun a b=>os.idxOf a<os.idxOf b:=by
  rw[zdL];intro i j l m c;rw[wS g (qR l),wS g (qR m)];exact c
 exact this.sublist s
theorem Wk.cl{J:Job}{L:List Nat}(cl:∀p∈J.as,p.2∈L->p.1∈L):∀{n:Nat} {j p:Int},Wk (asI J) n j p->(∃q∈L,p=(q:Nat))->∃q∈L,j=(q:Nat)
 | 0,_,_,w,h=>by rw[show _=_ from w];exact h
 | n+1,j,p,w,h=>by
  obtain⟨m,g,w⟩:=w;obtain⟨q,hq,rfl⟩:=Wk.cl cl w h;obtain⟨e,c,b⟩:=qo.mp g;have e1:(e.1:Int)=j:=congrArg Prod.fst b;have e2:(e.2:Int)=q:=congrArg Prod.snd b;exact⟨e.1,cl e c (by rw[show e.2=q by omega];exact hq),e1.symm⟩
theorem zcd{J:Job}{os L c b:List Nat}{p:Nat}(m:os.Nodup)(s:L.Sublist os)(A:ByOrd os J.as)(B:∀p∈J.as,p.2∈L->p.1∈L)(e:L=c++p::b){j:Nat}(h:∃n,1<=n/\Wk (asI J) n (j:Int) (p:Int)):j∈c:=by
 obtain⟨n,E,w⟩:=h;have C:∀q∈asI J,rkO os q.1<rkO os q.2:=fun q hq=>by
  obtain⟨x,hx,rfl⟩:=qo.mp hq;obtain⟨k,l,i,e1,e2⟩:=A x hx;show os.idxOf ((x.1:Int)).toNat<os.idxOf ((x.2:Int)).toNat;rw[xu,xu,wS m e1,wS m e2];exact i
 have r:=w.rank C;obtain⟨q,hq,eq⟩:=Wk.cl B w ⟨p,by rw[e];simp,rfl⟩
 have g:j=q:=by omega
 subst g;have D:os.idxOf j<os.idxOf p:=by
  have:rkO os (j:Int)+n<=rkO os (p:Int):=r;unfold rkO at this;rw[xu,xu] at this;omega
 have u:=zbS m s;rw[e] at hq u;rcases zP.mp hq with h1 | h1
 ·exact h1
 ·rcases qg.mp h1 with h2 | h2
  ·subst h2;omega
  ·have:=(List.pairwise_cons.mp (List.pairwise_append.mp u).2.1).1 j h2
   omega
theorem TryR.end{J:Job}{C:xb}{p own:Nat}{s:List Bool}{u:List Ev}{n:Nat}{b r:List Ev}(h:TryR J C p own s u n b r):(∀e∈b,e.w ≠ "laid")->(∀e∈r,e.w ≠ "laid")/\((∃f,Ev.picked p f∈r)\/p∈pOf (zt zB r)):=by
 have c:∀{l:List Ev} {x:Ev},(∀e∈l,e.w ≠ "laid")->x.w ≠ "laid" -> ∀e∈l++[x],e.w ≠ "laid" :=fun h1 h2 e A=>by
  rcases zP.mp A with z | z
  ·exact h1 e z
  ·rw[zR.mp z];exact h2
 have m:∀{l:List Ev} {x:Ev},x.w∈zB->x.p∈pOf (zt zB (l++[x])):=fun hx=>by
  rw[zq,xM hx,qu];exact qE _ qI
 induction h with
 | fin b=>exact fun i=>⟨c i (show("failed":Str) ≠ "laid" by decide),.inr (m (x:=.failed p) (show("failed":Str)∈zB by decide))⟩
 | none n b h=>exact fun i=>⟨c i (show("none":Str) ≠ "laid" by decide),.inr (m (x:=.none p) (show("none":Str)∈zB by decide))⟩
 | luck n b f h g=>exact fun i=>⟨c i (show("picked":Str) ≠ "laid" by decide),.inl ⟨f,qE _ qI⟩⟩
 | miss n b f r h g t B=>exact fun i=>B (c i (show("missed":Str) ≠ "laid" by decide))
theorem PksR.end{J:Job}{s:List Bool}{n:Nat}{u:List Ev}{c:List (Nat×Nat)}{r:List Ev}(h:PksR J s n u c r):(∀e∈r,e.w ≠ "laid")/\∀q∈c,(∃f,Ev.picked q.1 f∈r)\/q.1∈pOf (zt zB r):=by
 induction h with
 | nil=>exact⟨(fun e i=>nomatch i),fun q hq=>nomatch hq⟩
 | snoc c A p own G r h e g D=>
  obtain⟨B,C⟩:=D;have l:(∀e∈r,e.w ≠ "laid")/\((∃f,Ev.picked p f∈r)\/p∈pOf (zt zB r)):=by
   rcases g with ⟨_,rfl⟩ | ⟨_,t⟩
   ·refine⟨fun e i=>by rw[zR.mp i];exact(show("behind":Str) ≠ "laid" by decide),.inr ?_⟩
    rw[xM (e:=.behind p) (show("behind":Str)∈zB by decide)]
    exact qI
   ·exact t.end fun e i=>nomatch i
  refine⟨fun x hx=>?_,fun q hq=>?_⟩
  ·rcases zP.mp hx with z | z
   ·exact B x z
   ·exact l.1 x z
  ·rw[zq,qu]
   have E:∀{q:Nat} {a b:List Ev},(∃f,Ev.picked q f∈a)\/q∈pOf (zt zB a)->((∃f,Ev.picked q f∈a++b)\/q∈pOf (zt zB a)++pOf (zt zB b)):=fun h=>h.imp (fun ⟨f,m⟩=>⟨f,qm _ m⟩) fun h=>qm _ h
   rcases zP.mp hq with z | z
   ·exact E (C q z)
   ·rw[zR.mp z]
    exact l.2.imp (fun ⟨f,m⟩=>⟨f,qE _ m⟩) fun h=>qE _ h
structure Done(J:Job)(pre:List Nat)(es:List Ev):Prop where
 ls:Lies J es
 al:∀q∈pre,q∈pOf (zt ["laid"] es)\/q∈pOf (zt zB es)
 inn:∀q∈pOf (zt ["laid"] es),q∈pre
theorem Done.picks{J:Job}{c:List Nat}{g b:List Ev}(d:Done J c g)(h:∀e∈b,e.w ≠ "laid"):Done J c (g++b):=by
 have n:zt ["laid"] b=[]:=vR fun e i z=>h e i (zR.mp z)
 refine⟨d.ls.more h,fun q hq=>?_,fun q hq=>?_⟩
 ·rw[zq,n,z7,zq,qu]
  exact(d.al q hq).imp id fun z=>qm _ z
 ·rw[zq,n,z7] at hq
  exact d.inn q hq
theorem LysR.done{J:Job}{os L pre:List Nat}{A C:List Ev}(nd:os.Nodup)(s:L.Sublist os)(bo:ByOrd os J.as)(cl:∀p∈J.as,p.2∈L->p.1∈L)(d:Done J pre A)(hp:∀e∈C,e.w ≠ "laid"){m:List Nat}{r:List Ev}(h:LysR J A C m r):(∃c,L=pre++m++c)->(∀q∈m,(∃f,Ev.picked q f∈C)\/q∈pOf (zt zB C))->Done J (pre++m) (A++r)/\∃t,r=C++t:=by
 induction h with
 | nil i h=>
  intro _ _;rw[h,z7];exact⟨d.picks hp,[],(z7 _).symm⟩
 | skip m i p h g Q=>
  rintro⟨c,G⟩ hq;obtain⟨u,t,H⟩:=Q ⟨p::c,by rw[G];simp⟩ fun q b=>hq q (qm _ b)
  refine⟨?_,t,H⟩
  rw[<- qx];refine⟨u.ls,fun q b=>?_,fun q b=>qm _ (u.inn q b)⟩
  rcases zP.mp b with z | z
  ·exact u.al q z
  ·rw[zR.mp z]
   rcases hq p (qE _ qI) with ⟨f,hf⟩ | hg
   ·exfalso
    have:((zt ["picked"] C).any fun e=>((e.p:Int)==(p:Int)))=true:=vZ.mpr ⟨_,ji.mpr ⟨hf,qk (show("picked":Str)∈(["picked"]:List Str) by decide)⟩,yO _⟩
    rw[this] at g;cases g
   ·rw[H,zq zB A,zq zB C,qu,qu]
    exact .inr (qE _ (qm _ hg))
 | lay m i p B e h g ep l Q=>
  rintro⟨c,G⟩ hq;obtain⟨u,t,H⟩:=Q ⟨p::c,by rw[G];simp⟩ fun q b=>hq q (qm _ b)
  have D:L=(pre++m)++p::c:=by rw[G];simp
  have E:L.Nodup:=s.nodup nd;have pn:p∉pre++m:=by
   rw[D] at E;exact fun z=>(Zg.mp E).2.2 p z p qI rfl
  rw[<- qx,<- qx];refine⟨?_,t++[e],by rw[H,qx]⟩
  rcases l with ⟨U,rfl⟩ | ⟨U,rfl⟩
  ·have O:(Ev.dropped p).w∈zB:=show("dropped":Str)∈zB by decide
   have N:(Ev.dropped p).w∉(["laid"]:List Str):=show("dropped":Str)∉(["laid"]:List Str) by decide
   refine⟨.other _ _ u.ls (show("dropped":Str) ≠ "laid" by decide),fun q b=>?_,fun q b=>?_⟩
   ·rw[zq _ (A++i),xS N,z7,zq _ (A++i),xM O,qu]
    rcases zP.mp b with z | z
    ·exact(u.al q z).imp id fun z=>qm _ z
    ·rw[zR.mp z]
     exact .inr (qE _ qI)
   ·rw[zq _ (A++i),xS N,z7] at b
    exact qm _ (u.inn q b)
  ·have O:(Ev.laid p B.k B.x B.y).w∈(["laid"]:List Str):=show("laid":Str)∈(["laid"]:List Str) by decide
   have N:(Ev.laid p B.k B.x B.y).w∉zB:=show("laid":Str)∉zB by decide
   refine⟨.laid _ _ _ _ _ u.ls ⟨⟨B,ep,rfl,rfl,rfl⟩,fun z=>pn (u.inn p z),fun j T=>?_⟩,fun q b=>?_,fun q b=>?_⟩
   ·have Y:=zcd nd s bo cl D T
    rcases u.al j Y with z | z
    ·exact z
    ·exfalso
     obtain⟨x,hx,rfl⟩:=qo.mp z;obtain⟨n,n1,w⟩:=T;exact U ⟨x,hx,fun z=>pn (by rw[<- show x.p=p by omega];exact Y),n,w⟩
   ·rw[zq _ (A++i),xM O,qu,zq _ (A++i),xS N,z7]
    rcases zP.mp b with z | z
    ·exact(u.al q z).imp (fun z=>qm _ z) id
    ·rw[zR.mp z]
     exact .inl (qE _ qI)
   ·rw[zq _ (A++i),xM O,qu] at b
    rcases zP.mp b with z | z
    ·exact qm _ (u.inn q z)
    ·rw[zR.mp z]
     exact qE _ qI
theorem RunR.done{J:Job}{os L:List Nat}(N:os.Nodup)(s:L.Sublist os)(A:ByOrd os J.as)(C:∀p∈J.as,p.2∈L->p.1∈L){B:List Bool}{n:Nat}{m:List (List (Nat×Nat)×List Nat)}{u:List Ev}{w:Int}(h:RunR J B n m u w):(∃c,L=m.flatMap (·.2)++c)->(∀t∈m,t.2.Perm (t.1.map (·.1)))->Done J (m.flatMap (·.2)) u:=by
 induction h with
 | nil=>exact fun _ _=>⟨.nil,(fun q hq=>nomatch hq),fun q hq=>nomatch hq⟩
 | snoc Q u w i g r h t H=>
  rintro⟨c,l⟩ hp;rw[ZW] at l ⊢;have e1:[(i,g)].flatMap (·.2)=g:=z7 _
  rw[e1] at l ⊢;have G:=H ⟨g++c,by rw[l,qx]⟩ fun t E=>hp t (qm _ E)
  obtain⟨D,a,b⟩:=t;obtain⟨a1,a2⟩:=a.end;refine(b.done N s A C G a1 ⟨c,l⟩ fun q hq=>?_).1
  have O:g.Perm (i.map (·.1)):=hp (i,g) (qE _ qI)
  obtain⟨x,hx,rfl⟩:=qo.mp (O.mem_iff.mp hq);exact a2 x hx
def xD(p:Nat)(b:List Ev):Nat:=(pOf (zt zw b)).count p
structure zho(J:Job)(n:Nat)(L:List Nat)(pre:List Ev)(e:Ev):Prop where
 g:e.p∉pOf (zt zB pre)
 l:e.p∉pOf (zt ["laid"] pre)
 o:e.p∈L
 t:e.w∈zw->xD e.p pre<n/\e.p∉pOf (zt ["picked"] pre)/\∃fe pa,J.fs[e.f]? =some fe/\J.ps[e.p]? =some pa/\fe.k=pa.k/\((qA pre).count (e.f:Int):Int)<fe.m
 d:e.w=("laid":Str)->e.p∈pOf (zt ["picked"] pre)
inductive Wlk(J:Job)(n:Nat)(L:List Nat):List Ev->Prop
 | nil:Wlk J n L []
 | snoc (b:List Ev) (e:Ev) (h:Wlk J n L b) (o:zho J n L b e):Wlk J n L (b++[e])
theorem Wlk.at{J:Job}{n:Nat}{L:List Nat}{b:List Ev}(h:Wlk J n L b):∀{i:Nat} {e:Ev},b[i]? =some e->zho J n L (b.take i) e:=by
 induction h with
 | nil=>exact fun h=>nomatch h
 | snoc b e h o m=>
  intro i x hx;by_cases c:i<b.length
  ·rw[j9 c] at hx
   rw[Y4 (by omega)]
   exact m hx
  ·have l:=(zL.mp hx).1
   rw[zW] at l;have g:i=b.length:=by
    have:([e]:List Ev).length=1:=rfl;omega
   subst g;rw[xa (zQ _),wY] at hx;cases hx;rw[YJ];exact o
theorem wn{p:Nat}{b:List Str}{l:List Ev}(h:∀e∈l,e.p=p->e.w∉b):p∉pOf (zt b l):=fun z=>by
 obtain⟨e,g,c⟩:=qo.mp z;obtain⟨h1,h2⟩:=ji.mp g;exact h e h1 c (qQ h2)
theorem zch{J:Job}{n:Nat}{L:List Nat}{b:List Ev}{x:Ev}(hx:x.w∉zw)(c:x.w≠("laid":Str))(g:x.p∉pOf (zt zB b))(l:x.p∉pOf (zt ["laid"] b))(o:x.p∈L):zho J n L b x:=⟨g,l,o,fun h=>absurd h hx,fun h=>absurd h c⟩
theorem zcW{J:Job}{i:xb}{c:List Ev}{f:Nat}(h:f∈wb J i c):∃b,J.fs[f]? =some b/\b.k=i.k/\((qA c).count (f:Int):Int)<b.m:=by
 obtain⟨h1,h2⟩:=ji.mp h;obtain⟨l,g⟩:=ji.mp h1;have m:f<J.fs.length:=x5.mp l;have e:J.fs[f]? =some J.fs[f]:=qR m;rw[e] at h2 g;exact⟨_,e,jH (qQ g),qQ h2⟩
theorem wP{p:Nat}{c b:List Ev}(s:∀e∈c,e.p≠p)(m:∀e∈b,∃f,e=.missed p f){g:List Str}(h:("missed":Str)∉g):p∉pOf (zt g (c++b)):=wn fun e l i=>by
 rcases zP.mp l with z | z
 ·exact absurd i (s e z)
 ·obtain⟨f,rfl⟩:=m e z
  exact h
theorem zfe{p:Nat}{b fnd:List Ev}(i:∀e∈b,e.p≠p):xD p (b++fnd)<=fnd.length:=by
 unfold xD;rw[zq,qu,Zf,List.count_eq_zero.mpr (wn fun e g c=>absurd c (i e g)),X9]
 refine jd List.count_le_length ?_
 unfold pOf;rw[zp];exact jt _ _
theorem TryR.wlk{J:Job}{A:xb}{p own:Nat}{B:List Bool}{m:List Ev}{k n:Nat}{L:List Nat}{b r:List Ev}(h:TryR J A p own B m k b r)(D:J.ps[p]? =some A)(hp:p∈L)(s:∀e∈m,e.p≠p):(∀e∈b,∃f,e=.missed p f)->b.length+k<=n->Wlk J n L (m++b)->Wlk J n L (m++r):=by
 have fin:∀{b:List Ev} {x:Ev},x.p=p->x.w∉zw->x.w≠("laid":Str)->(∀e∈b,∃f,e=.missed p f)->Wlk J n L (m++b)->Wlk J n L (m++(b++[x])):=fun i h1 h2 c w=>by
  rw[<- qx];exact .snoc _ _ w (zch h1 h2 (by rw[i];exact wP s c (by decide)) (by rw[i];exact wP s c (by decide)) (by rw[i];exact hp))
 have u:∀{b:List Ev} {x:Ev} {k:Nat},x.p=p->x.f∈wb J A (m++b)->x.w≠("laid":Str)->(∀e∈b,∃f,e=.missed p f)->b.length+(k+1)<=n->Wlk J n L (m++b)->Wlk J n L (m++(b++[x])):=fun {b x k} i N h2 c l w=>by
  rw[<- qx];obtain⟨E,e1,e2,C⟩:=zcW N;refine .snoc _ _ w ⟨by rw[i];exact wP s c (by decide),by rw[i];exact wP s c (by decide),by rw[i];exact hp,fun _=>⟨?_,by rw[i];exact wP s c (by decide),E,A,e1,by rw[i];exact D,e2,C⟩,fun h=>absurd h h2⟩
  rw[i];have:=zfe (fnd:=b) s;omega
 induction h with
 | fin b=>exact fun c _ w=>fin rfl (show("failed":Str)∉zw by decide) (show("failed":Str) ≠ "laid" by decide) c w
 | none n b h=>exact fun c _ w=>fin rfl (show("none":Str)∉zw by decide) (show("none":Str) ≠ "laid" by decide) c w
 | luck n b f h g=>exact fun c l w=>u (x:=.picked p f) rfl (QI h) (show("picked":Str) ≠ "laid" by decide) c l w
 | miss n b f r h g t H=>
  intro c l w;refine H (fun e G=>?_) (by rw[zW];show _+1+n<=_;omega) (u (x:=.missed p f) rfl (QI h) (show("missed":Str) ≠ "laid" by decide) c l w)
  rcases zP.mp G with z | z
  ·exact c e z
  ·exact⟨f,zR.mp z⟩
theorem PickR.wlk{J:Job}{i:xb}{p own:Nat}{l:List Bool}{c:List Ev}{n:Nat}{L:List Nat}{r:List Ev}(h:PickR J i p own l n c r)(m:J.ps[p]? =some i)(hp:p∈L)(g:∀e∈c,e.p≠p)(w:Wlk J n L c):Wlk J n L (c++r)/\(∀e∈r,e.p=p)/\(p∈pOf (zt ["picked"] r)->p∉pOf (zt zB r))/\pOf (zt ["picked"] r)++pOf (zt zB r)=[p]:=by
 refine⟨?_,?_⟩
 ·rcases h with ⟨_,rfl⟩ | ⟨_,t⟩
  ·exact .snoc _ _ w (zch (show("behind":Str)∉zw by decide) (show("behind":Str) ≠ "laid" by decide) (wn fun e b z=>absurd z (g e b)) (wn fun e b z=>absurd z (g e b)) hp)
  ·exact t.wlk m hp g (fun e b=>nomatch b) (by show 0+n<=n;omega) (by rw[z7];exact w)
 ·obtain⟨u,x,rfl,_,k⟩:=h.form
  have s:x.p=p:=by cases k<;>rfl
  refine⟨fun e b=>?_,?_⟩
  ·rcases zP.mp b with z | z
   ·obtain⟨f,_,rfl⟩:=qo.mp z
    rfl
   ·rw[zR.mp z];exact s
  ·rw[zq,zq,xI _ (by decide),xI _ (by decide),vX,vX]
   cases k with
   | picked f=>exact⟨fun _=>wC,rfl⟩
   | behind=>exact⟨fun h=>absurd h wC,rfl⟩
   | none=>exact⟨fun h=>absurd h wC,rfl⟩
   | failed=>exact⟨fun h=>absurd h wC,rfl⟩
theorem PksR.wlk{J:Job}{E:List Bool}{n:Nat}{L:List Nat}{m:List Ev}{c:List (Nat×Nat)}{b:List Ev}(h:PksR J E n m c b)(w:Wlk J n L m):(c.map (·.1)).Nodup->(∀q∈c,q.1∈L)->(∀q∈c,∀e∈m,e.p≠q.1)->Wlk J n L (m++b)/\(∀e∈b,e.p∈c.map (·.1))/\(∀p∈pOf (zt ["picked"] b),p∉pOf (zt zB b))/\(pOf (zt ["picked"] b)++pOf (zt zB b)).Perm (c.map (·.1)):=by
 induction h with
 | nil=>exact fun _ _ _=>⟨by rw[z7];exact w,(fun e G=>nomatch G),(fun p hp=>nomatch hp),.refl _⟩
 | snoc c b p own pa r h e g Q=>
  intro u l D;rw[zM] at u;have A:p∉c.map (·.1):=fun z=>(Zg.mp u).2.2 p z p qI rfl
  obtain⟨H,s,N,O⟩:=Q (Zg.mp u).1 (fun q hq=>l q (qm _ hq)) fun q hq=>D q (qm _ hq)
  obtain⟨T,C,U,Y⟩:=g.wlk e (l (p,own) (qE _ qI)) (fun x hx=>by
   rcases zP.mp hx with z | z
   ·exact D (p,own) (qE _ qI) x z
   ·exact fun y=>A (by rw[<- y];exact s x z)) H
  have i:∀{q:Nat} {B:List Str},q∈pOf (zt B b)->q∈c.map (·.1):=fun hq=>by
   obtain⟨x,hx,rfl⟩:=qo.mp hq;exact s x (ji.mp hx).1
  have inR:∀{q:Nat} {B:List Str},q∈pOf (zt B r)->q=p:=fun hq=>by
   obtain⟨x,hx,rfl⟩:=qo.mp hq;exact C x (ji.mp hx).1
  refine⟨by rw[<- qx];exact T,fun x hx=>?_,fun q hq=>?_,?_⟩
  ·rw[zM]
   rcases zP.mp hx with z | z
   ·exact qm _ (s x z)
   ·exact qE _ (by rw[C x z];exact qI)
  ·rw[zq,qu] at hq ⊢
   intro hg;rcases zP.mp hq with z | z
   ·rcases zP.mp hg with y | y
    ·exact N q z y
    ·exact A (by rw[<- inR y];exact i z)
   ·cases inR z
    rcases zP.mp hg with y | y
    ·exact A (i y)
    ·exact U z y
  ·rw[zq,zq,qu,qu,zM]
   have e1:([(p,own)]:List (Nat×Nat)).map (·.1)=[p]:=rfl
   rw[e1,<- Y];refine List.Perm.trans ?_ (O.append_right _)
   rw[qx,qx];refine Vt _ ?_
   rw[<- qx,<- qx];exact Jq.append_right _
theorem Q3{b:List Ev}{p:Nat}:((zt ["picked"] b).any fun e=>((e.p:Int)==(p:Int)))=true↔p∈pOf (zt ["picked"] b):=by
 rw[vZ];constructor
 ·rintro⟨x,hx,e⟩
  exact qo.mpr ⟨x,hx,by have:=eq_of_beq e;omega⟩
 ·intro h
  obtain⟨x,hx,rfl⟩:=qo.mp h;exact⟨x,hx,yO _⟩
theorem LysR.wlk{J:Job}{n:Nat}{L:List Nat}{C A:List Ev}{b:List Nat}{r:List Ev}(h:LysR J C A b r)(w:Wlk J n L (C++A))(hl:∀e∈A,e.w ≠ "laid")(hg:∀p∈pOf (zt ["picked"] A),p∉pOf (zt zB A)):b.Nodup->(∀p∈b,p∈L)->(∀p∈b,∀e∈C,e.p≠p)->Wlk J n L (C++r)/\∃u,r=A++u/\(∀e∈u,e.p∈b/\e.w∉zw)/\(pOf (zt ["laid"] u)++pOf (zt zB u)).Perm (b.filter fun p=>decide (p∈pOf (zt ["picked"] A))):=by
 induction h with
 | nil i h=>exact fun _ _ _=>⟨by rw[h];exact w,[],by rw[h,z7],(fun e c=>nomatch c),.refl _⟩
 | skip b i p h g U=>
  intro O m N;obtain⟨Q,u,e1,B,T⟩:=U (Zg.mp O).1 (fun q hq=>m q (qm _ hq)) fun q hq=>N q (qm _ hq)
  have np:¬p∈pOf (zt ["picked"] A):=fun z=>by rw[Q3.mpr z] at g;cases g
  refine⟨Q,u,e1,fun e c=>⟨qm _ (B e c).1,(B e c).2⟩,?_⟩
  rw[xW,Q7 (by rw[wE];exact np),ZC,z7]
  exact T
 | lay b i p pa e h g s l U=>
  intro O m N;obtain⟨Q,u,e1,B,T⟩:=U (Zg.mp O).1 (fun q hq=>m q (qm _ hq)) fun q hq=>N q (qm _ hq)
  have hp:=Q3.mp g;have G:p∉b:=fun z=>(Zg.mp O).2.2 p z p qI rfl
  have H:e.p=p:=by rcases l with ⟨_,rfl⟩ | ⟨_,rfl⟩<;>rfl
  have xt:e.w∉zw:=by
   rcases l with ⟨_,rfl⟩ | ⟨_,rfl⟩
   ·exact(show("dropped":Str)∉zw by decide)
   ·exact(show("laid":Str)∉zw by decide)
  have D:p∈L:=m p (qE _ qI);have E:=N p (qE _ qI);have ng:p∉pOf (zt zB (C++i)):=by
   rw[e1,zq,zq,qu,qu];intro z;rcases zP.mp z with z | z
   ·exact wn (fun e c s=>absurd s (E e c)) z
   ·rcases zP.mp z with z | z
    ·exact hg p hp z
    ·exact wn (fun e c s=>absurd (by rw[<- s];exact(B e c).1) G) z
  have nl:p∉pOf (zt ["laid"] (C++i)):=by
   rw[e1,zq,zq,qu,qu];intro z;rcases zP.mp z with z | z
   ·exact wn (fun e c s=>absurd s (E e c)) z
   ·rcases zP.mp z with z | z
    ·exact wn (fun e c _ y=>hl e c (zR.mp y)) z
    ·exact wn (fun e c s=>absurd (by rw[<- s];exact(B e c).1) G) z
  refine⟨?_,u++[e],by rw[e1,qx],fun x hx=>?_,?_⟩
  ·rw[<- qx]
   refine .snoc _ _ Q ⟨by rw[H];exact ng,by rw[H];exact nl,by rw[H];exact D,fun z=>absurd z xt,fun _=>?_⟩
   rw[H,e1,zq,zq,qu,qu];exact qE _ (qm _ hp)
  ·rcases zP.mp hx with z | z
   ·exact⟨qm _ (B x z).1,(B x z).2⟩
   ·rw[zR.mp z,H]
    exact⟨qE _ qI,xt⟩
  ·rw[xW,Xx (by rw[wE];exact hp),ZC,zq,zq,qu,qu]
   refine List.Perm.trans ?_ (T.append_right _)
   have Y:pOf (zt ["laid"] [e])++pOf (zt zB [e])=[p]:=by
    rcases l with ⟨_,rfl⟩ | ⟨_,rfl⟩<;>rfl
   rw[<- Y,qx,qx];refine Vt _ ?_
   rw[<- qx,<- qx];exact Jq.append_right _
def wM(J:Job)(b:List Ev):List (Int×Int):=b.flatMap fun e=>(if e.w∈zw then [Z8 J e.f] else [])++if e.w=("laid":Str) then [e.xy] else []
def y9(J:Job)(b:List Ev):Int:=(xh (([(J.gx,J.gy)]++wM J b)++[(J.gx,J.gy)])).sum
theorem Wg(J:Job)(a b:List Ev):wM J (a++b)=wM J a++wM J b:=ZW
theorem QB{J:Job}:∀{l:List Ev},(∀e∈l,e.w ≠ "laid")->wM J l=(zt zw l).map fun e=>Z8 J e.f
 | [],_=>rfl
 | e::l,h=>by
  show((if e.w∈zw then [Z8 J e.f] else [])++if e.w=("laid":Str) then [e.xy] else [])++wM J l=_
  rw[QB fun x hx=>h x (jA _ hx),zo (h e qI),z7]
  show _=(zt zw ([e]++l)).map _;rw[zq,zM,vQ];by_cases c:e.w∈zw
  ·rw[zu c,zu (qk c)];rfl
  ·rw[zo c,zo (fun z=>c (qQ z))];rfl
theorem JZ{J:Job}:∀{l:List Ev},(∀e∈l,e.w∉zw)->wM J l=(zt ["laid"] l).map Ev.xy
 | [],_=>rfl
 | e::l,h=>by
  show((if e.w∈zw then [Z8 J e.f] else [])++if e.w=("laid":Str) then [e.xy] else [])++wM J l=_
  rw[JZ fun x hx=>h x (jA _ hx),zo (h e qI),vX]
  show _=(zt ["laid"] ([e]++l)).map _;rw[zq,zM,vQ];by_cases c:e.w=("laid":Str)
  ·rw[zu c,zu (qk (zR.mpr c))];rfl
  ·rw[zo c,zo (fun z=>c (zR.mp (qQ z)))];rfl
def ofP(l:List Nat)(b:List Ev):List Ev:=b.filter fun e=>decide (e.p∈l)
theorem zeW{l:List Nat}{b:List Ev}(h:∀e∈b,e.p∈l):ofP l b=b:=Vo.mpr fun e c=>qk (h e c)
theorem Wn{l:List Nat}{es:List Ev}(h:∀e∈es,e.p∉l):ofP l es=[]:=Xv.mpr fun e b=>by rw[wE];exact h e b
theorem XM(l:List Nat)(a b:List Ev):ofP l (a++b)=ofP l a++ofP l b:=xW ..
structure ziD(J:Job)(n:Nat)(L:List Nat)(ts:List (List (Nat×Nat)×List Nat))(es:List Ev)(w:Int):Prop where
 wk:Wlk J n L es
 pt:∀e∈es,e.p∈X6 ts
 pm:(pOf (zt ["laid"] es)++pOf (zt zB es)).Perm (X6 ts)
 far:w=(ts.map fun t=>y9 J (ofP t.2 es)).sum
theorem RunR.wlk{J:Job}{U:List Bool}{n:Nat}{L:List Nat}{A:List (List (Nat×Nat)×List Nat)}{m:List Ev}{w:Int}(h:RunR J U n A m w):(X6 A).Nodup->(∀t∈A,t.2.Perm (t.1.map (·.1)))->(∀p∈X6 A,p∈L)->ziD J n L A m w:=by
 induction h with
 | nil=>exact fun _ _ _=>⟨.nil,(fun e g=>nomatch g),.refl _,rfl⟩
 | snoc A m w C l r h t ih=>
  intro Q T s;rw[Zx] at Q s;obtain⟨Y,N,O⟩:=Zg.mp Q;have i:=ih Y (fun t E=>T t (qm _ E)) fun p hp=>s p (qm _ hp)
  have B:l.Perm (C.map (·.1)):=T (C,l) (qE _ qI)
  have G:∀p∈l,∀e∈m,e.p≠p:=fun p hp e g z=>O _ (i.pt e g) p hp z
  obtain⟨c,a,b⟩:=t;obtain⟨a1,a2,a3,a4⟩:=a.wlk i.wk (B.nodup_iff.mp N) (fun q hq=>s _ (qE _ (B.mem_iff.mpr (qo.mpr ⟨q,hq,rfl⟩)))) fun q hq=>G _ (B.mem_iff.mpr (qo.mpr ⟨q,hq,rfl⟩))
  have D:=a.end.1;obtain⟨b1,u,rfl,b2,b3⟩:=b.wlk a1 D a3 N (fun p hp=>s p (qE _ hp)) G
  have H:∀e∈c++u,e.p∈l:=fun e g=>by
   rcases zP.mp g with z | z
   ·exact B.mem_iff.mpr (a2 e z)
   ·exact(b2 e z).1
  refine⟨b1,fun e g=>?_,?_,?_⟩
  ·rw[Zx]
   rcases zP.mp g with z | z
   ·exact qm _ (i.pt e z)
   ·exact qE _ (H e z)
  ·have nl:zt ["laid"] c=[]:=vR fun e g z=>D e g (zR.mp z)
   have tr:(pOf (zt ["laid"] (c++u))++pOf (zt zB (c++u))).Perm l:=by
    rw[zq,zq,nl,vX,qu];have f1:(l.filter fun p=>decide (p∈pOf (zt ["picked"] c))).Perm (pOf (zt ["picked"] c)):=by
     refine((B.trans a4.symm).filter _).trans ?_
     rw[xW,Vo.mpr fun p hp=>qk hp,Xv.mpr,z7]
     intro p hp z;exact a3 p (qQ z) hp
    refine List.Perm.trans ?_ (a4.trans B.symm)
    refine List.Perm.trans ?_ ((b3.trans f1).append_right _)
    rw[qx];exact Vt _ Jq
   rw[Zx,zq _ m,zq _ m,qu,qu];refine List.Perm.trans ?_ (i.pm.append tr)
   rw[qx,qx];refine Vt _ ?_
   rw[<- qx,<- qx];exact Jq.append_right _
  ·rw[zM,YM]
   have e1:y9 J (ofP l (m++(c++u)))=(xh (Qu J (c++u))).sum:=by
    rw[XM,Wn fun e g z=>G _ z e g rfl,zeW H,vX]
    unfold y9 Qu;have t1:zt zw u=[]:=vR fun e g=>(b2 e g).2
    have t2:zt ["laid"] c=[]:=vR fun e g z=>D e g (zR.mp z)
    rw[Wg,QB D,JZ fun e g=>(b2 e g).2,zq,zq,t1,t2,z7,vX]
    simp only[qx]
   have e2:(A.map fun t=>y9 J (ofP t.2 (m++(c++u))))=A.map fun t=>y9 J (ofP t.2 m):=List.map_congr_left fun t E=>by
    rw[XM,Wn (es:=c++u) fun e g z=>O _ (List.mem_flatMap.mpr ⟨t,E,z⟩) _ (H e g) rfl,z7]
   rw[e2,<- i.far];show _=w+(y9 J (ofP l (m++(c++u)))+0);rw[e1];omega
theorem JobOk.jsm{J:Job}{c:List Nat}(b:JobOk J c):JSm J:=by
 refine⟨b.pl,jd b.fl (by decide),fun q hq=>?_,b.al⟩
 unfold asI at hq;obtain⟨p,hp,rfl⟩:=qo.mp hq;obtain⟨k,l,_,e1,e2⟩:=b.bo p hp;have h1:=x5.mp (b.op.mem_iff.mp (je e1));have h2:=x5.mp (b.op.mem_iff.mp (je e2));exact⟨⟨by show(0:Int)<=(p.1:Int);omega,by show(p.1:Int)<_;omega⟩,⟨by show(0:Int)<=(p.2:Int);omega,by show(p.2:Int)<_;omega⟩⟩
theorem JobOk.jin{J:Job}{c:List Nat}(b:JobOk J c):JIn J:=⟨b.gate,fun f g=>(b.fa f g).2.1,fun p hp=>(b.pa p hp).2.1⟩
theorem yf{a b:List Int}(p:a.Perm b)(c:a.Pairwise (·<= ·))(hb:b.Pairwise (·<= ·)):a=b:=p.eq_of_pairwise (fun _ _ _ _ h1 h2=>Int.le_antisymm h1 h2) c hb
def prT(t:qV):List (Nat×Nat)×List Nat:=(t.pk,t.ly)
theorem zbi(b:List qV):WV (b.map prT)=vd b:=by
 induction b with
 | nil=>rfl
 | cons t b c=>show t.pk++WV (b.map prT)=t.pk++vd b;rw[c]
theorem zc1{J:Job}(b:List qV):(∀t∈b,Ju J t)->(zX b).Perm ((vd b).map (·.1)):=by
 induction b with
 | nil=>exact fun _=>.refl _
 | cons t b c=>
  intro h;show(t.ly++zX b).Perm ((t.pk++vd b).map (·.1))
  rw[zM];exact(h t qI).ly.append (c fun x hx=>h x (jA _ hx))
theorem Qf{os:List Nat}{n:Nat}{b:List qV}(c:os.Perm (List.range n))(s:(zX b).Sublist os):(zX b).Nodup:=(c.nodup_iff.mpr ZS).sublist s
theorem zfY{b:List qV}(h:(zX b).Nodup):∀t∈b,t.ly.Nodup:=(List.pairwise_flatMap.mp h).1
def Zp(b:List Ev)(g c:List Int)(w:Int):Dat:=.tup [.lst (b.map evD),.lst (g.map Dat.int),.lst (c.map Dat.int),.int w]
theorem ziA(e:Ev):Dat.ok 2 (evD e):=by
 refine⟨?_,fun d hd=>?_⟩
 ·cases e<;>exact YW rfl
 ·rcases qg.mp hd with rfl | hd
  ·trivial
  ·rcases qg.mp hd with rfl | hd
   ·trivial
   ·cases e with
    | laid p k x y=>
     rcases qg.mp hd with rfl | hd
     ·trivial
     ·cases zR.mp hd
      refine⟨YW rfl,fun d hd=>?_⟩
      rcases qg.mp hd with rfl | hd
      ·trivial
      ·cases zR.mp hd;trivial
    | picked p f=>cases zR.mp hd;trivial
    | missed p f=>cases zR.mp hd;trivial
    | behind p=>cases hd
    | none p=>cases hd
    | failed p=>cases hd
    | dropped p=>cases hd
theorem zaZ{l:List Int}(h:l.length<=1000000):Dat.ok 3 (.lst (l.map Dat.int)):=⟨by rw[zp];exact h,fun d hd=>by
 obtain⟨z,_,rfl⟩:=qo.mp hd;trivial⟩
theorem zgp{b:List Ev}{g c:List Int}{w:Int}(h1:b.length<=1000000)(h2:g.length<=1000000)(i:c.length<=1000000):Dat.ok 4 (Zp b g c w):=by
 refine⟨by show 4<=1000000;decide,fun d hd=>?_⟩
 rcases qg.mp hd with rfl | hd
 ·refine⟨by rw[zp];exact h1,fun d hd=>?_⟩
  obtain⟨e,_,rfl⟩:=qo.mp hd;exact ziA e
 ·rcases qg.mp hd with rfl | hd
  ·exact zaZ h2
  ·rcases qg.mp hd with rfl | hd
   ·exact zaZ i
   ·cases zR.mp hd;trivial
structure RunAt(J:Job)(bs:List Bool)(m:Nat)(ts:List qV)(es:List Ev)(w:Int)(ls gs:List Int):Prop where
 run:RunR J bs m (ts.map prT) es w
 pl:ls.Perm ((zt ["laid"] es).map fun e=>(e.p:Int))
 wl:ls.Pairwise (·<= ·)
 pg:gs.Perm ((zt zB es).map fun e=>(e.p:Int))
 wg:gs.Pairwise (·<= ·)
 el:es.length<=5000
theorem RunAt.same{J:Job}{u bs':List Bool}{m:Nat}{C:List qV}{l c:List Ev}{w D:Int}{B i A g:List Int}(a:RunAt J u m C l w B A)(b:RunAt J bs' m C c D i g)(h:∀s,s<spent l->yi u s=yi bs' s):Zp c i g D=Zp l B A w:=by
 obtain⟨rfl,rfl⟩:=a.run.same b.run h;rw[yf (b.pl.trans a.pl.symm) b.wl a.wl,yf (b.pg.trans a.pg.symm) b.wg a.wg]
structure CaseOk(J:Job)(ts:List qV):Prop where
 jo:∃ord,JobOk J ord
 po:∃os:List Nat,os.Perm (List.range J.ps.length)/\ByOrd os J.as/\Y7 J os ts
theorem CaseOk.few{J:Job}{b:List qV}(c:CaseOk J b):(zX b).length<=60/\(vd b).length<=60:=by
 obtain⟨m,l⟩:=c.jo;obtain⟨os,s,_,g⟩:=c.po;have h1:=g.sub.length_le;have h2:=s.length_eq;have i:=(zc1 b g.tr).length_eq;rw[xV] at h2;rw[zp] at i;have:=l.pl;exact⟨by omega,by omega⟩
theorem yW{α:Type}{f:α->Dat}:∀{l:List α},(∀a∈l,(f a).shw=true)->Dat.shws (l.map f)=true
 | [],_=>rfl
 | a::l,h=>by
  show((f a).shw&&Dat.shws (l.map f))=true;rw[h a (by simp),yW fun b hb=>h b (jA _ hb)]
  rfl
theorem Q0{α:Type}{f:α->Dat}{c:Nat}:∀{l:List α},(∀a∈l,(f a).blk<=c)->Dat.blks (l.map f)<=(c+1)*l.length
 | [],_=>qX _
 | a::l,h=>by
  show(f a).blk+1+Dat.blks (l.map f)<=_;have h1:=h a (by simp)
  have h2:=Q0 (f:=f) (c:=c) (l:=l) fun b hb=>h b (jA _ hb)
  rw[jU,Nat.mul_succ];omega
theorem Za{α:Type}{f:α->Dat}{c:Nat}(h:∀a,(f a).py.depth<=c):∀l:List α,PyData.depthAll (Dat.pys (l.map f))<=c
 | []=>qX _
 | a::l=>by
  have h1:=h a;have h2:=Za h l;show max (PyData.depth (f a).py) (PyData.depthAll (Dat.pys (l.map f)))<=c;omega
theorem wv{i:Int}(h:-1000000<=i)(b:i<=1000000):Dat.shw (.int i)=true:=qk (by omega)
theorem zgZ{x:Str}(h:Nm x):Dat.shw (.str x)=true:=xB.mpr fun c hc=>qk (h.2 c hc)
theorem zg0{x:Str}(h:Nm x):Dat.blk (.str x)<=8:=h.1
theorem zgz{x y:Int}(h:inP x y):Dat.shw (.tup [.int x,.int y])=true:=by
 unfold inP at h;show(Dat.shw (.int x)&&(Dat.shw (.int y)&&true))=true;rw[wv (by omega) (by omega),wv (by omega) (by omega)]
 rfl
theorem zgk{J:Job}{s:List Bool}{m:Nat}{l:List qV}{b:List Ev}{w:Int}{i g:List Int}(c:CaseOk J l)(r:RunAt J s m l b w i g):Dat.ok 4 (Zp b i g w):=by
 obtain⟨os,D,_,E⟩:=c.po;have G:=(r.run.counts fun t B=>by
  obtain⟨x,hx,rfl⟩:=qo.mp B;exact zfY (Qf D E.sub) x hx).1
 rw[zbi] at G;have u:=c.few.2;have C:=r.pl.length_eq;have A:=r.pg.length_eq;have H:=r.el;rw[zp] at C A;exact zgp (by omega) (by omega) (by omega)
def EvG(J:Job)(e:Ev):Prop:=e.p<J.ps.length/\(∀p k x y,e=.laid p k x y->∃b∈J.ps,k=b.k)
theorem TryR.gd{J:Job}{B:xb}{p own:Nat}{m:List Bool}{s:List Ev}{n:Nat}{b r:List Ev}(h:TryR J B p own m s n b r)(hp:p<J.ps.length):(∀e∈b,EvG J e)->∀e∈r,EvG J e:=by
 have c:∀{l:List Ev} {x:Ev},(∀e∈l,EvG J e)->EvG J x->∀e∈l++[x],EvG J e:=fun h1 h2 e u=>by
  rcases zP.mp u with z | z
  ·exact h1 e z
  ·rw[zR.mp z];exact h2
 induction h with
 | fin b=>exact fun i=>c i ⟨hp,fun _ _ _ _ z=>nomatch z⟩
 | none n b h=>exact fun i=>c i ⟨hp,fun _ _ _ _ z=>nomatch z⟩
 | luck n b f h g=>exact fun i=>c i ⟨hp,fun _ _ _ _ z=>nomatch z⟩
 | miss n b f r h g t A=>exact fun i=>A (c i ⟨hp,fun _ _ _ _ z=>nomatch z⟩)
theorem PksR.gd{J:Job}{i:List Bool}{n:Nat}{l:List Ev}{b:List (Nat×Nat)}{r:List Ev}(h:PksR J i n l b r):∀e∈r,EvG J e:=by
 induction h with
 | nil=>exact fun e c=>nomatch c
 | snoc b m p own u r h e g s=>
  have hp:=(zL.mp e).1;intro x hx;rcases zP.mp hx with z | z
  ·exact s x z
  ·rcases g with ⟨_,rfl⟩ | ⟨_,t⟩
   ·rw[zR.mp z];exact⟨hp,fun _ _ _ _ z=>nomatch z⟩
   ·exact t.gd hp (fun e c=>nomatch c) x z
theorem LysR.gd{J:Job}{u s:List Ev}{b:List Nat}{r:List Ev}(h:LysR J u s b r)(hp:∀e∈s,EvG J e):∀e∈r,EvG J e:=by
 induction h with
 | nil c h=>rw[h];exact hp
 | skip b c p h g i=>exact i
 | lay b c p A e h g m l i=>
  have hp:=(zL.mp m).1;intro x hx;rcases zP.mp hx with z | z
  ·exact i x z
  ·rw[zR.mp z]
   rcases l with ⟨_,rfl⟩ | ⟨_,rfl⟩
   ·exact⟨hp,fun _ _ _ _ z=>nomatch z⟩
   ·exact⟨hp,fun q k x y z=>by cases z;exact⟨A,je m,rfl⟩⟩
theorem RunR.gd{J:Job}(g:JIn J){s:List Bool}{n:Nat}{i:List (List (Nat×Nat)×List Nat)}{c:List Ev}{w:Int}(h:RunR J s n i c w):(∀e∈c,EvG J e/\vt J e)/\0<=w/\w<=1000*(2*(i.length:Int)+2*(c.length:Int)):=by
 induction h with
 | nil=>exact⟨(fun e l=>nomatch l),X7 _,(by show(0:Int)<=1000*(2*((0:Nat):Int)+2*((0:Nat):Int));decide)⟩
 | snoc i c w D C r h t B=>
  obtain⟨A,E,G⟩:=B;have ok:=t.ok g;have L:=zcn (m:=1000) (Qa (zaJ g ok));have H:(xh (Qu J r)).length<=1+2*r.length:=by
   have h1:(zt zw r).length<=r.length:=jt _ _;have h2:(zt ["laid"] r).length<=r.length:=jt _ _;rw[xQ];unfold Qu;simp only[zW,zp,jU,Ji];omega
  refine⟨fun e l=>?_,by omega,by rw[zW,zW];show _<=1000*(2*((i.length+1:Nat):Int)+2*((c.length+r.length:Nat):Int));omega⟩
  rcases zP.mp l with z | z
  ·exact A e z
  ·obtain⟨u,a,b⟩:=t
   exact⟨b.gd a.gd e z,ok e z⟩
theorem zhg(e:Ev):(evD e).py.depth<=3:=by
 cases e<;>simp[evD,Ev.w,Ev.p,Ev.r,Dat.py,Dat.pys,PyData.depth,PyData.depthAll]
theorem zdz{J:Job}{s:List Nat}(m:JobOk J s){e:Ev}(h:EvG J e)(o:vt J e):(evD e).shw=true/\(evD e).blk<=50:=by
 have G:=m.pl;have C:=m.fl;obtain⟨h1,h2⟩:=h;have b:∀{w:Str} {p:Nat},p<J.ps.length->(Dat.shw (.str w)=true/\Dat.blk (.str w)<=20)->Dat.shw (.tup [.str w,.int (p:Int)])=true/\Dat.blk (.tup [.str w,.int (p:Int)])<=50:=fun {w p} hp c=>by
  refine⟨?_,?_⟩
  ·show(Dat.shw (.str _)&&(Dat.shw (.int _)&&true))=true
   rw[c.1,wv (by omega) (by omega)]
   rfl
  ·show Dat.blk (.str w)+1+(0+1+0)<=50
   have:=c.2;omega
 have g:∀{w:Str} {p f:Nat},p<J.ps.length->f<J.fs.length->(Dat.shw (.str w)=true/\Dat.blk (.str w)<=20)->Dat.shw (.tup [.str w,.int (p:Int),.int (f:Int)])=true/\Dat.blk (.tup [.str w,.int (p:Int),.int (f:Int)])<=50:=fun {w p f} hp D c=>by
  refine⟨?_,?_⟩
  ·show(Dat.shw (.str _)&&(Dat.shw (.int _)&&(Dat.shw (.int _)&&true)))=true
   rw[c.1,wv (by omega) (by omega),wv (by omega) (by omega)]
   rfl
  ·show Dat.blk (.str w)+1+(0+1+(0+1+0))<=50
   have:=c.2;omega
 cases e with
 | picked p f=>exact g h1 (o.tr (show("picked":Str)∈zw by decide)) ⟨(show Dat.shw (.str "picked")=true by decide),(show Dat.blk (.str "picked")<=20 by decide)⟩
 | missed p f=>exact g h1 (o.tr (show("missed":Str)∈zw by decide)) ⟨(show Dat.shw (.str "missed")=true by decide),(show Dat.blk (.str "missed")<=20 by decide)⟩
 | behind p=>exact b h1 ⟨(show Dat.shw (.str "behind")=true by decide),(show Dat.blk (.str "behind")<=20 by decide)⟩
 | none p=>exact b h1 ⟨(show Dat.shw (.str "none")=true by decide),(show Dat.blk (.str "none")<=20 by decide)⟩
 | failed p=>exact b h1 ⟨(show Dat.shw (.str "failed")=true by decide),(show Dat.blk (.str "failed")<=20 by decide)⟩
 | dropped p=>exact b h1 ⟨(show Dat.shw (.str "dropped")=true by decide),(show Dat.blk (.str "dropped")<=20 by decide)⟩
 | laid p k x y=>
  obtain⟨u,l,rfl⟩:=h2 p k x y rfl;have B:=o.ly;have A:=(m.pa u l).1;have E:=zg0 A;have hp:p<J.ps.length:=h1;refine⟨?_,?_⟩
  ·show(Dat.shw (.str "laid")&&(Dat.shw (.int (p:Int))&&(Dat.shw (.str u.k)&&(Dat.shw (.tup [.int x,.int y])&&true))))=true
   rw[zgZ A,wv (i:=(p:Int)) (by omega) (by omega),zgz (x:=x) (y:=y) B]
   decide
  ·show 4+1+(0+1+(Dat.blk (.str u.k)+1+(0+1+(0+1+0)+1+0)))<=50
   omega
theorem zed{J:Job}{E:List Bool}{m:Nat}{D:List qV}{b:List Ev}{w:Int}{i g:List Int}(c:CaseOk J D)(r:RunAt J E m D b w i g):(Zp b i g w).shw=true/\(Zp b i g w).blk<=1048576/\(Zp b i g w).py.depth<=60:=by
 obtain⟨Q,A⟩:=c.jo;obtain⟨os,pm,_,T⟩:=c.po;obtain⟨u,g2,G⟩:=r.run.gd A.jin;have Y:=r.el;have tl:=T.len;rw[zp] at G;have O:=r.pl.length_eq;have H:=r.pg.length_eq;rw[zp] at O H;have l2:(zt ["laid"] b).length<=b.length:=jt _ _;have l3:(zt zB b).length<=b.length:=jt _ _;have C:=A.pl;have inP:∀{U:List Str} {l:List Int},l.Perm ((zt U b).map fun e=>(e.p:Int))->∀z∈l,Dat.shw (.int z)=true:=fun h z N=>by
  obtain⟨e,s,rfl⟩:=qo.mp (h.mem_iff.mp N);have:=(u e (ji.mp s).1).1.1;exact wv (by omega) (by omega)
 have B:∀l:List Int,Dat.blks (l.map Dat.int)<=(0+1)*l.length:=fun l=>Q0 (f:=Dat.int) (c:=0) fun _ _=>zQ _
 refine⟨?_,?_,?_⟩
 ·show(Dat.shws (b.map evD)&&(Dat.shws (i.map Dat.int)&&(Dat.shws (g.map Dat.int)&&(Dat.shw (.int w)&&true))))=true
  rw[yW fun e s=>(zdz A (u e s).1 (u e s).2).1,yW (inP r.pl),yW (inP r.pg),show Dat.shw (.int w)=true from qk (by omega)]
  rfl
 ·have h1:=Q0 (f:=evD) (c:=50) (l:=b) fun e s=>(zdz A (u e s).1 (u e s).2).2
  have h2:=B i;have L:=B g;show Dat.blks (b.map evD)+1+(Dat.blks (i.map Dat.int)+1+(Dat.blks (g.map Dat.int)+1+(0+1+0)))<=1048576;omega
 ·have h1:=Za (f:=evD) (c:=3) zhg b
  have h2:=Za (f:=Dat.int) (c:=1) (fun p=>by show PyData.depth (.int p)<=1;simp[PyData.depth]) i
  have L:=Za (f:=Dat.int) (c:=1) (fun p=>by show PyData.depth (.int p)<=1;simp[PyData.depth]) g
  show PyData.depth (.tuple [.list (Dat.pys (b.map evD)),.list (Dat.pys (i.map Dat.int)),.list (Dat.pys (g.map Dat.int)),.int w])<=60;simp only[PyData.depth,PyData.depthAll];omega
theorem CaseAt.same{H b:Hp}{i u l:Addr}{J:Job}{A:List qV}{g:List Bool}{m:Nat}(c:CaseAt K H i u l J A g m)(s:Same H b):CaseAt K b i u l J A g m:=by
 obtain⟨B,h1,h2⟩:=c.rp;exact⟨c.rj.same s,c.jo,⟨B,s _ _ h1,h2.same s⟩,c.po,s _ _ c.hl,c.bl,c.m1,c.m5⟩
theorem CaseAt.ok{H:Hp}{i s l:Addr}{J:Job}{b:List qV}{g:List Bool}{m:Nat}(c:CaseAt K H i s l J b g m):CaseOk J b:=⟨c.jo,c.po⟩
theorem Qw{H:Hp}:∀l:List Int,Reps K H (l.map Dat.int) (l.map V.int)
 | []=>rfl
 | z::l=>⟨_,_,rfl,rfl,Qw l⟩
theorem Qd{H:Hp}{T c a b:Addr}{l:List Ev}{w:Int}{i g:List Int}(m:H T=some (.tup [.ref c,.ref a,.ref b,.int w]))(u:Evs K H c l)(s:H a=some (.lst (i.map V.int)))(hb:H b=some (.lst (g.map V.int))):Rep K H (Zp l i g w) (.ref T):=by
 obtain⟨A,h1,h2⟩:=u;exact⟨T,_,rfl,u8 m,_,_,rfl,⟨c,A,rfl,u7 h1,h2⟩,_,_,rfl,⟨a,_,rfl,u7 s,Qw i⟩,_,_,rfl,⟨b,_,rfl,u7 hb,Qw g⟩,_,_,rfl,rfl,rfl⟩
theorem wU{H:Hp}{O G lk u:Addr}{J:Job}{Y:List qV}{bs bs':List Bool}{m n:Nat}{Q:VK}{E:XK}(c:CaseAt K H O G lk J Y bs m)(hk:SqL K H u (bs'.map V.bl))(n5:n<=5)(k:∀(T l a b:Addr) (B:List Ev) (w:Int) (D C:List Int) i,Same H i->i T=some (.tup [.ref l,.ref a,.ref b,.int w])->Evs K i l B->i a=some (.lst (D.map V.int))->i b=some (.lst (C.map V.int))->RunAt J bs' n Y B w D C->H l=none->H a=none->H b=none->H T=none->l≠a->l≠b->a≠b->Q (.ref T) i):Qp K [.ref O,.ref G,.ref u,.int (n:Int)] H Q E:=by
 obtain⟨a0,N⟩:=c.jo;obtain⟨os,pm,_,U⟩:=c.po;obtain⟨tr,h1,h2⟩:=c.rp;have nd:=Qf pm U.sub;have hd:=N.hd1;refine⟨O,G,u,J,Y.map prT,bs',n,rfl,c.rj,N.jsm,N.jin,⟨G,tr,rfl,u7 h1,?_⟩,by rw[zp];exact U.len,by rw[zbi];exact c.ok.few.2,fun t L=>?_,fun t L=>?_,hk,jd n5 (by decide),fun T l a b B w D C i s hT he ha hb p1 p2 p3 p4 el r=>k T l a b B w D C i s hT he ha hb ⟨r,p1,p2,p3,p4,el⟩⟩
 ·rw[xA]
  exact h2
 ·obtain⟨x,hx,rfl⟩:=qo.mp L
  exact zfY nd x hx
 ·obtain⟨x,hx,rfl⟩:=qo.mp L
  have g:=U.tr x hx;have tl:=g.ly.length_eq;rw[zp] at tl;have p2:=g.p2;have A:∀q∈x.pk,q.1<J.ps.length:=fun q hq=>by
   obtain⟨pa,_,ep,_⟩:=g.ok q hq;exact(zL.mp ep).1
  refine⟨show x.pk.length<=4 by omega,show x.ly.length<=4 by omega,A,fun q hq=>?_⟩
  obtain⟨p,hp,rfl⟩:=qo.mp (g.ly.mem_iff.mp hq);exact A p hp
theorem WK(x y:V)(r:List V):jE (x::y::r) (some 2) none=r:=by
 unfold jE;rw[show(some (2:Int))=some ((2:Nat):Int) from rfl,HT.sIx_nat,HT.sIx_none]
 have:min 2 (x::y::r).length=2:=by simp only[jU];omega
 rw[this];simp
def W0(n:Nat)(os:List Nat):Bool:=(List.range n).all fun p=>decide (p∈os)
theorem zbT(b:List qV)(i:Nat):(zX (b.take i)).length<=(zX b).length:=by
 have:zX b=zX (b.take i)++zX (b.drop i):=by
  unfold zX;rw[<- ZW,List.take_append_drop]
 rw[this,zW];omega
theorem VI{H:Hp}{t:qV}{i:Addr}(h:Rep K H (vH t) (.ref i)):∃a c b g,SqT K H i [.ref a,.ref c]/\SqT K H a b/\Reps K H (t.pk.map xZ) b/\SqT K H c g/\Reps K H (t.ly.map Yt) g:=by
 obtain⟨a,O,e,q,L,J,l,u,N,D,m,A,s⟩:=h;cases e;subst l m;cases(show D=[] from s)
 obtain⟨a,b,rfl,B,E⟩:=u;obtain⟨c,g,rfl,C,G⟩:=A;exact⟨a,c,b,g,q,B,E,C,G⟩
theorem QJ{H:Hp}:∀{l:List Nat} {b:List V},Reps K H (l.map Yt) b->b=zE l
 | [],_,h=>h
 | k::l,_,h=>by
  obtain⟨v,r,e,h1,h2⟩:=h;subst e;rw[QJ h2,show v=_ from h1]
  rfl
inductive zao(K:W.Frag)(m:List V)(H:Hp)(Q:VK):Prop
 | mk (g:Addr) (c:List qV) (i:List V) (_:m=[.ref g]) (_:H g=some (.lst i)) (_:Reps K H (c.map vH) i) (_:(zX c).length<=1000) (_:∀(l:Addr) b,H l=none->Same H b->b l=some (.lst (zE (zX c)))->Q (.ref l) b):zao K m H Q
def JU(K:W.Frag):Sp:=fun b H Q _=>zao K b H Q
theorem zfD:zD ["plan"] ["plan"] (zr (topL 32)):=u5
theorem zgN{f:Addr}{Y:FuncData}(F:Fun K "order_of" "order_of" (topL 32) f Y)(B:Blt M):FnOk P w K M I CX0 1 f Y ["plan"] (JU K):=by
 have nd:=zfD.nd;refine F.ok zfD (fun vs H Q E h=>?_) (fun aa A L s H vs Q E hr h=>?_)
 ·obtain⟨N,c,O,rfl,_⟩:=h
  rfl
 ·obtain⟨N,c,O,rfl,hp,rt,ll,k⟩:=h
  have a0:=bG100000;have l:=rt.len;rw[zp] at l;refine⟨_,(zk (zC (zer [] [] rfl rfl (by kernel_rfl) (qD (pv 0)) (fun _ _ _ _=>jk) (fun _ _ _ _=>(zen (K:=K) rfl (pv 1))) (fun _ _ _ _=>jk) (fun _ _ _ _=>(pv 2))))),?_⟩
  refine⟨_,rfl,N,rfl,⟨_,u7 hp⟩,zds (K:=K) (a:=N) (xs:=O) (fun i C g=>C=zE (zX (c.take i))/\Same H g) ⟨rfl,u9 _⟩ (fun i C g ⟨_,b⟩=>u7 (b _ _ hp)) ?_ ?_⟩
  ·rintro i x C g hx ⟨rfl,b⟩
   obtain⟨d,e1,r1⟩:=(rt.same b).get hx;rw[zU] at e1;obtain⟨t,U,rfl⟩:=qr.mp e1;obtain⟨tp,zz,ex,_⟩:=id r1;subst ex;obtain⟨ta,tc,xs,ys,qt,qa,ra,qc,rc⟩:=VI r1;have J:=QJ rc;subst J;have le1:=zbT c (i+1);rw[qq U,jR,zW] at le1;refine⟨tp,_,rfl,qt,rfl,_,_,rfl,_,_,rfl,rfl,rfl,?_⟩
   refine⟨_,rfl,tc,rfl,⟨_,qc⟩,zhc (K:=K) (a:=tc) (xs:=zE t.ly) (fun j u m=>u=zE (zX (c.take i))++zE (t.ly.take j)/\Same g m) ⟨by simp[zE],u9 _⟩ (fun j u m ⟨_,s2⟩=>s2.sqT qc) ?_ ?_⟩
   ·rintro j y u m hy ⟨rfl,s2⟩
    obtain⟨k',T,rfl⟩:=QK hy;have hj:j<t.ly.length:=(zL.mp T).1;refine⟨⟨rfl,rfl,trivial⟩,?_⟩
    refine⟨_,rfl,?_,?_,s2⟩
    ·rw[zW,zT,zT,qP];omega
    ·rw[qq T,qx]
     unfold zE;rw[zM];rfl
   ·rintro u m ⟨rfl,s2⟩
    refine⟨?_,b.trans s2⟩
    rw[zT,qY,qq U,jR];unfold zE;rw[zM]
  ·rintro C g ⟨rfl,b⟩
   have G:c.take O.length=c:=by rw[l,qY]
   rw[G];exact⟨by rw[zT];omega,fun D hD=>k D _ (b.none hD) (b.trans (zc hD)) zb⟩
theorem zbW{J:Job}{H:Hp}{p:Addr}(h:Rep K H (vE J) (.ref p)):∃(c g i l:V) (t:Addr) (b:List V),SqT K H p [c,g,i,.ref t,l]/\SqT K H t b/\b.length=J.ps.length:=by
 obtain⟨a,b,e,s,c,_,rfl,_,g,_,rfl,_,i,_,rfl,_,D,_,rfl,m,l,C,rfl,_,rfl⟩:=h;cases e;obtain⟨t,B,rfl,u,A⟩:=m;have:=A.len;rw[zp] at this;exact⟨_,_,_,_,t,B,s,u,this⟩
inductive JN(K:W.Frag)(m:List V)(H:Hp)(Q:VK):Prop
 | mk (g i:Addr) (J:Job) (b:List qV) (l:List V) (_:m=[.ref g,.ref i]) (_:Rep K H (vE J) (.ref g)) (_:J.ps.length<=60) (_:H i=some (.lst l)) (_:Reps K H (b.map vH) l) (_:(zX b).length<=1000) (_:∀c,Same H c->Q (.bl (W0 J.ps.length (zX b))) c):JN K m H Q
def XE(K:W.Frag):Sp:=fun b H Q _=>JN K b H Q
theorem zaB:zD ["job","plan","order"] ["job","plan"] (zr (topL 33)):=u5
theorem zda{f:Addr}{G:FuncData}(F:Fun K "is_whole" "is_whole" (topL 33) f G)(B:Blt M)(b:Dfn P w K M I "order_of" 1 ["plan"] (JU K)):FnOk P w K M I CX0 2 f G ["job","plan"] (XE K):=by
 have nd:=zaB.nd;refine F.ok zaB (fun vs H Q E h=>?_) (fun a0 A C s H vs Q E hr h=>?_)
 ·obtain⟨N,O,J,c,T,rfl,_⟩:=h
  rfl
 ·obtain⟨N,O,J,c,T,rfl,rj,pn,hp,rt,ll,k⟩:=h
  have L:=bG100000;have g:=bGe;refine⟨_,(zf (zG (i:=2) nd rfl (Or.inr rfl) (zi b hr.m rfl (za (pv 1) zd)))
   (zk (zC (zy (vS rfl) rfl B.all boot_all (za (jZ ["order"] [2] rfl rfl (by kernel_rfl) (qN rfl B.range (za (zy zO rfl B.len boot_len (za (zx zI (pv 0) ze (fun _ _=>rfl)) zd)) zd)) (fun _ _ _ _=>jk) (fun _ _ _ _=>(qZ (jP (K:=K) rfl) (pv 0) (pv 1) (by with_unfolding_all rfl)))) zd))))),?_⟩
  refine⟨_,rfl,O,c,T,rfl,hp,rt,ll,fun l U hl s1 Y=>?_⟩
  obtain⟨x0,x1,x2,x4,t3,ps,qj,qp,lp⟩:=zbW (rj.same s1);refine⟨_,rfl,N,_,_,_,rfl,rfl,qj,rfl,t3,_,rfl,.inr qp,_,rfl,(by rw[g];omega),(by rw[g];omega),?_⟩
  rw[lp,xu];refine y6 (fun i D m=>D=((List.range i).map fun p=>decide (p∈zX c)).map V.bl/\Same U m) ⟨rfl,u9 _⟩ ?_ ?_
  ·rintro i D m hi ⟨rfl,s2⟩
   rw[X8];refine⟨rfl,⟨_,rfl,_,rfl,l,_,rfl,.inl (u7 (s2 _ _ Y)),rfl,jb _,?_,?_,s2⟩⟩
   ·rw[zp,zp,xV];omega
   ·rw[YL,zM,zM,zo qH,xz]
    rfl
  ·rintro D m ⟨rfl,s2⟩
   refine⟨by rw[zp,zp,xV];omega,fun l2 u=>⟨l2,_,rfl,u7 zb,?_⟩⟩
   have:=k _ (s1.trans (s2.trans (zc (o:=.lst (((List.range J.ps.length).map fun p=>decide (p∈zX c)).map V.bl)) u)))
   have e:((List.range J.ps.length).map fun p=>decide (p∈zX c)).all id=W0 J.ps.length (zX c):=by rw[Je];rfl
   rw[e];exact this
inductive zap(K:W.Frag)(b:List V)(H:Hp)(Q:VK):Prop
 | mk (i:Int) (_:b=[.int i]) (_:Q (.bl true) H):zap K b H Q
def zfs(K:W.Frag):Sp:=fun b H Q _=>zap K b H Q
theorem zfJ:zD ["thing"] ["thing"] (zr (topL 1)):=u5
theorem zgT{f:Addr}{c:FuncData}(F:Fun K "is_number" "is_number" (topL 1) f c)(B:Blt M):FnOk P w K M I CX0 1 f c ["thing"] (zfs K):=by
 have u:=zfJ.nd;refine F.ok zfJ (fun l H Q E h=>?_) (fun g A b s H l Q E m h=>?_)
 ·obtain⟨i,rfl,_⟩:=h
  rfl
 ·obtain⟨i,rfl,k⟩:=h
  refine⟨_,(zk (zC (yF (zy xT rfl B.isinstance boot_isinstance (za (pv 0) (za (vy (v:=.ty "int") rfl B.int wW rfl) zd))) (we (zgD (zy xT rfl B.isinstance boot_isinstance (za (pv 0) (za (vy (v:=.ty "bool") rfl B.bool Zw rfl) zd)))))))),?_⟩
  exact⟨_,rfl,_, "int", "int",rfl,rfl,(by decide),_,rfl,ifT (by decide) ⟨_,rfl,_, "int", "bool",rfl,rfl,(by decide),_,rfl,k⟩⟩
inductive VP(K:W.Frag)(c:List V)(H:Hp)(Q:VK):Prop
 | mk (i lo b:Int) (_:c=[.int i,.int lo,.int b]) (_:lo<=i) (_:i<=b) (_:Q (.bl true) H):VP K c H Q
def zcp(K:W.Frag):Sp:=fun b H Q _=>VP K b H Q
theorem zhO:zD ["thing","least","most"] ["thing","least","most"] (zr (topL 2)):=u5
theorem zib{f:Addr}{g:FuncData}(F:Fun K "is_number_within" "is_number_within" (topL 2) f g)(B:Blt M)(b:Dfn P w K M I "is_number" 1 ["thing"] (zfs K)):FnOk P w K M I CX0 2 f g ["thing","least","most"] (zcp K):=by
 have D:=zhO.nd;refine F.ok zhO (fun C H Q E h=>?_) (fun l A c s H C Q E u h=>?_)
 ·obtain⟨i,lo,m,rfl,_⟩:=h
  rfl
 ·obtain⟨i,lo,m,rfl,h1,h2,k⟩:=h
  refine⟨_,(zk (zC (yF (zi b u.m rfl (za (pv 0) zd)) (we (zc5 zfV zfV (pv 1) (pv 0) (pv 2)))))),?_⟩
  refine⟨_,rfl,i,rfl,_,rfl,ifT rfl ⟨_,rfl,_,rfl,_,_,rfl,rfl,_,rfl,ifT (qk h1) ⟨_,rfl,_,_,rfl,rfl,?_⟩⟩⟩
  rw[qk h2];exact k
inductive zcz(K:W.Frag)(s:List V)(H:Hp)(Q:VK):Prop
 | mk (l i m:Addr) (J:Job) (c:List Nat) (p:Nat) (b:xb) (met:List Nat) (_:s=[.ref l,.ref i,.ref m]) (_:Rep K H (vE J) (.ref l)) (_:JobOk J c) (_:Rep K H (evD (.laid p b.k b.x b.y)) (.ref i)) (_:J.ps[p]? =some b) (_:SqL K H m (zE met)) (_:p∉met) (_:(∀j:Nat,(∃n,1<=n/\Wk (asI J) n (j:Int) (p:Int))->j∈met)) (_:∀g,Same H g->Q (.bl true) g):zcz K s H Q
def zhL(K:W.Frag):Sp:=fun b H Q _=>zcz K b H Q
theorem zhU:zD ["job","event","laid","part"] ["job","event","laid"] (zr (topL 29)):=u5
theorem zif{f:Addr}{fd:FuncData}(F:Fun K "is_laid_right" "is_laid_right" (topL 29) f fd)(B:Blt M)(c:Dfn P w K M I "is_number_within" 2 ["thing","least","most"] (zcp K))(m:Dfn P w K M I "is_same" 5 ["thing","told"] (zd8 K 2))(g:Dfn P w K M I "ahead_of" 3 ["job","part"] (XG K)):FnOk P w K M I CX0 6 f fd ["job","event","laid"] (zhL K):=by
 have nd:=zhU.nd;refine F.ok zhU (fun vs H Q E h=>?_) (fun am A aj s H vs Q E hr h=>?_)
 ·obtain⟨jp,ev,lp,J,u,p,pa,met,rfl,_⟩:=h
  rfl
 ·obtain⟨jp,ev,lp,J,u,p,pa,met,rfl,rj,C,re,L,hl,np,ab,k⟩:=h
  have al:=bG1000000;have U:=C.pl;have hp:=(zL.mp L).1;obtain⟨an,rs,e0,qe,rr⟩:=xO re;cases e0;obtain⟨gg,fs,ps,as,fv,px,qj,_,qf,rf,Y,a0,_⟩:=xo rj;have ai:=a0.len;rw[zp] at ai;obtain⟨ao,ag,aa⟩:=Q1 a0 L;refine⟨_,(zf (zG (i:=3) nd rfl (Or.inl rfl) (zx zI (pv 1) ze (fun _ _=>rfl)))
   (zf (jq (PW.pt (vL (Qz (xx (zi c hr.m rfl (za (pv 3) (za ze (za (zH vh (zy zO rfl B.len boot_len (za (zx zI (pv 0) ze (fun _ _=>rfl)) zd)) ze) zd)))))) (wL (zF jJ (pv 3) (pv 2) (by with_unfolding_all rfl)))))
   (zk (zC vg))
   qy)
   (zf (jq (Qz (xx (zi m hr.m rfl (za (xR Yi (pv 1) (x6 ze) wc) (za (zx zI (zx zI (pv 0) ze (fun _ _=>rfl)) (pv 3) (fun _ _=>rfl)) zd)))))
   (zk (zC vg))
   qy)
   (zk (zC (zy (vS rfl) rfl B.all boot_all (za (jZ ["laid"] [2] rfl rfl (by kernel_rfl) (qD (zi g hr.m rfl (za (pv 0) (za (pv 3) zd)))) (fun _ _ _ _=>jk) (fun _ _ _ _=>(qZ (jP (K:=K) rfl) (pv 0) (pv 1) (by with_unfolding_all rfl)))) zd))))))),?_⟩
  refine⟨_,rfl,ev,_,_,_,rfl,rfl,qe,zY (j:=1) rfl,?_⟩
  refine⟨_,rfl,_,rfl,jp,_,_,_,rfl,rfl,qj,rfl,ps,_,rfl,.inr Y,_,_,rfl,rfl,(p:Int),0,_,rfl,Int.natCast_nonneg _,by omega,_,rfl,?_⟩
  refine ifF rfl ⟨_,rfl,_,rfl,lp,_,rfl,.inl hl,rfl,jb _,_,rfl,?_⟩
  rw[zo qH,xz];refine ifF (jM np) ?_
  refine⟨_,rfl,2,rfl,ev,_,rfl,qe,(fun z=>absurd z.1 (by
   rw[show(some (2:Int))=some ((2:Nat):Int) from rfl,HT.sIx_nat]
   simp only[jU];omega)),fun T hT=>?_⟩
  rw[WK];have s1:=zc (H:=H) (o:=.tup rs) hT;have N:=zb (H:=H) (a:=T) (o:=.tup rs);generalize upd H T (.tup rs)=H1 at s1 N ⊢;have ac:=aa;obtain⟨ak,_,rfl,_⟩:=ac;refine⟨_,rfl,jp,_,_,_,rfl,rfl,s1.sqT qj,rfl,_,rfl,ps,_,_,_,rfl,rfl,s1.sqT Y,zY ag,xE pa,.ref T,.ref ak,rfl,⟨T,rs,rfl,u8 N,rr.same s1⟩,aa.same s1,?_,fun H2 s2=>⟨_,rfl,ifF rfl ?_⟩⟩
  ·refine⟨by show 2<=1000000;decide,fun d hd=>?_⟩
   rcases qg.mp hd with rfl | hd
   ·trivial
   ·cases zR.mp hd
    refine⟨by show 2<=1000000;decide,fun d hd=>?_⟩
    rcases qg.mp hd with rfl | hd
    ·trivial
    ·cases zR.mp hd;trivial
  have ae:=s1.trans s2;refine⟨_,rfl,_,rfl,(p:Int),jp,J,rfl,rj.same ae,U,⟨by omega,by omega⟩,C.jsm.as,C.al,fun l ms H3 s3 l0 O ml _ mm=>⟨l,rfl,⟨_,u7 O⟩,?_⟩⟩
  have af:=ae.trans s3;have rk:∀q∈asI J,rkO u q.1<rkO u q.2:=fun q hq=>by
   obtain⟨x,hx,rfl⟩:=qo.mp hq;obtain⟨a,b,ah,e1,e2⟩:=C.bo x hx;have nd:=C.op.nodup_iff.mpr ZS;show u.idxOf ((x.1:Int)).toNat<u.idxOf ((x.2:Int)).toNat;rw[xu,xu,wS nd e1,wS nd e2];exact ah
  refine jD (K:=K) (a:=l) (xs:=ms.map V.int) (fun i zs H4=>zs=List.replicate i (V.bl true)/\Same H3 H4) ⟨rfl,u9 _⟩ (fun i zs H4 ⟨_,G⟩=>u7 (G _ _ O)) ?_ ?_
  ·rintro i x zs H4 hx ⟨rfl,G⟩
   rw[zU] at hx;obtain⟨j,ej,rfl⟩:=qr.mp hx;have il:=(zL.mp ej).1;obtain⟨ne,n,wk⟩:=(mm j).mp (je ej);have n1:1<=n:=by
    cases n with
    | zero=>exact absurd (show j=(p:Int) from wk) ne
    | succ n=>omega
   have j0:=(Wk.in1 C.jsm.as n1 wk).1;obtain⟨jn,rfl⟩:∃jn:Nat,j=(jn:Int):=⟨j.toNat,by omega⟩
   refine⟨rfl,_,rfl,_,rfl,lp,_,rfl,.inl ((af.trans G).seq hl),rfl,jb _,by rw[yu];omega,?_,G⟩
   rw[xz,qk (ab jn ⟨n,n1,wk⟩),Vq];rfl
  ·rintro zs H4 ⟨rfl,G⟩
   refine⟨by rw[yu,zp];omega,fun D hD=>⟨D,List.replicate (ms.map V.int).length true,rfl,u7 (by rw[zb,Vl]),?_⟩⟩
   rw[show(List.replicate (ms.map V.int).length true).all id=true by simp]
   exact k _ ((af.trans G).trans (zc hD))
inductive V5(K:W.Frag)(m:List V)(H:Hp)(Q:VK):Prop
 | mk (i l:Addr) (J:Job) (c:List Nat) (b:List Ev) (_:m=[.ref i,.ref l]) (_:Rep K H (vE J) (.ref i)) (_:JobOk J c) (_:Evs K H l b) (_:Lies J b) (_:b.length<=10000) (_:∀g,Same H g->Q (.bl true) g):V5 K m H Q
def Yg(K:W.Frag):Sp:=fun b H Q _=>V5 K b H Q
theorem Lies.at{J:Job}{b:List Ev}(h:Lies J b):∀{i:Nat} {e:Ev},(zt ["laid"] b)[i]? =some e->∃(p:Nat) (l:xb),e=.laid p l.k l.x l.y/\J.ps[p]? =some l/\p∉pOf ((zt ["laid"] b).take i)/\∀j:Nat,(∃n,1<=n/\Wk (asI J) n (j:Int) (p:Int))->j∈pOf ((zt ["laid"] b).take i):=by
 induction h with
 | nil=>exact fun h=>nomatch h
 | other b e h n m=>
  intro i x hx;rw[zq,xS (fun z=>n (zR.mp z)),z7] at hx ⊢
  exact m hx
 | laid b p k x y h o m=>
  intro i z g;rw[zq,xM (e:=.laid p k x y) (show("laid":Str)∈(["laid"]:List Str) by decide)] at g ⊢
  by_cases c:i<(zt ["laid"] b).length
  ·rw[j9 c] at g
   rw[Y4 (by omega)]
   exact m g
  ·have u:=(zL.mp g).1
   rw[zW] at u;have s:i=(zt ["laid"] b).length:=by
    have:([.laid p k x y]:List Ev).length=1:=rfl;omega
   subst s;rw[xa (zQ _),wY] at g;cases g;rw[YJ];obtain⟨⟨l,e1,rfl,rfl,rfl⟩,A,B⟩:=o;exact⟨p,l,rfl,e1,A,B⟩
theorem zcS:zD ["job","events","laid","event"] ["job","events"] (zr (topL 30)):=u5
theorem zeQ{f:Addr}{fd:FuncData}(F:Fun K "lies_right" "lies_right" (topL 30) f fd)(B:Blt M)(g:Dfn P w K M I "events_of" 1 ["events","words"] (JW K))(b:Dfn P w K M I "is_laid_right" 6 ["job","event","laid"] (zhL K)):FnOk P w K M I CX0 7 f fd ["job","events"] (Yg K):=by
 have nd:=zcS.nd;refine F.ok zcS (fun vs H Q E h=>?_) (fun ah A af s H vs Q E hr h=>?_)
 ·obtain⟨jp,l,J,a0,es,rfl,_⟩:=h
  rfl
 ·obtain⟨jp,l,J,a0,es,rfl,rj,jo,hl,ls,el,k⟩:=h
  have ag:=bG1000000;have fl:(zt ["laid"] es).length<=10000:=jd (jt _ _) el;refine⟨_,(zf (zG (i:=2) nd rfl (Or.inl rfl) (zV zd))
   (zf (qS jr rfl (qD (zi g hr.m rfl (za (pv 1) (za (qB (za jz zd)) zd)))) (zA (i:=3) nd rfl (Or.inl rfl))
   (zf (jq (Qz (xx (zi b hr.m rfl (za (pv 0) (za (pv 3) (za (pv 2) zd))))))
    (zk (zC vg))
    qy)
    (zk (qK (jO jV xG xF qF (pv 2) (za (zx zI (pv 3) ze (fun _ _=>rfl)) zd))))))
   (zk (zC vg)))),?_⟩
  refine⟨le0,fun C O=>⟨_,rfl,le1,fun T hT=>?_⟩⟩
  have s1:=(zc (H:=H) (o:=.lst []) O).trans (zc (o:=.tup [.str "laid"]) hT);have D:=(zc (o:=.tup [.str "laid"]) hT) _ _ (zb (H:=H) (a:=C) (o:=.lst []));have L:=zb (H:=upd H C (.lst [])) (a:=T) (o:=.tup [.str "laid"]);generalize upd (upd H C (.lst [])) T (.tup [.str "laid"])=H1 at s1 D L ⊢;refine⟨l,T,es,["laid"],rfl,hl.same s1,u8 L,by omega,fun p H2 hp s2 ⟨xs,hx,rx⟩=>⟨p,rfl,⟨_,u7 hx⟩,?_⟩⟩
  have ae:p≠C:=fun z=>by rw[z,D] at hp;cases hp
  have Y:=fun(i:Nat) (e:Ev)=>ls.at (i:=i) (e:=e)
  generalize zt ["laid"] es=fs at fl rx Y;have xl:=rx.len;rw[zp] at xl;refine jG (K:=K) (a:=p) (xs:=xs) (fun i σ m=>Ex1 fun(v3:Option V)=>An5 (σ=[some (.ref jp),some (.ref l),some (.ref C),v3]) (Same H m) (m C=some (.lst (zE (pOf (fs.take i))))) (m p=some (.lst xs)) (Reps K m (fs.map evD) xs)) ⟨_,rfl,s1.trans s2,s2 _ _ D,hx,rx⟩ (fun i σ m _ ⟨_,_,_,_,h3,_⟩=>u7 h3) ?_ ?_
  ·rintro i x σ m U ⟨v3,rfl,s3,N,ac,aa⟩
   have il:=(zL.mp U).1;obtain⟨d,ed,rd⟩:=aa.get U;rw[zU] at ed;obtain⟨e,ee,rfl⟩:=qr.mp ed;obtain⟨q,pa,rfl,ab,o2,o3⟩:=Y i e ee;obtain⟨a,rs,rfl,qa,_⟩:=xO rd;refine⟨_,rfl,_,rfl,_,rfl,jp,a,C,J,a0,q,pa,_,rfl,rj.same s3,jo,rd,ab,u7 N,o2,o3,fun H4 s4=>⟨_,rfl,?_⟩⟩
   have G:=s4 _ _ N;refine ifF rfl ⟨_,rfl,.inl ⟨rfl,_,u7 G⟩,_,rfl,a,_,_,_,rfl,rfl,s4.sqT qa,zY (j:=1) rfl,C,_,_,rfl,rfl,G,?_,_,rfl,?_,?_,by rw[zj ae];exact s4 _ _ ac,(aa.same s4).keep (ud G) (x8 _)⟩
   ·unfold pOf
    rw[zT,zp,qP];omega
   ·exact fun c u e=>by
     rw[zj (zg e O)];exact(s3.trans s4) c u e
   ·rw[zb,qq ee,qu]
    unfold zE;rw[zM];rfl
  ·rintro σ m ⟨v3,rfl,s3,_⟩
   exact k m s3
inductive VX(K:W.Frag)(C:List V)(H:Hp)(Q:VK):Prop
 | mk (l A s:Addr) (J:Job) (B:List qV) (c:List Bool) (m n:Nat) (g:List Ev) (w:Int) (u i:List Int) (f:V) (_:C=[.ref l,.ref A,.ref s,.int (n:Int),f]) (_:CaseAt K H l A s J B c m) (_:n<=5) (_:RunAt J c n B g w u i) (_:Rep K H (Zp g u i w) f) (_:∀b,Same H b->Q (.bl true) b):VX K C H Q
def Yc(K:W.Frag):Sp:=fun b H Q _=>VX K b H Q
theorem zcL:zD ["job","plan","luck","tries","thing"] ["job","plan","luck","tries","thing"] (zr (topL 28)):=u5
theorem zeH{f:Addr}{D:FuncData}(F:Fun K "shows_run" "shows_run" (topL 28) f D)(B:Blt M)(i:Dfn P w K M I "is_same" 9 ["thing","told"] (zd8 K 4))(g:Dfn P w K M I "run_plan" 7 ["job","plan","luck","tries"] (Qp K)):FnOk P w K M I CX0 10 f D ["job","plan","luck","tries","thing"] (Yc K):=by
 have nd:=zcL.nd;refine F.ok zcL (fun vs H Q E h=>?_) (fun Y A l s H vs Q E L h=>?_)
 ·obtain⟨jp,pl,lk,J,ts,U,m,n,C,w,N,G,f,rfl,_⟩:=h
  rfl
 ·obtain⟨jp,pl,lk,J,ts,U,m,n,C,w,N,G,f,rfl,c,n5,O,rd,k⟩:=h
  refine⟨_,(zk (zC (zi i L.m rfl (za (pv 4) (za (zi g L.m rfl (za (pv 0) (za (pv 1) (za (pv 2) (za (pv 3) zd))))) zd))))),?_⟩
  refine⟨_,rfl,_,rfl,_,rfl,_,rfl,_,rfl,wU (E:=E0) c (u7 c.hl) n5 fun T eo a b a0 w2 ab aa H1 s1 hT he ha hb u _ _ _ _ _ _ _=>?_⟩
  have er:=O.same u fun s _=>rfl
  refine⟨Zp C N G w,f,.ref T,rfl,rd.same s1,?_,zgk c.ok O,fun H2 s2=>k _ (s1.trans s2)⟩
  rw[<- er];exact Qd hT he ha hb
end
section
variable{X:Cx}
inductive zh0(K:W.Frag)(x:V)(lo:Option Int)(g:Option Int)(H:Hp)(Q:VK):Prop
 | mk (a:Addr) (i:List V) (_:x=.ref a) (_:SqT K H a i) (_:∀c b,Same H b->SqT K b c (jE i lo g)->Q (.ref c) b):zh0 K x lo g H Q
theorem zd9{K:W.Frag}(h:X.K=K):SlR X (zh0 K):=by
 rw[<- h];intro b s σ H x v G J lo u D Q I B hs w A g;obtain⟨a,L,rfl,l,q⟩:=g;have C:Same H (WX [] H):=fun c o e=>by
  unfold WX;rw[zo (fun z=>nomatch z)]
  exact e
 exact zi0 b s σ H _ v G J lo u D Q I B hs w A ⟨true,a,L,[],rfl,(fun e m=>nomatch m),C.sqT l,fun c i E e=>q c i E (WX.le.sqT e)⟩
end
theorem zdF(x y:V)(r:List V):jE (x::y::r) none (some 2)=[x,y]:=by
 unfold jE;rw[show(some (2:Int))=some ((2:Nat):Int) from rfl,HT.sIx_none,HT.sIx_nat]
 have:min 2 (x::y::r).length=2:=by simp only[jU];omega
 rw[this];rfl
theorem Ql(b:List qV):X6 (b.map prT)=zX b:=by
 induction b with
 | nil=>rfl
 | cons t b c=>show t.ly++X6 (b.map prT)=t.ly++zX b;rw[c]
theorem Zu(p:Nat)(b:List Ev)(e:Ev):xD p (b++[e])=xD p b+if e.w∈zw/\e.p=p then 1 else 0:=by
 unfold xD;rw[zq,qu,Zf,vQ];by_cases c:e.w∈zw
 ·rw[zu (qk c)]
  show _+List.count p [e.p]=_;rw[Jg,List.count_nil,X9];by_cases d:e.p=p
  ·rw[zu (xr.mpr d),zu ⟨c,d⟩]
  ·rw[zo (fun z=>d (xr.mp z)),zo (fun z=>d z.2)]
 ·rw[zo (fun z=>c (qQ z)),zo (fun z=>c z.1)]
  rfl
def skE(J:Job)(b:List Ev)(f:Nat):Int:=(J.fs[f]?.map xC.m).getD 0-((qA b).count (f:Int):Int)
def skV(J:Job)(b:List Ev):List V:=(List.range J.fs.length).map fun f=>.int (skE J b f)
theorem Qt{J:Job}{b:List Ev}{f:Nat}(h:f<J.fs.length):(skV J b)[f]? =some (.int (skE J b f)):=by
 unfold skV;rw[zU,List.getElem?_range h]
 rfl
theorem zgg{J:Job}{b:List Ev}{e:Ev}(h:e.w∉zw):skV J (b++[e])=skV J b:=by
 unfold skV skE;rw[xi,VN h,z7]
theorem zcE{J:Job}{b:List Ev}{e:Ev}(h:e.w∈zw)(f:Nat):skE J (b++[e]) f=skE J b f-if e.f=f then 1 else 0:=by
 unfold skE;rw[xi,VJ h,Zf,Jg,List.count_nil];by_cases c:e.f=f
 ·rw[zu (xr.mpr (by omega)),zu c]
  omega
 ·rw[zo (fun z=>c (by have:=xr.mp z;omega)),zo c]
  omega
theorem zea{J:Job}{b:List Ev}{e:Ev}(h:e.w∈zw)(g:e.f<J.fs.length):(skV J b).set e.f (.int (skE J b e.f-1))=skV J (b++[e]):=by
 apply List.ext_getElem?
 intro i;rw[YR];have m:(skV J b).length=J.fs.length:=by unfold skV;rw[zp,xV]
 have l:(skV J (b++[e])).length=J.fs.length:=by unfold skV;rw[zp,xV]
 by_cases c:i<J.fs.length
 ·rw[Qt c,Qt c,zcE h i]
  by_cases d:e.f=i
  ·subst d
   rw[zu rfl,zu (by omega),zu rfl]
  ·rw[zo d,zo d]
   congr 2
   omega
 ·rw[List.getElem?_eq_none (by omega),List.getElem?_eq_none (by omega)]
  by_cases d:e.f=i
  ·exact absurd (d▸g) c
  ·rw[zo d]
structure TD(kvs:List (Key×V))(es:List Ev):Prop where
 l:kvs.length<=es.length
 v:∀p:Nat,jf kvs (.inl (p:Int))=if xD p es=0 then none else some (.int (xD p es:Int))
theorem TD.no{b:List (Key×V)}{c:List Ev}{e:Ev}(h:TD b c)(g:e.w∉zw):TD b (c++[e]):=⟨by rw[zW];have:=h.l;omega,fun p=>by rw[Zu,zo (show ¬(e.w∈zw/\e.p=p) from fun z=>g z.1)];exact h.v p⟩
theorem TD.put{g:List (Key×V)}{b:List Ev}{e:Ev}(h:TD g b)(i:e.w∈zw):TD (jB g (.inl (e.p:Int)) (.int ((xD e.p b:Int)+1))) (b++[e]):=by
 refine⟨?_,fun p=>?_⟩
 ·have:=xn g (.inl (e.p:Int):Key) (.int ((xD e.p b:Int)+1))
  have:=h.l;rw[zW];show _<=_+1;omega
 ·rw[wH]
  by_cases c:e.p=p
  ·subst c
   have e1:xD e.p (b++[e])=xD e.p b+1:=by rw[Zu,zu (show e.w∈zw/\e.p=e.p from ⟨i,rfl⟩)]
   rw[e1,zu rfl,zo (Nat.succ_ne_zero _)];rfl
  ·have e1:xD p (b++[e])=xD p b:=by rw[Zu,zo (show ¬(e.w∈zw/\e.p=p) from fun z=>c z.2),Nat.add_zero]
   rw[e1,zo (fun z=>c (by have:=vp z;omega))]
   exact h.v p
theorem TD.get{b:List (Key×V)}{g:List Ev}(h:TD b g)(p:Nat):(jf b (.inl (p:Int))).getD (.int 0)=.int (xD p g:Int):=by
 rw[h.v p];by_cases c:xD p g=0
 ·rw[zu c,c];rfl
 ·rw[zo c];rfl
section
variable{P:Program}{w:World}{K:W.Frag}{I:Str->Option Value}{C:Heap}
theorem zcH:zD ["_law_job_here","_law_plan_here","_law_found","_law_tries","_law_stock","_law_tried","_law_laid","_law_given","_law_over_here","_law_picked","_law_event","_law_word","_law_part","_law_feeder"] ["_law_job_here","_law_plan_here","_law_found","_law_tries"] (zr (topL 54)):=u5
def zhv{u:Value}{f:Addr}{A:Around}{m:List Env}{s:Shared}{H:Hp}{E:XK}(B:Blt I)(D:Room 1 (A.deeper (envOfC "_law_walk" (zr (topL 54)) s.heap.objs.size f u)))(g:Dfn P w K I C "_law_over" 1 ["_law_many","_law_aheads_here"] (Yd K))(b:Dfn P w K I C "order_of" 1 ["plan"] (JU K))(c:(["_law_job_here","_law_plan_here","_law_found","_law_tries","_law_stock","_law_tried","_law_laid","_law_given","_law_over_here","_law_picked","_law_event","_law_word","_law_part","_law_feeder"]:List Str).Nodup):{ t:TS // PSs (JD CX0 P w K I C ["_law_job_here","_law_plan_here","_law_found","_law_tries","_law_stock","_law_tried","_law_laid","_law_given","_law_over_here","_law_picked","_law_event","_law_word","_law_part","_law_feeder"] "_law_walk" (zr (topL 54)) f u A m s H E).nox (xP (topL 54)) t }:=
 have hu:=D.units0;have l:=za2 D;have G:=D.units
 ⟨_,(zf (xc (qB (za (jZ [] [] rfl rfl (by kernel_rfl) (vB (zx zI (pv 0) ze (fun _ _=>rfl))) (fun _ _ _ _=>jk) (fun _ _ _ _=>(zx (jc (K:=K) rfl) (pv 0) ze (fun _ _=>rfl)))) (za Wj (za (zV zd) (za (zV zd) zd))))) (jN rfl (zK (zA (i:=4) c rfl (Or.inl rfl)) (zK (zA (i:=5) c rfl (Or.inl rfl)) (zK (zA (i:=6) c rfl (Or.inr rfl)) (zK (zA (i:=7) c rfl (Or.inl rfl)) jv))))))
     (zf (QA (i:=8) (j:=9) rfl c rfl rfl (by decide) rfl rfl (za (zi g D.m rfl (za (zy zO rfl B.len boot_len (za (zx zI (pv 0) ze (fun _ _=>rfl)) zd)) (za (zx zI (pv 0) ze (fun _ _=>rfl)) zd))) (za (zV zd) zd)) (by rfl))
     (zf (qS jr rfl (qD (zx zI (pv 2) ze (fun _ _=>rfl))) (zA (i:=10) c rfl (Or.inl rfl))
     (zf (xc (xR (zd9 (K:=K) rfl) (pv 10) wc (x6 ze)) (jN rfl (zK (zA (i:=11) c rfl (Or.inl rfl)) (zK (zA (i:=12) c rfl (Or.inl rfl)) jv))))
      (zf (jq (PW.pt (vL (zF jJ (pv 12) (pv 7) (by with_unfolding_all rfl)) (vL (zF jJ (pv 12) (pv 6) (by with_unfolding_all rfl)) (wL (zF wm (pv 12) (zi b D.m rfl (za (pv 1) zd)) (by with_unfolding_all rfl))))))
      (zk (zC yE))
      qy)
      (zk (jq (zF jJ (pv 11) (qB (za jz (za jz zd))) (by with_unfolding_all rfl))
      (zf (xc (qB (za (zx zI (pv 10) ze (fun _ _=>rfl)) (za (zH qT (Wl l (pv 5) (pv 12) ze ⟨rfl,rfl,rfl,rfl⟩) ze) zd))) (jN rfl (zK (zA (i:=13) c rfl (Or.inl rfl)) (zK (Zq (pv 5) (pv 12) (zeb l)) jv))))
       (zf (xc (zH vh (zx qh (pv 4) (pv 13) (fun _ _=>rfl)) ze) (Zq (pv 4) (pv 13) wJ))
       (zf (jq (PW.pt (vL (zF zaQ (zx zI (zx zI (zx zI (pv 0) ze (fun _ _=>rfl)) (pv 13) (fun _ _=>rfl)) ze (fun _ _=>rfl)) (zx zI (zx zI (zx zI (pv 0) ze (fun _ _=>rfl)) (pv 12) (fun _ _=>rfl)) ze (fun _ _=>rfl)) (zS _)) (vL (zF zaR (zx qh (pv 4) (pv 13) (fun _ _=>rfl)) ze (zS _)) (vL (zF J5 (zaP l (pv 5) (pv 12) (fun _ _=>rfl)) (pv 3) (zS _)) (wL (zF jJ (pv 12) (pv 9) (by with_unfolding_all rfl)))))))
       (zk (zC yE))
       qy)
       (zk (zG (i:=9) c rfl (Or.inl rfl) (zH jQ (pv 9) (zH zc7 (zV (za (pv 12) zd)) (ja yh rfl B.int wW (za (qZ xm (pv 11) jz (zS _)) zd)))))))))
      (zk (jq (zF xm (pv 11) jz (zS _))
       (zf (jq (PW.pt (vL (zF wm (pv 12) (pv 9) (by with_unfolding_all rfl)) (vL (zF (zex G) (xR Yi (pv 10) (x6 ze) wc) (zx zI (zx zI (pv 0) ze (fun _ _=>rfl)) (pv 12) (fun _ _=>rfl)) (zS _)) (wL (Qz (xx (zy (vS rfl) rfl B.all boot_all (za (jZ ["_law_laid"] [6] rfl rfl (by kernel_rfl) (qD (zx qh (pv 8) (pv 12) (fun _ _=>rfl))) (fun _ _ _ _=>jk) (fun _ _ _ _=>(qZ (jP (K:=K) rfl) (pv 0) (pv 1) (by with_unfolding_all rfl)))) zd))))))))
        (zk (zC yE))
        qy)
        (zk (qK (jO jV xG xF qF (pv 6) (za (pv 12) zd)))))
       (zk (qK (jO jV xG xF qF (pv 7) (za (pv 12) zd)))))))))))
     (zk (zC (vf (zF (zez hu) (zy jF rfl B.sorted jC (za (pv 6) zd)) (zx zI (pv 2) ze (fun _ _=>rfl)) (zS _)) (pv 7) yE))))))⟩
theorem zgn{J:Job}{b:List Nat}(c:JobOk J b)(i:Int):rkO b i<=60:=by
 have h:rkO b i<=b.length:=List.idxOf_le_length;have:=c.op.length_eq;rw[xV] at this;have:=c.pl;omega
theorem zgm{J:Job}{b:List Nat}(g:JobOk J b):∀q∈asI J,rkO b q.1<rkO b q.2:=fun q hq=>by
 obtain⟨p,hp,rfl⟩:=qo.mp hq;obtain⟨k,l,c,e1,e2⟩:=g.bo p hp;have i:=g.op.nodup_iff.mpr ZS;show b.idxOf ((p.1:Int)).toNat<b.idxOf ((p.2:Int)).toNat;rw[xu,xu,wS i e1,wS i e2];exact c
theorem Same.putN{H b:Hp}{a:Addr}{o:HO}(s:Same H b)(h:H a=Option.none):Same H (upd b a o):=fun c u e=>by
 rw[zj (zg e h)];exact s c u e
theorem Lies.idx{J:Job}{g:List Ev}(h:Lies J g):∀{i:Nat} {e:Ev},g[i]? =some e->e.w=("laid":Str)->∃(p:Nat) (s:xb),e=.laid p s.k s.x s.y/\J.ps[p]? =some s/\p∉pOf (zt ["laid"] (g.take i))/\∀j:Nat,(∃n,1<=n/\Wk (asI J) n (j:Int) (p:Int))->j∈pOf (zt ["laid"] (g.take i)):=by
 have m:∀{g:List Ev} {x:Ev} {i:Nat} {e:Ev},(g++[x])[i]? =some e->(g[i]? =some e/\(g++[x]).take i=g.take i)\/(e=x/\(g++[x]).take i=g):=fun {g x i e} l=>by
  by_cases c:i<g.length
  ·rw[j9 c] at l
   exact .inl ⟨l,Y4 (by omega)⟩
  ·have D:=(zL.mp l).1
   rw[zW] at D;have B:i=g.length:=by
    have:([x]:List Ev).length=1:=rfl;omega
   subst B;rw[xa (zQ _),wY] at l;cases l;exact .inr ⟨rfl,YJ⟩
 induction h with
 | nil=>exact fun h=>nomatch h
 | other g x h n A=>
  intro i e l u;rcases m l with ⟨a,b⟩ | ⟨rfl,b⟩
  ·rw[b];exact A a u
  ·exact absurd u n
 | laid g p k x y h o A=>
  intro i e l u;rcases m l with ⟨a,b⟩ | ⟨rfl,b⟩
  ·rw[b];exact A a u
  ·rw[b]
   obtain⟨⟨s,e1,rfl,rfl,rfl⟩,E,G⟩:=o;exact⟨p,s,rfl,e1,E,G⟩
theorem ze1{H:Hp}{k:Str}{x y:Int}{b:List V}(h:Reps K H [.str k,.tup [.int x,.int y]] b):∃c,b=[.str k,.ref c]/\SqT K H c [.int x,.int y]:=by
 obtain⟨A,E,rfl,g,G,u,rfl,⟨c,J,rfl,hc,B,D,rfl,i,w1,s,rfl,l,m⟩,e2⟩:=h;cases(show A=_ from g)
 cases(show u=[] from e2)
 cases(show B=_ from i)
 cases(show w1=_ from l)
 cases(show s=[] from m)
 exact⟨c,rfl,hc⟩
structure WS(G H:Hp)(st td la gi pk:Addr)(J:Job)(es:List Ev):Prop where
 f:Same G H
 s:H st=some (.lst (skV J es))
 t:∃kvs,H td=some (.dK kvs)/\TD kvs es
 l:H la=some (.lst (zE (pOf (zt ["laid"] es))))
 g:H gi=some (.lst (zE (pOf (zt zB es))))
 p:H pk=some (.lst (zE (pOf (zt ["picked"] es))))
 np:pk≠st/\pk≠td/\pk≠la/\pk≠gi
theorem WS.same{G H g:Hp}{st A m l u:Addr}{J:Job}{i:List Ev}(h:WS G H st A m l u J i)(s:Same H g):WS G g st A m l u J i:=⟨h.f.trans s,s _ _ h.s,let ⟨c,a,b⟩:=h.t;⟨c,s _ _ a,b⟩,s _ _ h.l,s _ _ h.g,s _ _ h.p,h.np⟩
inductive VS(K:W.Frag)(D:List V)(H:Hp)(Q:VK):Prop
 | mk (u A G T s a b:Addr) (J:Job) (B:List qV) (E:List Bool) (m n:Nat) (c:List Ev) (w:Int) (l L:List Int) (_:D=[.ref u,.ref A,.ref T,.int (n:Int)]) (_:CaseAt K H u A G J B E m) (_:Wlk J n (zX B) c) (_:Lies J c) (_:c.length<=5000) (_:(zt ["laid"] c).length<=60) (_:H T=some (.tup [.ref s,.ref a,.ref b,.int w])) (_:Evs K H s c) (_:H a=some (.lst (l.map V.int))) (_:l.Perm ((zt ["laid"] c).map fun e=>(e.p:Int))) (_:l.Pairwise (·<= ·)) (_:∀(g:Addr) i,H g=none->Same H i->i g=some (.lst (zE (pOf (zt zB c))))->Q (.ref g) i):VS K D H Q
def Yb(K:W.Frag):Sp:=fun b H Q _=>VS K b H Q
theorem zeD{f:Addr}{fd:FuncData}(F:Fun K "_law_walk" "_law_walk" (topL 54) f fd)(B:Blt I)(ar:Dfn P w K I C "_law_over" 1 ["_law_many","_law_aheads_here"] (Yd K))(ac:Dfn P w K I C "order_of" 1 ["plan"] (JU K)):FnOk P w K I C CX0 2 f fd ["_law_job_here","_law_plan_here","_law_found","_law_tries"] (Yb K):=by
 have nd:=zcH.nd;refine F.ok zcH (fun vs H Q E h=>?_) (fun dt A dh s H vs Q E hr h=>?_)
 ·obtain⟨jp,pl,lk,T,eo,a,b,J,ts,bs,m,n,Y,w,ls,gs,rfl,_⟩:=h
  rfl
 ·obtain⟨jp,pl,lk,T,eo,a,b,J,ts,bs,m,n,Y,w,ls,gs,rfl,c,wl,li,el,dw,hT,he,ha,lp,lw,k⟩:=h
  obtain⟨df,jo⟩:=c.jo;obtain⟨os,pm,ob,po⟩:=c.po;have dq:=bG1000000;have rj:=c.rj;have ds:=jo.pl;have dp:=jo.fl;have al:=jo.al;obtain⟨gg,fs,ps,as,fv,px,qj,rg,qf,rf,bm,bn,_⟩:=xo rj;have bf:=bn.len;have cb:=rf.len;rw[zp] at bf cb;refine⟨_,(zhv B hr ar ac nd).2,?_⟩
  refine⟨_,rfl,jp,_,_,_,rfl,rfl,qj,rfl,fs,rfl,⟨_,qf⟩,yI (K:=K) (a:=fs) (xs:=fv) (fun i zs H1=>zs=(skV J []).take i/\Same H H1) ⟨rfl,u9 _⟩ (fun i zs H1 ⟨_,s1⟩=>s1.sqT qf) ?_ ?_⟩
  ·rintro i x zs H1 hx ⟨rfl,s1⟩
   obtain⟨d,ed,rd⟩:=(rf.same s1).get hx;rw[zU] at ed;obtain⟨fe,ef,rfl⟩:=qr.mp ed;obtain⟨fa,fc,rfl,bi,_⟩:=xJ rd;have il:=(zL.mp ef).1;refine⟨rfl,_,rfl,fa,_,_,_,rfl,rfl,bi,rfl,by rw[qP];omega,?_,s1⟩
   have e0:skE J [] i=fe.m:=by
    unfold skE;rw[ef];show fe.m-((0:Nat):Int)=_;omega
   rw[qq (Qt il),e0]
  rintro zs H1 ⟨rfl,s1⟩;have dx:(skV J []).length=J.fs.length:=by unfold skV;rw[zp,xV]
  rw[cb,Y0 (by omega)]
  refine⟨by omega,fun st be=>fun L ap=>⟨le0,fun N ae=>⟨le0,fun O a0=>⟨le4,fun q hq=>⟨q,_,rfl,u8 zb,rfl,_,_,rfl,_,_,rfl,_,_,rfl,_,_,rfl,rfl,?_⟩⟩⟩⟩⟩
  have h1:=zc (H:=H1) (o:=.lst (skV J [])) be;have u1:=zb (H:=H1) (a:=st) (o:=.lst (skV J []));have g1:=s1.none be;generalize upd H1 st (.lst (skV J []))=Ha at h1 u1 ap ae a0 hq ⊢;have h2:=zc (H:=Ha) (o:=.dK []) ap;have u2:=zb (H:=Ha) (a:=L) (o:=.dK []);have g2:=(s1.trans h1).none ap;have cd:st≠L:=zg u1 ap;generalize upd Ha L (.dK [])=Hb at h2 u2 ae a0 hq ⊢;have h3:=zc (H:=Hb) (o:=.lst []) ae;have u3:=zb (H:=Hb) (a:=N) (o:=.lst []);have g3:=((s1.trans h1).trans h2).none ae;have ce:st≠N:=zg (h2 _ _ u1) ae;have cg:L≠N:=zg u2 ae;generalize upd Hb N (.lst [])=Hc at h3 u3 a0 hq ⊢;have h4:=zc (H:=Hc) (o:=.lst []) a0;have u4:=zb (H:=Hc) (a:=O) (o:=.lst []);have g4:=(((s1.trans h1).trans h2).trans h3).none a0;have cf:st≠O:=zg ((h2.trans h3) _ _ u1) a0;have ch:L≠O:=zg (h3 _ _ u2) a0;have ci:N≠O:=zg u3 a0;generalize upd Hc O (.lst [])=Hd at h4 u4 hq ⊢;have h5:=zc (H:=Hd) (o:=.tup [.ref st,.ref L,.ref N,.ref O]) hq;have ax:=((h2.trans h3).trans (h4.trans h5)) _ _ u1;have ay:=(h3.trans (h4.trans h5)) _ _ u2;have az:=(h4.trans h5) _ _ u3;have b0:=h5 _ _ u4;have s2:=(((s1.trans h1).trans h2).trans h3).trans (h4.trans h5);generalize upd Hd q (.tup [.ref st,.ref L,.ref N,.ref O])=H2 at ax ay az b0 s2 ⊢;clear h1 h2 h3 h4 h5 u1 u2 u3 u4 be ap ae a0 hq;obtain⟨ta,x0,x1,x2,x3,d1,q0,q4,r4⟩:=QQ (rj.same s2);refine⟨_,rfl,jp,_,_,_,rfl,rfl,s2.sqT qj,rfl,ps,_,rfl,.inr (s2.sqT bm),_,rfl,jp,_,_,_,rfl,rfl,q0,rfl,ta,d1,asI J,px.length,rkO df,rfl,.inr q4,r4,by rw[Qk];omega,by omega,by rw[bf];exact jo.jsm.as,zgm jo,zgn jo,fun ov aq H3 s3 ck ⟨cl,c7,cr⟩ lm am=>⟨le0,fun pk ai=>⟨_,_,rfl,?_⟩⟩⟩
  have h6:=zc (H:=H3) (o:=.lst []) ai;have u6:=zb (H:=H3) (a:=pk) (o:=.lst []);have v1:=s3 _ _ ax;have v2:=s3 _ _ ay;have v3:=s3 _ _ az;have v4:=s3 _ _ b0;have n1:st≠pk:=zg v1 ai;have n2:L≠pk:=zg v2 ai;have n3:N≠pk:=zg v3 ai;have n4:O≠pk:=zg v4 ai;have c3:∀x∈[st,L,N,O],H x=none:=fun x hx=>by
   simp only[qg,wC,or_false] at hx;rcases hx with rfl | rfl | rfl | rfl<;>assumption
  have c4:∀x∈[st,L,N,O],∃o,H2 x=some o:=fun x hx=>by
   simp only[qg,wC,or_false] at hx;rcases hx with rfl | rfl | rfl | rfl
   ·exact⟨_,ax⟩
   ·exact⟨_,ay⟩
   ·exact⟨_,az⟩
   ·exact⟨_,b0⟩
  have bg:∀{x:Addr},H2 x=none->x∉[st,L,N,O]:=fun hx z=>by
   obtain⟨o,e⟩:=c4 _ z;rw[hx] at e;cases e
  have af:Same H (WX [st,L,N,O] H3):=fun x u e=>WX.at (fun z=>by rw[c3 x z] at e;cases e) ((s2.trans s3) x u e)
  have ro:∀(p:Nat) (ms:List Int),aq[p]? =some ms->∃a:Addr,cl[p]? =some (.ref a)/\SqL K (WX [st,L,N,O] H3) a (ms.map V.int):=fun p ms e=>by
   obtain⟨a,e1,e2,e3⟩:=cr.2 p ms e;exact⟨a,e1,u7 (WX.at (bg e2) e3)⟩
  have cq:SqL K (WX [st,L,N,O] H3) ov cl:=u7 (WX.at (bg ck) c7);have gn:∀x∈[st,L,N,O],WX [st,L,N,O] H3 x=none:=fun x hx=>by unfold WX;rw[zu hx]
  have w0:WS (WX [st,L,N,O] H3) (upd H3 pk (.lst [])) st L N O pk J []:=⟨WX.le.trans h6,h6 _ _ v1,⟨[],h6 _ _ v2,zQ _,fun p=>rfl⟩,h6 _ _ v3,h6 _ _ v4,u6,n1.symm,n2.symm,n3.symm,n4.symm⟩
  generalize WX [st,L,N,O] H3=G at af ro cq gn w0;generalize upd H3 pk (.lst [])=H4 at w0 ⊢;have d6:=gn st (by simp)
  have d7:=gn L (by simp)
  have d5:=gn N (by simp)
  have d4:=gn O (by simp)
  obtain⟨xs,c9,rx⟩:=he;have xl:=rx.len;rw[zp] at xl;clear h6 u6 v1 v2 v3 v4 ax ay az b0 c3 c4 bg s2 s3 cr c7 ck ai n1 n2 n3 n4 q0 q4 r4;refine⟨_,rfl,T,_,_,_,rfl,rfl,u8 (w0.f _ _ (af _ _ hT)),rfl,eo,rfl,⟨_,u7 (w0.f _ _ (af _ _ c9))⟩,jG (K:=K) (a:=eo) (xs:=xs) (fun i σ H'=>Ex5 fun(bt bu bv bw:Option V) (pk:Addr)=>An2 (σ=[some (.ref jp),some (.ref pl),some (.ref T),some (.int (n:Int)),some (.ref st),some (.ref L),some (.ref N),some (.ref O),some (.ref ov),some (.ref pk),bt,bu,bv,bw]) (WS G H' st L N O pk J (Y.take i))) ⟨_,_,_,_,_,rfl,w0⟩ (fun i σ H' _ ⟨_,_,_,_,_,_,ws⟩=>u7 (ws.f _ _ (af _ _ c9))) ?_ ?_⟩
  ·rintro i x σ H5 hx ⟨bt,bu,bv,bw,pk,rfl,ws⟩
   have il:=(zL.mp hx).1;have cu:=af.trans ws.f;obtain⟨d,ed,rd⟩:=(rx.same cu).get hx;rw[zU] at ed;obtain⟨e,ee,rfl⟩:=qr.mp ed;obtain⟨ea,rs,rfl,qe,rr⟩:=xO rd;have wo:=wl.at ee;have et:=qq ee;generalize ah:Y.take i=g at ws wo et;refine⟨_,rfl,2,rfl,ea,_,rfl,qe,fun c0 H6 s6 q6=>?_⟩
   rw[zdF] at q6;refine⟨c0,_,rfl,q6,rfl,_,_,rfl,_,_,rfl,rfl,?_⟩
   have ba:=ws.same s6;have aa:=cu.trans s6;refine⟨_,rfl,_,rfl,O,_,rfl,.inl (u7 ba.g),rfl,jb _,_,rfl,?_⟩
   rw[xz];refine ifF (jM wo.g) ⟨_,rfl,_,rfl,N,_,rfl,.inl (u7 ba.l),rfl,jb _,_,rfl,?_⟩
   rw[xz];refine ifF (jM wo.l) ?_
   obtain⟨tr,dc,rt⟩:=c.rp;have ll:(zX ts).length<=1000:=jd c.ok.few.1 (by decide)
   refine⟨_,rfl,_,rfl,pl,ts,tr,rfl,aa _ _ dc,rt.same aa,ll,fun l7 H7 db s7 L7=>⟨l7,_,rfl,.inl (u7 L7),rfl,jb _,_,rfl,?_⟩⟩
   rw[xz];refine ifF (by rw[qk wo.o];rfl) ?_
   have d0:=ba.same s7;have cv:=aa.trans s7;refine⟨_,rfl,le2,fun t8 c8=>⟨t8,zw.map V.str,rfl,.inr (u8 zb),rfl,vI _,_,rfl,?_⟩⟩
   have s8:=zc (H:=H7) (o:=.tup [.str "picked",.str "missed"]) c8;rw[Qg];have M:=d0.same s8;have bq:=cv.trans s8;generalize upd H7 t8 (.tup [.str "picked",.str "missed"])=H8 at s8 M bq ⊢;have cs:=s6.trans (s7.trans s8);have cp:=cs.sqT qe;clear s6 q6 ba aa d0 cv s7 s8 L7 db c8;by_cases c1:e.w∈zw
   ·refine ifT (qk c1) ?_
    obtain⟨e4,dn,fe,pa,ef,ep,ek,e5⟩:=wo.t c1;have er:=Qb (e:=e) (es:=[e]) (by rw[xM c1];exact qI)
    rw[er] at rr;obtain⟨v0,r0,rfl,e0,e1⟩:=rr;cases(show v0=_ from e0)
    cases(show r0=[] from e1)
    obtain⟨l,hk,br⟩:=M.t;refine⟨_,rfl,ea,_,_,_,rfl,rfl,cp,zY (j:=2) rfl,_,rfl,L,rfl,.inl ⟨_,.inl hk⟩,_,rfl,_,DGet.k (k:=(.inl (e.p:Int):Key)) hk,?_⟩
    rw[br.get];refine⟨_,_,rfl,rfl,le2,fun q9 ao=>⟨q9,_,rfl,u8 zb,rfl,_,_,rfl,_,_,rfl,_,rfl,_,rfl,?_⟩⟩
    have U:=M.same (zc (o:=.tup [.int (e.f:Int),.int ((xD e.p g:Int)+1)]) ao);have c6:=(zc (o:=.tup [.int (e.f:Int),.int ((xD e.p g:Int)+1)]) ao) _ _ hk;generalize upd H8 q9 (.tup [.int (e.f:Int),.int ((xD e.p g:Int)+1)])=H9 at U c6 ⊢;have dd:l.length<sizeLine:=by
     have h1:=br.l;have h2:g.length<=Y.length:=by rw[<- ah,qP];exact Vg _ _
     omega
    refine⟨L,_,rfl,DPut.k (k:=(.inl (e.p:Int):Key)) c6 dd,?_⟩
    have fa:=U.f.putN (o:=.dK (jB l (.inl (e.p:Int)) (.int ((xD e.p g:Int)+1)))) d7;have sa:upd H9 L (.dK (jB l (.inl (e.p:Int)) (.int ((xD e.p g:Int)+1)))) st=_:=(zj cd).trans U.s;have ca:upd H9 L (.dK (jB l (.inl (e.p:Int)) (.int ((xD e.p g:Int)+1)))) N=_:=(zj cg.symm).trans U.l;have c5:upd H9 L (.dK (jB l (.inl (e.p:Int)) (.int ((xD e.p g:Int)+1)))) O=_:=(zj ch.symm).trans U.g;have cm:upd H9 L (.dK (jB l (.inl (e.p:Int)) (.int ((xD e.p g:Int)+1)))) pk=_:=(zj U.np.2.1).trans U.p;have cy:=zb (H:=H9) (a:=L) (o:=.dK (jB l (.inl (e.p:Int)) (.int ((xD e.p g:Int)+1))));generalize upd H9 L (.dK (jB l (.inl (e.p:Int)) (.int ((xD e.p g:Int)+1))))=Ha at fa sa ca c5 cm cy ⊢;have hf:e.f<J.fs.length:=(zL.mp ef).1;have dz:(skV J g).length=J.fs.length:=by unfold skV;rw[zp,xV]
    refine⟨rfl,_,rfl,_,rfl,st,_,_,_,rfl,rfl,u7 sa,zY (Qt hf),_,_,rfl,rfl,_,rfl,_,rfl,st,_,_,e.f,rfl,rfl,sa,XR (by omega),?_⟩
    rw[zea c1 hf,<- et];have fb:=fa.putN (o:=.lst (skV J (Y.take (i+1)))) d6;have sb:=zb (H:=Ha) (a:=st) (o:=.lst (skV J (Y.take (i+1))));have lb:upd Ha st (.lst (skV J (Y.take (i+1)))) N=_:=(zj ce.symm).trans ca;have gb:upd Ha st (.lst (skV J (Y.take (i+1)))) O=_:=(zj cf.symm).trans c5;have pb:upd Ha st (.lst (skV J (Y.take (i+1)))) pk=_:=(zj U.np.1).trans cm;have tb:upd Ha st (.lst (skV J (Y.take (i+1)))) L=_:=(zj cd.symm).trans cy;generalize upd Ha st (.lst (skV J (Y.take (i+1))))=Hb at fb sb lb gb pb tb ⊢;have aj:=af.trans fb;obtain⟨dv,d2,dk⟩:=Q1 (rf.same aj) ef;obtain⟨d3,du,rfl,bi,_⟩:=xJ dk;obtain⟨di,bd,bo⟩:=Q1 (bn.same aj) ep;obtain⟨bh,cn,rfl,bj,_⟩:=yc bo;refine⟨_,rfl,jp,_,_,_,rfl,rfl,aj.sqT qj,rfl,_,rfl,fs,_,_,_,rfl,rfl,aj.sqT qf,zY d2,d3,_,_,_,rfl,rfl,bi,rfl,_,rfl,jp,_,_,_,rfl,rfl,aj.sqT qj,rfl,_,rfl,ps,_,_,_,rfl,rfl,aj.sqT bm,zY bd,bh,_,_,_,rfl,rfl,bj,rfl,rfl,_,rfl,ifF (by rw[ek];simp) ?_⟩
    have e1:skE J (Y.take (i+1)) e.f=fe.m-((qA g).count (e.f:Int):Int)-1:=by
     rw[et,zcE c1,zu rfl];unfold skE;rw[ef];rfl
    refine⟨_,rfl,_,rfl,st,_,_,_,rfl,rfl,u7 sb,zY (Qt hf),_,_,rfl,rfl,_,rfl,ifF (jM (by rw[e1];omega)) ?_⟩
    have dg:DGet Hb L (.int (e.p:Int)) (some (.int ((xD e.p g:Int)+1))):=by
     have:=DGet.k (k:=(.inl (e.p:Int):Key)) tb;rw[wH,zu rfl] at this;exact this
    refine⟨_,rfl,_,rfl,L,_,rfl,dg,_,rfl,_,_,rfl,rfl,_,rfl,ifF (jM (by omega)) ?_⟩
    refine⟨_,rfl,_,rfl,pk,_,rfl,.inl (u7 pb),rfl,jb _,_,rfl,?_⟩
    rw[xz];refine ifF (jM dn) ?_
    have bc:pOf (zt ["picked"] (Y.take (i+1)))=pOf (zt ["picked"] g)++(if decide (V.str e.w=V.str "picked")=true then [e.p] else []):=by
     rw[et,zq,qu,vQ];by_cases c:e.w=("picked":Str)
     ·rw[zu (qk (zR.mpr c)),zu (qk (congrArg V.str c))]
      rfl
     ·rw[zo (fun z=>c (zR.mp (qQ z))),zo (fun z=>c (V.str.inj (qQ z)))]
      rfl
    have dm:TD (jB l (.inl (e.p:Int)) (.int ((xD e.p g:Int)+1))) (Y.take (i+1)):=by
     rw[et];exact br.put c1
    have nw:∀{ws:List Str},e.w∉ws->zt ws (Y.take (i+1))=zt ws g:=fun h=>by rw[et,zq,xS h,z7]
    have nl:e.w∉(["laid"]:List Str):=fun z=>by
     rw[zR.mp z] at c1;exact absurd c1 (by decide)
    have ng:e.w∉zB:=fun z=>by
     have:∀x∈zw,x∉zB:=by decide
     exact this _ c1 z
    have dy:(pOf (zt ["picked"] g)).length<=5000:=by
     unfold pOf;rw[zp];refine jd (jt _ _) (jd ?_ el)
     rw[<- ah,qP];exact Vg _ _
    refine⟨_,rfl,_,rfl,le1,fun l1 d9=>⟨_,rfl,rfl,.inr ⟨_,rfl,?_⟩⟩⟩
    generalize decide (V.str e.w=V.str "picked")=bp at bc ⊢;have h1:=zc (H:=Hb) (o:=.lst [.int (e.p:Int)]) d9;have u1:=zb (H:=Hb) (a:=l1) (o:=.lst [.int (e.p:Int)]);generalize upd Hb l1 (.lst [.int (e.p:Int)])=Hc at h1 u1 ⊢;refine⟨l1,_,_,rfl,rfl,u1,by cases bp<;>decide,by cases bp<;>decide,?_,fun l2 da=>?_⟩
    ·cases bp
     ·exact qX _
     ·show 1*1<=sizeLine
      omega
    have e2:(List.replicate (if bp=true then(1:Int) else 0).toNat [V.int (e.p:Int)]).flatten=zE (if bp=true then [e.p] else []):=by cases bp<;>rfl
    have dr:(if bp=true then [e.p] else([]:List Nat)).length<=1:=by cases bp<;>exact YW rfl
    rw[e2];have h2:=zc (H:=Hc) (o:=.lst (zE (if bp=true then [e.p] else []))) da
    have u2:=zb (H:=Hc) (a:=l2) (o:=.lst (zE (if bp=true then [e.p] else [])))
    generalize upd Hc l2 (.lst (zE (if bp=true then [e.p] else [])))=Hd at h2 u2 ⊢
    have ak:=h1.trans h2;refine⟨pk,l2,_,_,rfl,rfl,ak _ _ pb,u2,by rw[zT,zT];omega,fun l3 an=>⟨_,_,_,_,l3,rfl,?_⟩⟩
    have s9:=ak.trans (zc (o:=.lst (zE (pOf (zt ["picked"] g))++zE (if bp=true then [e.p] else []))) an)
    refine⟨fb.trans s9,s9 _ _ sb,⟨_,s9 _ _ tb,dm⟩,by rw[nw nl];exact s9 _ _ lb,by rw[nw ng];exact s9 _ _ gb,?_,(zg (ak _ _ sb) an).symm,(zg (ak _ _ tb) an).symm,(zg (ak _ _ lb) an).symm,(zg (ak _ _ gb) an).symm⟩
    rw[zb,bc];unfold zE;rw[zM]
   refine ifF (jM c1) ?_
   have cz:∃l,H8 L=some (.dK l)/\TD l (Y.take (i+1)):=by
    obtain⟨l,h1,h2⟩:=M.t;exact⟨l,h1,by rw[et];exact h2.no c1⟩
   have cx:H8 st=some (.lst (skV J (Y.take (i+1)))):=by rw[et,zgg c1];exact M.s
   have cj:zt ["picked"] (Y.take (i+1))=zt ["picked"] g:=by
    rw[et,zq,xS (fun z=>c1 (by rw[zR.mp z];decide)),z7]
   have bb:∀ws,(pOf (zt ws g)).length<=5000:=fun ws=>by
    unfold pOf;rw[zp];refine jd (jt _ _) (jd ?_ el)
    rw[<- ah,qP];exact Vg _ _
   refine⟨_,rfl,rfl,_,rfl,?_⟩
   by_cases c2:e.w=("laid":Str)
   ·refine ifT (qk (congrArg V.str c2)) ?_
    obtain⟨p,pa,rfl,bz,_,ab⟩:=li.idx ee c2;rw[ah] at ab;have hp:=(zL.mp bz).1;have av:p∈pOf (zt ["picked"] g):=wo.d rfl;obtain⟨di,bd,bo⟩:=Q1 (bn.same bq) bz;obtain⟨bh,cn,rfl,bj,dj⟩:=yc bo;obtain⟨c,rfl,qc⟩:=ze1 rr;refine⟨_,rfl,_,rfl,pk,_,rfl,.inl (u7 M.p),rfl,jb _,_,rfl,?_⟩
    rw[xz];refine ifF (by rw[show decide ((Ev.laid p pa.k pa.x pa.y).p∈pOf (zt ["picked"] g))=true from qk av];rfl) ?_
    refine⟨_,rfl,2,rfl,ea,_,rfl,cp,(fun z=>absurd z.1 (by
     rw[show(some (2:Int))=some ((2:Nat):Int) from rfl,HT.sIx_nat]
     simp only[jU];omega)),fun T9 d8=>?_⟩
    rw[WK];have s9:=zc (H:=H8) (o:=.tup [.str pa.k,.ref c]) d8;have ao:=zb (H:=H8) (a:=T9) (o:=.tup [.str pa.k,.ref c]);generalize upd H8 T9 (.tup [.str pa.k,.ref c])=H9 at s9 ao ⊢;have U:=M.same s9;have cw:=bq.trans s9;refine⟨_,rfl,jp,_,_,_,rfl,rfl,cw.sqT qj,rfl,_,rfl,ps,_,_,_,rfl,rfl,cw.sqT bm,zY bd,T9,bh,c,cn,pa.k,pa.k,(pa.x,pa.y),(pa.x,pa.y),rfl,rfl,u8 ao,(cs.trans s9).sqT qc,s9.sqT bj,s9.sqT dj,_,rfl,ifF (by simp) ?_⟩
    have hm:p<aq.length:=by rw[lm,bf];exact hp
    have au:aq[p]? =some aq[p]:=qR hm;generalize aq[p]=ms at au;obtain⟨a2,e2,q2⟩:=ro p ms au;obtain⟨_,bx⟩:=am p ms au;have co:=U.f.seq q2;have ml:ms.length<=60:=by
     have de:ms.Nodup:=(am p ms au).1.imp fun h=>Int.ne_of_lt h
     have:=de.length_le_of_subset (l₂:=(List.range J.ps.length).map fun k:Nat=>(k:Int)) fun x hx=>by
      obtain⟨k',k1,wk⟩:=(bx x).mp hx;have av:=Wk.in1 jo.jsm.as k1 wk;have h1:=av.1;have h2:=av.2;exact qo.mpr ⟨x.toNat,x5.mpr (by omega),by omega⟩
     rw[zp,xV] at this;omega
    refine⟨_,rfl,_,rfl,ov,_,_,_,rfl,rfl,U.f.seq cq,zY e2,a2,rfl,⟨_,co⟩,jD (K:=K) (a:=a2) (xs:=ms.map V.int) (fun j zs H'=>zs=List.replicate j (V.bl true)/\Same H9 H') ⟨rfl,u9 _⟩ (fun j zs H' ⟨_,s'⟩=>s'.seq co) ?_ ?_⟩
    ·rintro j x zs H' hx ⟨rfl,s'⟩
     rw[zU] at hx;obtain⟨z,ez,rfl⟩:=qr.mp hx;have jl:=(zL.mp ez).1;obtain⟨k',n1,wk⟩:=(bx z).mp (je ez);have z0:=(Wk.in1 jo.jsm.as n1 wk).1;obtain⟨zn,rfl⟩:∃zn:Nat,z=(zn:Int):=⟨z.toNat,by omega⟩
     refine⟨rfl,_,rfl,_,rfl,N,_,rfl,.inl (u7 (s' _ _ U.l)),rfl,jb _,by rw[yu];omega,?_,s'⟩
     rw[xz,qk (ab zn ⟨k',n1,wk⟩),Vq];rfl
    ·rintro zs H' ⟨rfl,s'⟩
     refine⟨by rw[yu,zp];omega,fun D hD=>⟨D,List.replicate (ms.map V.int).length true,rfl,u7 (by rw[zb,Vl]),?_⟩⟩
     have aw:=s9.trans (s'.trans (zc (o:=.lst (List.replicate (ms.map V.int).length (V.bl true))) hD));generalize upd H' D (.lst (List.replicate (ms.map V.int).length (V.bl true)))=Hx at aw ⊢;have ag:=M.same aw;refine⟨_,rfl,ifF (by simp) ?_⟩
     refine⟨_,rfl,.inl ⟨rfl,_,u7 ag.l⟩,_,rfl,N,_,_,rfl,rfl,ag.l,by rw[zT];have:=bb ["laid"];omega,_,_,_,_,pk,rfl,?_⟩
     refine⟨ag.f.putN d5,(zj ce).trans (aw _ _ cx),?_,?_,?_,(zj ag.np.2.2.1).trans (by rw[cj];exact ag.p),ag.np⟩
     ·obtain⟨l,h1,h2⟩:=cz
      exact⟨l,(zj cg).trans (aw _ _ h1),h2⟩
     ·rw[zb,et,zq,xM (e:=.laid p pa.k pa.x pa.y) (show("laid":Str)∈(["laid"]:List Str) by decide),qu]
      unfold zE;rw[zM];rfl
     ·rw[et,zq,xS (e:=.laid p pa.k pa.x pa.y) (show("laid":Str)∉zB by decide),z7]
      exact(zj ci.symm).trans ag.g
   ·refine ifF (jM fun z=>c2 (V.str.inj z)) ?_
    have wg:e.w∈zB:=by
     cases e with
     | picked p f=>exact absurd (show("picked":Str)∈zw by decide) c1
     | missed p f=>exact absurd (show("missed":Str)∈zw by decide) c1
     | laid p k x y=>exact absurd rfl c2
     | behind p=>exact(show("behind":Str)∈zB by decide)
     | none p=>exact(show("none":Str)∈zB by decide)
     | failed p=>exact(show("failed":Str)∈zB by decide)
     | dropped p=>exact(show("dropped":Str)∈zB by decide)
    refine⟨_,rfl,.inl ⟨rfl,_,u7 M.g⟩,_,rfl,O,_,_,rfl,rfl,M.g,by rw[zT];have:=bb zB;omega,_,_,_,_,pk,rfl,?_⟩
    refine⟨M.f.putN d4,(zj cf).trans cx,?_,?_,?_,(zj M.np.2.2.2).trans (by rw[cj];exact M.p),M.np⟩
    ·obtain⟨l,h1,h2⟩:=cz
     exact⟨l,(zj ch).trans h1,h2⟩
    ·rw[et,zq,xS (fun z=>c2 (zR.mp z)),z7]
     exact(zj ci).trans M.l
    ·rw[zb,et,zq,xM wg,qu]
     unfold zE;rw[zM];rfl
  rintro σ H5 ⟨bt,bu,bv,bw,pk,rfl,ws⟩;rw[xl,qY] at ws;have mp:zE (pOf (zt ["laid"] Y))=((zt ["laid"] Y).map fun e=>(e.p:Int)).map V.int:=by
   unfold zE pOf;rw[xA,xA];rfl
  refine⟨_,rfl,N,(zt ["laid"] Y).map fun e=>(e.p:Int),rfl,u7 (by rw[ws.l,mp]),by rw[zp];omega,fun p1 ms h1 m1 m2=>?_⟩
  have s6:=zc (H:=H5) (o:=.lst (ms.map V.int)) h1;have aa:=(af.trans ws.f).trans s6;refine⟨_,rfl,T,_,_,_,rfl,rfl,u8 (aa _ _ hT),rfl,p1,a,ms,ls,rfl,rfl,u7 zb,u7 (aa _ _ ha),_,rfl,ifT (qk (yf (m1.trans lp.symm) m2 lw)) ⟨_,rfl,k O _ ?_ aa (s6 _ _ ws.g)⟩⟩
  exact g4
theorem zej{J:Job}(j:JIn J):∀{b:List Ev},(∀e∈b,vt J e)->∀p∈wM J b,inB p:=fun {b} h p hp=>by
 obtain⟨e,g,hp⟩:=List.mem_flatMap.mp hp;rcases zP.mp hp with z | z
 ·by_cases c:e.w∈zw
  ·rw[zu c] at z
   rw[zR.mp z];exact za5 j ((h e g).tr c)
  ·rw[zo c] at z
   cases z
 ·by_cases c:e.w=("laid":Str)
  ·rw[zu c] at z
   rw[zR.mp z];exact(h e g).ly
  ·rw[zo c] at z
   cases z
theorem QC(J:Job):∀b:List Ev,(wM J b).length<=b.length
 | []=>zQ _
 | e::b=>by
  have g:=QC J b;show(((if e.w∈zw then [Z8 J e.f] else [])++if e.w=("laid":Str) then [e.xy] else [])++wM J b).length<=b.length+1
  rw[zW,zW];by_cases c:e.w∈zw
  ·rw[zu c,zo (fun z=>by rw[z] at c;exact absurd c (by decide))]
   show 1+0+_<=_;omega
  ·rw[zo c]
   by_cases d:e.w=("laid":Str)
   ·rw[zu d]
    show 0+1+_<=_;omega
   ·rw[zo d]
    show 0+0+_<=_;omega
def Qv(J:Job)(b:List Ev):List (Int×Int):=([(J.gx,J.gy)]++wM J b)++[(J.gx,J.gy)]
theorem zec{J:Job}(j:JIn J){b:List Ev}(h:∀e∈b,vt J e):∀p∈Qv J b,inB p:=fun p hp=>by
 rcases zP.mp hp with hp | hp
 ·rcases zP.mp hp with hp | hp
  ·rw[zR.mp hp];exact j.g
  ·exact zej j h p hp
 ·rw[zR.mp hp];exact j.g
theorem zgi:zD ["_law_one","_law_other"] ["_law_one","_law_other"] (zr (topL 50)):=u5
theorem zeN{f:Addr}{l:FuncData}(F:Fun K "_law_way" "_law_way" (topL 50) f l)(B:Blt I):FnOk P w K I C CX0 1 f l ["_law_one","_law_other"] (VR K):=by
 refine F.ok zgi (fun G H Q E h=>?_) (fun D A i s H G Q E J h=>?_)
 ·obtain⟨u,v,p,q,rfl,_⟩:=h
  rfl
 ·obtain⟨u,v,p,q,rfl,c,g,k⟩:=h
  obtain⟨a,rfl,m⟩:=Qe c;obtain⟨b,rfl,hb⟩:=Qe g;refine⟨_,(zk (zC (zy (Zv rfl) rfl B.max QZ (za (zy vT rfl B.abs vU (za (zH vh (zx zI (pv 0) ze (fun _ _=>rfl)) (zx zI (pv 1) ze (fun _ _=>rfl))) zd)) (za (zy vT rfl B.abs vU (za (zH vh (zx zI (pv 0) ze (fun _ _=>rfl)) (zx zI (pv 1) ze (fun _ _=>rfl))) zd)) zd))))),?_⟩
  refine⟨_,rfl,a,_,_,_,rfl,rfl,m,rfl,_,rfl,b,_,_,_,rfl,rfl,hb,rfl,_,_,rfl,rfl,_,rfl,_,rfl,a,_,_,_,rfl,rfl,m,rfl,_,rfl,b,_,_,_,rfl,rfl,hb,rfl,_,_,rfl,rfl,_,rfl,_,_,rfl,k⟩
inductive zax(K:W.Frag)(u:List V)(H:Hp)(Q:VK):Prop
 | mk (i l B g:Addr) (J:Job) (s:List qV) (A:List Bool) (m:Nat) (b:List Ev) (_:u=[.ref i,.ref l,.ref g]) (_:CaseAt K H i l B J s A m) (_:Evs K H g b) (_:(∀e∈b,vt J e)) (_:b.length<=5000) (_:∀c,Same H c->Q (.int (s.map fun t=>y9 J (ofP t.ly b)).sum) c):zax K u H Q
def zcD(K:W.Frag):Sp:=fun b H Q _=>zax K b H Q
theorem zfL:zD ["_law_job_here","_law_plan_here","_law_events","_law_total","_law_picks","_law_lays","_law_places_here","_law_event"] ["_law_job_here","_law_plan_here","_law_events"] (zr (topL 55)):=u5
def zi4{l:Value}{f:Addr}{A:Around}{g:List Env}{s:Shared}{H:Hp}{E:XK}(B:Blt I)(m:Room 1 (A.deeper (envOfC "_law_far" (zr (topL 55)) s.heap.objs.size f l)))(b:Dfn P w K I C "_law_way" 1 ["_law_one","_law_other"] (VR K))(c:(["_law_job_here","_law_plan_here","_law_events","_law_total","_law_picks","_law_lays","_law_places_here","_law_event"]:List Str).Nodup):{ t:TS // PSs (JD CX0 P w K I C ["_law_job_here","_law_plan_here","_law_events","_law_total","_law_picks","_law_lays","_law_places_here","_law_event"] "_law_far" (zr (topL 55)) f l A g s H E).nox (xP (topL 55)) t }:=
 have hu:=m.units0;have u:=m.units
 ⟨_,(zf (zG (i:=3) c rfl (Or.inl rfl) ze)
     (zf (qS jr rfl (qD (pv 1)) (jN rfl (zK (zA (i:=4) c rfl (Or.inl rfl)) (zK (zA (i:=5) c rfl (Or.inr rfl)) jv)))
     (zf (zG (i:=6) c rfl (Or.inl rfl) (zV zd))
      (zf (qS jr rfl (qD (jZ ["_law_lays"] [5] rfl rfl (by kernel_rfl) (qD (pv 2)) (fun _ _ _ _=>(vC (zF (jP (K:=K) rfl) (zx (jc (K:=K) rfl) (pv 0) ze (fun _ _=>rfl)) (pv 1) (by with_unfolding_all rfl)))) (fun _ _ _ _=>(pv 0)))) (zA (i:=7) c rfl (Or.inl rfl))
      (zf (jq (zF jJ (zx zI (pv 7) ze (fun _ _=>rfl)) (qB (za jz (za jz zd))) (by with_unfolding_all rfl))
       (zk (qK (jO jV xG xF qF (pv 6) (za (zx zI (zx zI (zx zI (pv 0) ze (fun _ _=>rfl)) (zx zI (pv 7) ze (fun _ _=>rfl)) (fun _ _=>rfl)) ze (fun _ _=>rfl)) zd))))
       qy)
       (zk (jq (zF xm (zx zI (pv 7) ze (fun _ _=>rfl)) jz (zS _))
       (zk (qK (jO jV xG xF qF (pv 6) (za (zx zI (pv 7) ze (fun _ _=>rfl)) zd))))
       qy))))
      (zf (zG (i:=6) c rfl (Or.inl rfl) (zH jQ (zH jQ (zV (za (zx zI (pv 0) ze (fun _ _=>rfl)) zd)) (pv 6)) (zV (za (zx zI (pv 0) ze (fun _ _=>rfl)) zd))))
      (zk (zG (i:=3) c rfl (Or.inl rfl) (zH qT (pv 3) (zy (Xm rfl) rfl B.sum boot_sum (za (wj [] [] rfl rfl (by kernel_rfl) (Yl rfl B.zip (za (pv 6) (za (xR ya (pv 6) (x6 ze) wc) zd))) (fun _ _ _ _=>jk) (fun _ _ _ _=>(zi b m.m rfl (za (pv 0) (za (pv 1) zd))))) zd)))))))))
     (zk (zC (pv 3)))))⟩
theorem zgV{f:Addr}{fd:FuncData}(F:Fun K "_law_far" "_law_far" (topL 55) f fd)(B:Blt I)(ac:Dfn P w K I C "_law_way" 1 ["_law_one","_law_other"] (VR K)):FnOk P w K I C CX0 2 f fd ["_law_job_here","_law_plan_here","_law_events"] (zcD K):=by
 have nd:=zfL.nd;refine F.ok zfL (fun vs H Q E h=>?_) (fun bq A bg s H vs Q E hr h=>?_)
 ·obtain⟨jp,pl,lk,eo,J,ts,bs,m,G,rfl,_⟩:=h
  rfl
 ·obtain⟨jp,pl,lk,eo,J,ts,bs,m,G,rfl,c,⟨xs,he,rx⟩,b0,el,k⟩:=h
  obtain⟨br,jo⟩:=c.jo;have bp:=bG1000000;have rj:=c.rj;obtain⟨tr,al,rt⟩:=c.rp;have ax:=rt.len;have xl:=rx.len;rw[zp] at ax xl;obtain⟨g,fs,ps,as,fv,px,qj,rg,qf,rf,bt,bu,_⟩:=xo rj;refine⟨_,(zi4 B hr ac nd).2,?_⟩
  refine⟨_,rfl,pl,rfl,⟨_,u7 al⟩,jG (K:=K) (a:=pl) (xs:=tr) (fun i σ H'=>Ex4 fun(v4 v5 v6 v7:Option V)=>An2 (σ=[some (.ref jp),some (.ref pl),some (.ref eo),some (.int ((ts.take i).map fun t=>y9 J (ofP t.ly G)).sum),v4,v5,v6,v7]) (Same H H')) ⟨_,_,_,_,rfl,u9 _⟩ (fun i σ H' _ ⟨_,_,_,_,_,s'⟩=>u7 (s' _ _ al)) ?_ ?_⟩
  ·rintro i x σ H1 hx ⟨v4,v5,v6,v7,rfl,s1⟩
   obtain⟨d,ed,rd⟩:=(rt.same s1).get hx;rw[zU] at ed;obtain⟨t,et,rfl⟩:=qr.mp ed;obtain⟨tp,zz,ex,_⟩:=id rd;subst ex;obtain⟨ta,tc,bw,bx,qt,qa,ra,qc,rc⟩:=VI rd;cases QJ rc;refine⟨tp,_,rfl,qt,rfl,_,_,rfl,_,_,rfl,rfl,?_⟩
   refine⟨le0,fun O am=>?_⟩
   have aj:=s1.none am;have s2:=zc (H:=H1) (o:=.lst []) am;have P2:=zb (H:=H1) (a:=O) (o:=.lst []);generalize upd H1 O (.lst [])=H2 at s2 P2 ⊢;have ab:=s1.trans s2;refine⟨_,rfl,eo,rfl,⟨_,u7 (ab _ _ he)⟩,jD (K:=K) (a:=eo) (xs:=xs) (fun j u M=>Reps K M ((ofP t.ly (G.take j)).map evD) u/\Same H2 M) ⟨rfl,u9 _⟩ (fun j u M ⟨_,s3⟩=>u7 ((ab.trans s3) _ _ he)) ?_ ?_⟩
   ·rintro j y u M hy ⟨rz,s3⟩
    obtain⟨d,ed,re⟩:=(rx.same (ab.trans s3)).get hy;rw[zU] at ed;obtain⟨e,ee,rfl⟩:=qr.mp ed;obtain⟨ea,rs,rfl,qe,_⟩:=xO re;have jl:=(zL.mp ee).1;have zl:=rz.len;rw[zp] at zl;have z2:(ofP t.ly (G.take j)).length<=j:=jd (jt _ _) (by rw[qP];omega)
    have e2:ofP t.ly (G.take (j+1))=ofP t.ly (G.take j)++if decide (e.p∈t.ly)=true then [e] else []:=by
     rw[qq ee,XM];unfold ofP;rw[yp];rfl
    refine⟨rfl,_,rfl,ea,_,_,_,rfl,rfl,qe,zY (j:=1) rfl,_,rfl,tc,_,rfl,.inr ((s2.trans s3).sqT qc),rfl,jb _,_,rfl,?_⟩
    rw[xz,e2];refine jX (fun c=>⟨_,rfl,by omega,?_,s3⟩) (fun c=>⟨?_,s3⟩)
    ·rw[zu (show decide (e.p∈t.ly)=true from c),zM]
     exact ub re rz
    ·rw[zo (show ¬decide (e.p∈t.ly)=true from c),z7];exact rz
   rintro u M ⟨rz,s3⟩;rw[xl,qY] at rz;have zl:=rz.len;rw[zp] at zl;have ag:∀e∈ofP t.ly G,vt J e:=fun e he=>b0 e (ji.mp he).1
   have ol:(ofP t.ly G).length<=5000:=jd (jt _ _) el;have bm:=ab.trans s3;have P3:=s3 _ _ P2;generalize az:ofP t.ly G=l at rz zl ag ol;refine⟨by omega,fun q hq=>⟨q,rfl,⟨_,u7 zb⟩,?_⟩⟩
   have s4:=zc (H:=M) (o:=.lst u) hq;have Q4:=zb (H:=M) (a:=q) (o:=.lst u);have nq:O≠q:=zg P3 hq;have aq:=rz.same s4;have P4:=s4 _ _ P3;generalize upd M q (.lst u)=H4 at s4 Q4 aq P4 ⊢;have bn:=bm.trans s4;refine jG (K:=K) (a:=q) (xs:=u) (fun j σ H'=>Ex2 fun(v7:Option V) (b:List V)=>An6 (σ=[some (.ref jp),some (.ref pl),some (.ref eo),some (.int ((ts.take i).map fun t=>y9 J (ofP t.ly G)).sum),some (.ref ta),some (.ref tc),some (.ref O),v7]) (Same H H') (H' O=some (.lst b)) (Reps K H' ((wM J (l.take j)).map plD) b) (H' q=some (.lst u)) (Reps K H' (l.map evD) u)) ⟨_,[],rfl,bn,P4,rfl,Q4,aq⟩ (fun j σ H' _ ⟨_,_,_,_,_,_,h,_⟩=>u7 h) ?_ ?_
   ·rintro j y σ H5 hy ⟨v7,b,rfl,s5,P5,r5,Q5,ar⟩
    obtain⟨d,ed,re⟩:=ar.get hy;rw[zU] at ed;obtain⟨e,ee,rfl⟩:=qr.mp ed;obtain⟨ea,rs,rfl,qe,rr⟩:=xO re;have jl:=(zL.mp ee).1;have yl:=r5.len;rw[zp] at yl;have bo:b.length<=5000:=by
     have h1:=QC J (l.take j);rw[qP] at h1;omega
    have e2:wM J (l.take (j+1))=wM J (l.take j)++((if e.w∈zw then [Z8 J e.f] else [])++if e.w=("laid":Str) then [e.xy] else []):=by
     rw[qq ee,Wg];unfold wM;rw[Vh,Vf,z7]
    refine⟨_,rfl,ea,_,_,_,rfl,rfl,qe,zY (j:=0) rfl,le2,fun t8 bd=>⟨t8,zw.map V.str,rfl,.inr (u8 zb),rfl,vI _,_,rfl,?_⟩⟩
    have s8:=zc (H:=H5) (o:=.tup [.str "picked",.str "missed"]) bd;rw[Qg];have P8:=s8 _ _ P5;have Q8:=s8 _ _ Q5;have r8:=r5.same s8;have aa:=ar.same s8;have U:=s8.sqT qe;have D:=s5.trans s8;have a0:=rr.same s8;generalize upd H5 t8 (.tup [.str "picked",.str "missed"])=H8 at s8 P8 Q8 r8 aa U D a0 ⊢;rw[zo qH];by_cases c1:e.w∈zw
    ·have nl:¬e.w=("laid":Str):=fun z=>by rw[z] at c1;exact absurd c1 (by decide)
     rw[zu c1,zo nl,z7] at e2;refine ifT (qk c1) ?_
     have er:=Qb (e:=e) (es:=[e]) (by rw[xM c1];exact qI)
     rw[er] at a0;obtain⟨v0,r0,rfl,e0,e1⟩:=a0;cases(show v0=_ from e0)
     cases(show r0=[] from e1)
     obtain⟨fa,fc,kd,mm,ef,bh,bi⟩:=za7 (rf.same D) ((ag e (je ee)).tr c1);refine⟨_,rfl,.inl ⟨rfl,_,u7 P8⟩,_,rfl,jp,_,_,_,rfl,rfl,D.sqT qj,rfl,_,rfl,ea,_,_,_,rfl,rfl,U,zY (j:=2) rfl,fs,_,_,.ref fa,rfl,rfl,D.sqT qf,zY ef,fa,_,_,_,rfl,rfl,bh,rfl,O,_,_,rfl,rfl,P8,by omega,?_⟩
     have T9:=ud (ys:=b++[V.ref fc]) P8;have P9:=zb (H:=H8) (a:=O) (o:=.lst (b++[.ref fc]));have s9:=D.putN (o:=.lst (b++[.ref fc])) aj;have Q9:upd H8 O (.lst (b++[.ref fc])) q=some (.lst u):=(zj nq.symm).trans Q8;have r9:Reps K (upd H8 O (.lst (b++[.ref fc]))) ((wM J (l.take (j+1))).map plD) (b++[.ref fc]):=by
      rw[e2,zM];exact(ub bi r8).keep T9 (by rw[<- zM];exact XJ _)
     have N:=aa.keep T9 (x8 _);have an:=U.keep T9;generalize upd H8 O (.lst (b++[.ref fc]))=H9 at P9 s9 Q9 r9 N an ⊢;exact⟨_,rfl,ea,_,_,_,rfl,rfl,an,zY (j:=0) rfl,rfl,_,rfl,ifF (jM fun z=>nl (V.str.inj z)) ⟨_,_,rfl,s9,P9,r9,Q9,N⟩⟩
    refine ifF (jM c1) ?_
    rw[zo c1,vX] at e2;refine⟨_,rfl,ea,_,_,_,rfl,rfl,U,zY (j:=0) rfl,rfl,_,rfl,?_⟩
    by_cases c2:e.w=("laid":Str)
    ·rw[zu c2] at e2
     refine ifT (qk (congrArg V.str c2)) ?_
     obtain⟨p,kd,ex,ey,rfl⟩:∃p kd ex ey,e=.laid p kd ex ey:=by
      cases e with
      | laid p k x y=>exact⟨p,k,x,y,rfl⟩
      | picked p f=>exact absurd (show("picked":Str)∈zw by decide) c1
      | missed p f=>exact absurd (show("missed":Str)∈zw by decide) c1
      | behind p=>exact absurd c2 (show ¬("behind":Str) = "laid" by decide)
      | none p=>exact absurd c2 (show ¬("none":Str) = "laid" by decide)
      | failed p=>exact absurd c2 (show ¬("failed":Str) = "laid" by decide)
      | dropped p=>exact absurd c2 (show ¬("dropped":Str) = "laid" by decide)
     obtain⟨v0,r0,rfl,e0,v1,r1,rfl,e1,e3⟩:=a0;cases(show r1=[] from e3)
     refine⟨_,rfl,.inl ⟨rfl,_,u7 P8⟩,_,rfl,ea,_,_,_,rfl,rfl,U,zY (j:=3) rfl,O,_,_,rfl,rfl,P8,by omega,?_⟩
     have T9:=ud (ys:=b++[v1]) P8;refine⟨_,_,rfl,D.putN aj,zb,?_,(zj nq.symm).trans Q8,aa.keep T9 (x8 _)⟩
     rw[e2,zM];exact(ub (d:=plD (ex,ey)) e1 r8).keep T9 (by rw[<- zM];exact XJ _)
    ·rw[zo c2,z7] at e2
     exact ifF (jM fun z=>c2 (V.str.inj z)) ⟨_,_,rfl,D,P8,by rw[e2];exact r8,Q8,aa⟩
   rintro σ H5 ⟨v7,b,rfl,s5,P5,r5,_,_⟩;rw[zl,qY] at r5;have yl:=r5.len;rw[zp] at yl;have bo:=QC J l;refine⟨_,rfl,jp,_,_,_,rfl,rfl,s5.sqT qj,rfl,le1,fun l1 ba=>?_⟩
   have t1:=zc (H:=H5) (o:=.lst [.ref g]) ba;have L1:=zb (H:=H5) (a:=l1) (o:=.lst [.ref g]);generalize upd H5 l1 (.lst [.ref g])=H6 at t1 L1 ⊢;refine⟨_,rfl,l1,O,_,_,rfl,rfl,L1,t1 _ _ P5,by show 1+_<=_;omega,fun l2 bb=>?_⟩
   have t2:=t1.trans (zc (o:=.lst ([.ref g]++b)) bb);have L2:=zb (H:=H6) (a:=l2) (o:=.lst ([.ref g]++b));generalize upd H6 l2 (.lst ([.ref g]++b))=H7 at t2 L2 ⊢;refine⟨_,rfl,jp,_,_,_,rfl,rfl,(s5.trans t2).sqT qj,rfl,le1,fun l3 ak=>?_⟩
   have t3:=t2.trans (zc (o:=.lst [.ref g]) ak);have L3:=zb (H:=H7) (a:=l3) (o:=.lst [.ref g]);have ah:=(zc (o:=.lst [.ref g]) ak) _ _ L2;generalize upd H7 l3 (.lst [.ref g])=H8 at t3 L3 ah ⊢;refine⟨l2,l3,_,_,rfl,rfl,ah,L3,by rw[zW];show 1+_+1<=_;omega,fun l4 bc=>?_⟩
   have t4:=t3.trans (zc (o:=.lst (([.ref g]++b)++[.ref g])) bc);have L4:=zb (H:=H8) (a:=l4) (o:=.lst (([.ref g]++b)++[.ref g]));generalize upd H8 l4 (.lst (([.ref g]++b)++[.ref g]))=H9 at t4 L4 ⊢;have av:=s5.trans t4;have ao:=rg.same av;have N:Reps K H9 ((Qv J l).map plD) (([.ref g]++b)++[.ref g]):=by
    unfold Qv;rw[zM,zM];exact uc (uc ⟨.ref g,[],rfl,ao,rfl⟩ (r5.same t4)) ⟨.ref g,[],rfl,ao,rfl⟩
   have bj:=zec jo.jin ag;have bv:(Qv J l).length<=5002:=by
    unfold Qv;rw[zW,zW];show 1+_+1<=5002;omega
   have ai:y9 J l=(xh (Qv J l)).sum:=rfl;generalize ([V.ref g]++b)++[.ref g]=Y at L4 N;have bf:=N.len;rw[zp] at bf;refine⟨_,rfl,_,rfl,_,rfl,1,rfl,l4,Y,rfl,u7 L4,fun tz be=>?_⟩
   have s6:=zc (H:=H9) (o:=.lst (jE Y (some 1) none)) be;have ae:upd H9 tz (.lst (jE Y (some 1) none)) tz=some (.lst (Y.drop 1)):=by rw[zb,Xk]
   have af:=s6 _ _ L4;have ap:=N.same s6;have aw:=av.trans s6;generalize upd H9 tz (.lst (jE Y (some 1) none))=Hx at s6 ae af ap aw ⊢;refine⟨true,true,l4,tz,rfl,⟨Y,u7 af⟩,⟨_,u7 ae⟩,?_⟩
   refine Yy (K:=K) (k1:=true) (k2:=true) (xs:=Y) (ys:=Y.drop 1) (fun j u M=>u=((xh (Qv J l)).take j).map V.int/\Same Hx M) ⟨rfl,u9 _⟩ (fun j u M ⟨_,sm⟩=>⟨sm.seq (u7 af),sm.seq (u7 ae)⟩) ?_ ?_
   ·rintro j x y u M T e1 e2 ⟨rfl,sm⟩ hT
    have ay:Y[j+1]? =some y:=by rw[Vm] at e2;rw[Nat.add_comm];exact e2
    have s4:=sm.trans (zc (o:=.tup [x,y]) hT);have au:=ap.same s4;obtain⟨d1,q1,r1⟩:=au.get e1;obtain⟨d2,q2,r2⟩:=au.get ay;rw[zU] at q1 q2;obtain⟨p,w1,rfl⟩:=qr.mp q1;obtain⟨q,w2,rfl⟩:=qr.mp q2;refine⟨T,_,rfl,u8 zb,rfl,_,_,rfl,_,_,rfl,rfl,rfl,?_⟩
    refine⟨_,rfl,_,rfl,x,y,p,q,rfl,r1,r2,?_,?_,s4⟩
    ·have:=xQ (Qv J l)
     rw[zp,qP];omega
    ·rw[qq (Qm w1 w2),zM];rfl
   ·rintro u M ⟨rfl,sm⟩
    have hm:min Y.length (Y.drop 1).length=(xh (Qv J l)).length:=by rw[xQ,ZV];omega
    refine⟨by rw[zp,qP];omega,fun L hL=>⟨L,xh (Qv J l),rfl,?_,fun z hz=>?_,by rw[xQ];omega,?_⟩⟩
    ·refine u7 ?_
     rw[zb,hm,qY]
    ·have:=Qa bj z hz
     omega
    have fin:((ts.take i).map fun t=>y9 J (ofP t.ly G)).sum+(xh (Qv J l)).sum=((ts.take (i+1)).map fun t=>y9 J (ofP t.ly G)).sum:=by
     rw[qq et,zM,YM,<- ai,<- az];show _=_+(y9 J (ofP t.ly G)+0);omega
    exact⟨_,_,rfl,rfl,some (.ref ta),some (.ref tc),some (.ref l4),v7,by rw[<- fin];rfl,(aw.trans sm).trans (zc hL)⟩
  ·rintro σ H1 ⟨v4,v5,v6,v7,rfl,s1⟩
   rw[ax,qY];exact⟨_,rfl,k _ s1⟩
theorem QS{l:List Int}:∀v∈l.map V.int,eqV v v=true:=fun v hv=>by
 obtain⟨z,_,rfl⟩:=qo.mp hv;exact yO z
theorem Zs(l:List Int):(l.map V.int).all jS=true:=by
 rw[Je];exact xB.mpr fun _ _=>rfl
theorem zaU(l:List Nat):zE l=(l.map fun k:Nat=>(k:Int)).map V.int:=by
 unfold zE;rw[xA];rfl
theorem QF(l:List Ev):(pOf l).map (fun k:Nat=>(k:Int))=l.map fun e=>(e.p:Int):=by
 unfold pOf;rw[xA];rfl
theorem RunAt.all{J:Job}{s:List Bool}{n:Nat}{g:List qV}{l:List Ev}{w:Int}{B u:List Int}(c:CaseOk J g)(r:RunAt J s n g l w B u):ziD J n (zX g) (g.map prT) l w/\Lies J l:=by
 obtain⟨os,m,E,i⟩:=c.po;have D:=Qf m i.sub;have b:∀t∈g.map prT,t.2.Perm (t.1.map (·.1)):=fun t A=>by
  obtain⟨x,hx,rfl⟩:=qo.mp A;exact(i.tr x hx).ly
 refine⟨r.run.wlk (by rw[Ql];exact D) b (fun p hp=>by rw[Ql] at hp;exact hp),?_⟩
 exact(r.run.done (L:=zX g) (m.nodup_iff.mpr ZS) i.sub E i.cl ⟨[],by rw[<- Ql,z7];rfl⟩ b).ls
inductive zcs(K:W.Frag)(l:List V)(H:Hp)(Q:VK):Prop
 | mk (c i g:Addr) (J:Job) (u:List qV) (s:List Bool) (m n:Nat) (_:l=[.ref c,.ref i,.ref g,.int (n:Int)]) (_:CaseAt K H c i g J u s m) (_:n<=5) (_:∀b,Same H b->Q (.bl true) b):zcs K l H Q
def zge(K:W.Frag):Sp:=fun b H Q _=>zcs K b H Q
theorem zhR:zD ["_law_job_here","_law_plan_here","_law_luck_here","_law_tries","_law_found","_law_given"] ["_law_job_here","_law_plan_here","_law_luck_here","_law_tries"] (zr (topL 56)):=u5
def rrT{J:Value}{f:Addr}{A:Around}{G:List Env}{s:Shared}{H:Hp}{E:XK}(B:Blt I)(u:Room 10 (A.deeper (envOfC "_law_run_right" (zr (topL 56)) s.heap.objs.size f J)))(l:Dfn P w K I C "run_plan" 7 ["job","plan","luck","tries"] (Qp K))(m:Dfn P w K I C "_law_walk" 2 ["_law_job_here","_law_plan_here","_law_found","_law_tries"] (Yb K))(g:Dfn P w K I C "order_of" 1 ["plan"] (JU K))(D:Dfn P w K I C "_law_far" 2 ["_law_job_here","_law_plan_here","_law_events"] (zcD K))(b:Dfn P w K I C "lies_right" 7 ["job","events"] (Yg K))(c:Dfn P w K I C "shows_run" 10 ["job","plan","luck","tries","thing"] (Yc K))(M:(["_law_job_here","_law_plan_here","_law_luck_here","_law_tries","_law_found","_law_given"]:List Str).Nodup):{ t:TS // PSs (JD CX0 P w K I C ["_law_job_here","_law_plan_here","_law_luck_here","_law_tries","_law_found","_law_given"] "_law_run_right" (zr (topL 56)) f J A G s H E).nox (xP (topL 56)) t }:=
 have hu:=u.units0;have L:=u.units
 ⟨_,(zf (zG (i:=4) M rfl (Or.inl rfl) (zi l u.m rfl (za (pv 0) (za (pv 1) (za (pv 2) (za (pv 3) zd))))))
     (zf (zG (i:=5) M rfl (Or.inl rfl) (zi m u.m rfl (za (pv 0) (za (pv 1) (za (pv 4) (za (pv 3) zd))))))
     (zf (jq (PW.pt (vL (zF zc8 (pv 5) yE (zS _)) (vL (zF (Yo hu) (zy jF rfl B.sorted jC (za (pv 5) zd)) (zx zI (pv 4) ze (fun _ _=>rfl)) (zS _)) (wL (zF (Yo hu) (zy jF rfl B.sorted jC (za (zH jQ (zx zI (pv 4) ze (fun _ _=>rfl)) (zx zI (pv 4) ze (fun _ _=>rfl))) zd)) (zy jF rfl B.sorted jC (za (zi g u.m rfl (za (pv 1) zd)) zd)) (zS _))))))
     (zk (zC vg))
     qy)
     (zf (jq (PW.pt (vL (zF zaQ (zx zI (pv 4) ze (fun _ _=>rfl)) (zi D u.m rfl (za (pv 0) (za (pv 1) (za (zx zI (pv 4) ze (fun _ _=>rfl)) zd)))) (zS _)) (wL (zF zew (zi b u.m rfl (za (pv 0) (za (zx zI (pv 4) ze (fun _ _=>rfl)) zd))) vg (zS _)))))
     (zk (zC vg))
     qy)
     (zk (zC (qZ zgI (zi c u.m rfl (pa5 (pv 0) (pv 1) (pv 2) (pv 3) (pv 4))) vg (zS _))))))))⟩
theorem zic{f:Addr}{fd:FuncData}(F:Fun K "_law_run_right" "_law_run_right" (topL 56) f fd)(B:Blt I)(G:Dfn P w K I C "run_plan" 7 ["job","plan","luck","tries"] (Qp K))(O:Dfn P w K I C "_law_walk" 2 ["_law_job_here","_law_plan_here","_law_found","_law_tries"] (Yb K))(D:Dfn P w K I C "order_of" 1 ["plan"] (JU K))(a0:Dfn P w K I C "_law_far" 2 ["_law_job_here","_law_plan_here","_law_events"] (zcD K))(i:Dfn P w K I C "lies_right" 7 ["job","events"] (Yg K))(l:Dfn P w K I C "shows_run" 10 ["job","plan","luck","tries","thing"] (Yc K)):FnOk P w K I C CX0 11 f fd ["_law_job_here","_law_plan_here","_law_luck_here","_law_tries"] (zge K):=by
 have nd:=zhR.nd;refine F.ok zhR (fun vs H Q E h=>?_) (fun ax A aq s H vs Q E hr h=>?_)
 ·obtain⟨jp,pl,lk,J,ts,bs,m,n,rfl,_⟩:=h
  rfl
 ·obtain⟨jp,pl,lk,J,ts,bs,m,n,rfl,c,n5,k⟩:=h
  have aw:=bG1000000;refine⟨_,(rrT B hr G O D a0 i l nd).2,?_⟩
  refine⟨_,rfl,_,rfl,_,rfl,_,rfl,wU (E:=E0) c (u7 c.hl) n5 fun T eo a b N w ls gs H1 s1 Y he ha hb L ay fa fb fT n1 n2 n3=>?_⟩
  obtain⟨aa,li⟩:=L.all c.ok;have am:=c.ok.few.1;have pm:=aa.pm;rw[Ql] at pm;have ar:=pm.length_eq;rw[zW] at ar;have l1:(pOf (zt ["laid"] N)).length=(zt ["laid"] N).length:=zp _;have l2:(pOf (zt zB N)).length=(zt zB N).length:=zp _;have c1:=c.same s1;refine⟨_,rfl,_,rfl,_,rfl,_,rfl,jp,pl,lk,T,eo,a,b,J,ts,bs,m,n,N,w,ls,gs,rfl,c1,aa.wk,li,L.el,by omega,Y,he,ha,L.pl,L.wl,fun g H2 hg s2 an=>?_⟩
  have b0:=s1.trans s2;refine⟨_,rfl,rfl,_,rfl,ifF rfl ?_⟩
  refine⟨_,rfl,g,(pOf (zt zB N)).map fun k:Nat=>(k:Int),rfl,u7 (by rw[an,zaU]),by rw[zp];omega,fun p1 U h1 m1 m2=>?_⟩
  have s3:=zc (H:=H2) (o:=.lst (U.map V.int)) h1;have P3:=zb (H:=H2) (a:=p1) (o:=.lst (U.map V.int));generalize upd H2 p1 (.lst (U.map V.int))=H3 at s3 P3 ⊢;have u:=s2.trans s3;have as:=s1.trans u;have e1:U=gs:=yf ((m1.trans (by rw[QF])).trans L.pg.symm) m2 L.wg
  subst e1;refine⟨_,rfl,T,_,_,_,rfl,rfl,u8 (u _ _ Y),rfl,p1,b,_,rfl,rfl,u7 P3,u7 (u _ _ hb),Zs _,QS,_,rfl,ifF rfl ?_⟩
  obtain⟨tr,ao,rt⟩:=c.rp;have ml:=L.pg.length_eq;have ll:=L.pl.length_eq;rw[zp] at ml ll;refine⟨_,rfl,T,_,_,_,rfl,rfl,u8 (u _ _ Y),rfl,_,rfl,T,_,_,_,rfl,rfl,u8 (u _ _ Y),rfl,a,b,_,_,rfl,rfl,u _ _ ha,u _ _ hb,by rw[zp,zp];omega,fun l4 h4=>?_⟩
  have s4:=zc (H:=H3) (o:=.lst (ls.map V.int++U.map V.int)) h4;have P4:=zb (H:=H3) (a:=l4) (o:=.lst (ls.map V.int++U.map V.int));generalize upd H3 l4 (.lst (ls.map V.int++U.map V.int))=H4 at s4 P4 ⊢;refine⟨l4,ls++U,rfl,u7 (by rw[P4,zM]),by rw[zW];omega,fun p2 us h5 a1 a2=>?_⟩
  have s5:=zc (H:=H4) (o:=.lst (us.map V.int)) h5;have P5:=zb (H:=H4) (a:=p2) (o:=.lst (us.map V.int));generalize upd H4 p2 (.lst (us.map V.int))=H5 at s5 P5 ⊢;have ae:=as.trans (s4.trans s5);refine⟨_,rfl,pl,ts,tr,rfl,ae _ _ ao,rt.same ae,jd am (by decide),fun l6 H6 az s6 L6=>⟨l6,(zX ts).map fun k:Nat=>(k:Int),rfl,u7 (by rw[L6,zaU]),by rw[zp];omega,fun p3 vs h7 b1 b2=>?_⟩⟩
  have s7:=zc (H:=H6) (o:=.lst (vs.map V.int)) h7;have P7:=zb (H:=H6) (a:=p3) (o:=.lst (vs.map V.int));generalize upd H6 p3 (.lst (vs.map V.int))=H7 at s7 P7 ⊢;have ai:=s6.trans s7;have e2:us=vs:=by
   refine yf ((a1.trans ?_).trans b1.symm) a2 b2
   refine(L.pl.append (m1.trans (by rw[QF]))).trans ?_
   rw[<- QF,<- QF,<- zM];exact pm.map _
  subst e2;refine⟨p2,p3,_,rfl,rfl,u7 (ai _ _ P5),u7 P7,Zs _,QS,_,rfl,ifF rfl ?_⟩
  have av:=s4.trans (s5.trans ai);have M:=u.trans av;have af:=s1.trans M;have c7:=c.same af;have ak:=Evs.same he M;have ap:JIn J:=by
   obtain⟨ac,jo⟩:=c.jo;exact jo.jin
  have aj:=fun e h=>((L.run.gd ap).1 e h).2
  have al:w=(ts.map fun t=>y9 J (ofP t.ly N)).sum:=by
   rw[aa.far,xA];rfl
  refine⟨_,rfl,T,_,_,_,rfl,rfl,u8 (M _ _ Y),rfl,_,rfl,_,rfl,_,rfl,T,_,_,_,rfl,rfl,u8 (M _ _ Y),rfl,jp,pl,lk,eo,J,ts,bs,m,N,rfl,c7,ak,aj,L.el,fun H8 s8=>?_⟩
  obtain⟨ac,jo⟩:=c.jo;have ab:=M.trans s8;have ag:=af.trans s8;refine⟨rfl,_,rfl,ifF (by rw[al];simp) ?_⟩
  refine⟨_,rfl,_,rfl,T,_,_,_,rfl,rfl,u8 (ab _ _ Y),rfl,jp,eo,J,ac,N,rfl,(c.rj).same ag,jo,Evs.same he ab,li,jd L.el (by decide),fun H9 s9=>⟨true,true,rfl,rfl,_,rfl,ifF rfl ?_⟩⟩
  have au:=ab.trans s9;have ah:=ag.trans s9;exact⟨_,rfl,_,rfl,_,rfl,_,rfl,_,rfl,jp,pl,lk,J,ts,bs,m,n,N,w,ls,U,.ref T,rfl,c.same ah,n5,L,(Qd Y he ha hb).same au,fun H' s'=>⟨true,true,rfl,rfl,k _ (ah.trans s')⟩⟩
end
def vM(q:Nat×Nat):Ev:=.picked q.1 q.2
def y8(J:Job)(p:Nat):Ev:=match J.ps[p]? with
 | some b=>.laid p b.k b.x b.y
 | none=>.laid p "" 0 0
theorem ze2{J:Job}{p:Nat}{b:xb}(h:J.ps[p]? =some b):y8 J p=.laid p b.k b.x b.y:=by unfold y8;rw[h]
theorem zg3(J:Job)(p:Nat):(y8 J p).w = "laid" :=by unfold y8;split<;>rfl
def yD(J:Job)(t:qV):List Ev:=t.pk.map vM++t.ly.map (y8 J)
def wN(J:Job)(b:List qV):List Ev:=b.flatMap (yD J)
theorem vw(J:Job)(b:List qV)(t:qV):wN J (b++[t])=wN J b++yD J t:=by
 unfold wN;rw[ZW,Vh,Vf,z7]
theorem zdv{α:Type}(c:List Str)(g:α->Ev)(w:Str)(i:∀a,(g a).w=w)(l:List α):zt c (l.map g)=if w∈c then l.map g else []:=by
 unfold zt;by_cases h:w∈c
 ·rw[zu h]
  refine Vo.mpr fun e b=>?_
  obtain⟨a,_,rfl⟩:=qo.mp b;exact qk (by rw[i];exact h)
 ·rw[zo h]
  refine Xv.mpr fun e b=>?_
  obtain⟨a,_,rfl⟩:=qo.mp b;rw[i];exact fun z=>h (qQ z)
theorem Xb(b:List Str)(l:List (Nat×Nat)):zt b (l.map vM)=if("picked":Str)∈b then l.map vM else []:=zdv b vM "picked" (fun _=>rfl) l
theorem za1(b:List Str)(J:Job)(l:List Nat):zt b (l.map (y8 J))=if("laid":Str)∈b then l.map (y8 J) else []:=zdv b (y8 J) "laid" (zg3 J) l
theorem XU(J:Job)(t:qV):zt zB (yD J t)=[]:=by
 unfold yD;rw[zq,Xb,za1,zo (by decide),zo (by decide)];rfl
theorem ZL(J:Job)(b:List qV):zt zB (wN J b)=[]:=by
 induction b using va with
 | h0=>rfl
 | hs b t c=>rw[vw,zq,c,XU];rfl
theorem VM(l:List (Nat×Nat)):qA (l.map vM)=l.map fun q=>(q.2:Int):=by
 unfold qA;rw[Xb,zu (by decide),xA];rfl
theorem zcm(J:Job)(l:List Nat):qA (l.map (y8 J))=[]:=by
 unfold qA;rw[za1,zo (by decide)];rfl
theorem VL(J:Job)(b:List qV):qA (wN J b)=(vd b).map fun q=>(q.2:Int):=by
 induction b using va with
 | h0=>rfl
 | hs b t c=>
  rw[vw,xi,c,vc,zM];unfold yD;rw[xi,VM,zcm,z7]
theorem zff(l:List (Nat×Nat))(f:Nat):(l.map fun q=>(q.2:Int)).count (f:Int)=(l.map (·.2)).count f:=by
 induction l with
 | nil=>rfl
 | cons x l b=>
  rw[jL,jL,Jg,Jg,b];by_cases h:x.2=f
  ·simp[h]
  ·have:¬(x.2:Int)=(f:Int):=by omega
   simp[h,this]
theorem Wo{J:Job}{p:Nat}{b:List Ev}(h:zt zB b=[]):¬Y9 J p b:=fun ⟨e,c,_⟩=>by rw[h] at c;cases c
section
variable{J:Job}{b:List Bool}{n:Nat}
def zht(b:List Bool):Prop:=∀s,yi b s=true
theorem Wh(a:zht b){u:List Ev}{l:List (Nat×Nat)}(g:zt zB u=[])(G:qA u=l.map fun q=>(q.2:Int))(i:List (Nat×Nat)):(∀q∈i,VB J q)->(∀(f:Nat) (m:xC),J.fs[f]? =some m->(((l++i).map (·.2)).count f:Int)<=m.m)->PksR J b (n+1) u i (i.map vM):=by
 induction i using va with
 | h0=>exact fun _ _=>.nil
 | hs i q D=>
  intro ok st;obtain⟨E,m,B,s,A⟩:=ok q (qE _ (zR.mpr rfl));rw[zM];have c:=st q.2 m s;rw[<- qx,zM,Zf] at c;have c1:([q].map (·.2)).count q.2=1:=Vy
  rw[c1] at c;have C:zt zB (u++i.map vM)=[]:=by rw[zq,g,Xb,zo (by decide)];rfl
  refine .snoc i (i.map vM) q.1 q.2 E [vM q] (D (fun x hx=>ok x (qm _ hx)) fun f w e=>?_) B (.inr ⟨Wo C,?_⟩)
  ·have:=st f w e
   rw[<- qx,zM,Zf] at this;omega
  ·refine .luck n [] q.2 (.own ?_) (by rw[y4];exact a _)
   rw[z7];refine ji.mpr ⟨ji.mpr ⟨x5.mpr (zL.mp s).1,qk (by rw[s];show some m.k=_;rw[A])⟩,qk ?_⟩
   rw[xi,G,VM,<- zM,zff,s];show _<m.m;omega
theorem Yz{m:List Ev}{c:List (Nat×Nat)}(g:zt zB m=[])(l:List Nat):(∀p∈l,p∈c.map (·.1))->(∀p∈l,p<J.ps.length)->LysR J m (c.map vM) l (c.map vM++l.map (y8 J)):=by
 induction l using va with
 | h0=>exact fun _ _=>.nil _ (z7 _)
 | hs l p s=>
  intro h1 h2;have hp:=h2 p (qE _ (zR.mpr rfl));have i:J.ps[p]? =some J.ps[p]:=qR hp;rw[zM,<- qx];refine .lay l _ p J.ps[p] (y8 J p) (s (fun x hx=>h1 x (qm _ hx)) fun x hx=>h2 x (qm _ hx)) ?_ i (.inr ⟨Wo ?_,ze2 i⟩)
  ·rw[Xb,zu (by decide)]
   obtain⟨q,hq,eq⟩:=qo.mp (h1 p (qE _ (zR.mpr rfl)));refine vZ.mpr ⟨vM q,qo.mpr ⟨q,hq,rfl⟩,?_⟩
   rw[<- eq];exact yO _
  ·rw[zq,zq,g,Xb,za1,zo (by decide),zo (by decide)];rfl
theorem zbH(a:zht b)(c:List qV):(∀t∈c,Ju J t)->(∀(f:Nat) (i:xC),J.fs[f]? =some i->(((vd c).map (·.2)).count f:Int)<=i.m)->∃w,RunR J b (n+1) (c.map prT) (wN J c) w:=by
 induction c using va with
 | h0=>exact fun _ _=>⟨_,.nil⟩
 | hs c t s=>
  intro ok st;have g:=ok t (qE _ (zR.mpr rfl));rw[zM,vw];obtain⟨w,m⟩:=s (fun x hx=>ok x (qm _ hx)) fun f i e=>by
   have:=st f i e;rw[vc,zM,Zf] at this;omega
  refine⟨_,RunR.snoc (c.map prT) (wN J c) w t.pk t.ly (yD J t) m ⟨t.pk.map vM,Wh (n:=n) a (ZL J c) (VL J c) t.pk g.ok fun f i e=>?_,Yz (ZL J c) t.ly (fun p hp=>g.ly.mem_iff.mp hp) fun p hp=>?_⟩⟩
  ·have:=st f i e
   rwa[vc] at this
  ·obtain⟨q,hq,rfl⟩:=qo.mp (g.ly.mem_iff.mp hp)
   obtain⟨u,_,l,_⟩:=g.ok q hq;exact(zL.mp l).1
end
theorem StL.le{J:Job}{st:List Int}{l:List (Nat×Nat)}(s:StL J st l){f:Nat}{c:xC}(e:J.fs[f]? =some c):((l.map (·.2)).count f:Int)<=c.m:=by
 have h:f<st.length:=by rw[s.len];exact(zL.mp e).1
 have a:=s.nn f _ (qR h);have b:=s.cnt f _ c (qR h) e;omega
theorem zg1:zht []:=fun s=>zu (qX _)
theorem zg4(J:Job)(p:Nat):(y8 J p).p=p:=by unfold y8;split<;>rfl
theorem YA(J:Job)(b:List qV):pOf (zt ["laid"] (wN J b))=zX b:=by
 induction b using va with
 | h0=>rfl
 | hs b t c=>
  rw[vw,zq,qu,c,jR];unfold yD;rw[zq,Xb,za1,zo (by decide),zu (by decide),vX]
  congr 1
  unfold pOf;rw[xA,show(Ev.p∘y8 J)=id from funext fun p=>zg4 J p,List.map_id]
theorem RunAt.whole{J:Job}{n:Nat}{b:List qV}{s:List Ev}{w:Int}{l u:List Int}(c:CaseOk J b)(G:1<=n)(r:RunAt J [] n b s w l u)(h:W0 J.ps.length (zX b)=true):l=(List.range J.ps.length).map fun k:Nat=>(k:Int):=by
 obtain⟨os,m,H,g⟩:=c.po;obtain⟨st,D⟩:=g.stk;obtain⟨i,rfl⟩:∃i,n=i+1:=⟨n-1,by omega⟩
 obtain⟨I,C⟩:=zbH (J:=J) (n:=i) zg1 b g.tr fun f E e=>D.le e
 obtain⟨rfl,_⟩:=r.run.uniq C rfl;have B:=Qf m g.sub;have A:(zX b).Perm (List.range J.ps.length):=by
  refine(List.perm_ext_iff_of_nodup B ZS).mpr fun x=>⟨fun hx=>m.mem_iff.mp (g.sub.subset hx),fun hx=>?_⟩
  exact qQ (xB.mp h x hx)
 refine yf (r.pl.trans ?_) r.wl ?_
 ·rw[<- QF,YA]
  exact A.map _
 ·rw[List.pairwise_map]
  exact List.pairwise_lt_range.imp fun h=>by omega
section
variable{P:Program}{w:World}{K:W.Frag}{C:Str->Option Value}{g:Heap}
theorem zhQ:zD ["_law_box_here","_law_turn","_law_job_here","_law_plan_here","_law_luck_here","_law_tries","_law_text","_law_more","_law_some"] ["_law_box_here"] (zr (topL 57)):=u5
def zgo{L:Value}{f:Addr}{A:Around}{J:List Env}{s:Shared}{H:Hp}{E:XK}(B:Blt C)(m:Room 11 (A.deeper (envOfC "_law_right" (zr (topL 57)) s.heap.objs.size f L)))(D:Dfn P w K C g "_law_take" 1 ["_law_box_here","_law_size"] xH)(u:Dfn P w K C g "_law_case" 5 ["_law_box_here","_law_turn"] (Yh K))(b:Dfn P w K C g "run_plan" 7 ["job","plan","luck","tries"] (Qp K))(c:Dfn P w K C g "_law_run_right" 11 ["_law_job_here","_law_plan_here","_law_luck_here","_law_tries"] (zge K))(l:Dfn P w K C g "is_whole" 2 ["job","plan"] (XE K))(I:(["_law_box_here","_law_turn","_law_job_here","_law_plan_here","_law_luck_here","_law_tries","_law_text","_law_more","_law_some"]:List Str).Nodup):{ t:TS // PSs (JD CX0 P w K C g ["_law_box_here","_law_turn","_law_job_here","_law_plan_here","_law_luck_here","_law_tries","_law_text","_law_more","_law_some"] "_law_right" (zr (topL 57)) f L A J s H E).nox (xP (topL 57)) t }:=
 have hu:=m.units0;have G:=m.units;have hg:=m.gd
 ⟨_,(zf (qS jr rfl (qN rfl B.range (za ze zd)) (zA (i:=1) I rfl (Or.inl rfl))
     (zf (xc (zi u m.m rfl (za (pv 0) (za (pv 1) zd))) (jN rfl (zK (zA (i:=2) I rfl (Or.inl rfl)) (zK (zA (i:=3) I rfl (Or.inl rfl)) (zK (zA (i:=4) I rfl (Or.inl rfl)) (zK (zA (i:=5) I rfl (Or.inl rfl)) jv))))))
      (zf (QA (i:=6) (j:=7) rfl I rfl rfl (by decide) rfl rfl (za (ja (Xn hg G) rfl B.str WP (za (zi b m.m rfl (za (pv 2) (za (pv 3) (za (pv 4) (za (pv 5) zd))))) zd)) (za (zx qh (zV (za ze (za ze (za (zy (zb7 rfl) rfl B.min WQ (za ze (za (zH qT (pv 5) ze) zd))) zd)))) (zi D m.m rfl (za (pv 0) (za ze zd))) (fun _ _=>rfl)) zd)) (by rfl))
      (zf (qS jr rfl (vB (qB (za (pv 5) (za (pv 7) zd)))) (zA (i:=8) I rfl (Or.inl rfl))
      (zk (jq (Qz (xx (zi c m.m rfl (za (pv 2) (za (pv 3) (za (pv 4) (za (pv 8) zd)))))))
       (zk (zC vg))
       qy)))
      (zf (jq (zF zaQ (ja (Xn hg G) rfl B.str WP (za (zi b m.m rfl (za (pv 2) (za (pv 3) (za (pv 4) (za (pv 5) zd))))) zd)) (pv 6) (zS _))
      (zk (zC vg))
      qy)
      (zk (jq (PW.pt (Qy (xx (zi l m.m rfl (za (pv 2) (za (pv 3) zd)))) (yY (zF (Yo hu) (zx zI (zi b m.m rfl (za (pv 2) (za (pv 3) (za (zV zd) (za (pv 5) zd))))) ze (fun _ _=>rfl)) (wf rfl rfl B.list rfl B.range xK (za (zy zO rfl B.len boot_len (za (zx zI (pv 2) ze (fun _ _=>rfl)) zd)) zd)) (zS _)))))
      (zk (zC vg))
      qy)))))))
     (zk (zC vg)))⟩
theorem zbf{H:Hp}{b l:Addr}{n:Int}{c:List V}(h:BoxAt H b n)(e:H l=some (.lst c))(hx:∀x∈c,∀i,x≠.int i):l≠b:=fun z=>by
 obtain⟨m,b1,b2,e2,_⟩:=h;rw[z,e2] at e;cases e;exact hx _ qI _ rfl
theorem CaseAt.nb{H:Hp}{b D u s:Addr}{n:Int}{J:Job}{G:List qV}{A:List Bool}{m:Nat}(c:CaseAt K H D u s J G A m)(B:BoxAt H b n):u≠b/\s≠b:=by
 obtain⟨I,h1,h2⟩:=c.rp;refine⟨zbf B h1 fun x hx i z=>?_,zbf B c.hl fun x hx i z=>?_⟩
 ·obtain⟨k,hk⟩:=List.mem_iff_getElem?.mp hx
  obtain⟨d,l,E⟩:=h2.get hk;rw[zU] at l;obtain⟨t,_,rfl⟩:=qr.mp l;obtain⟨a,_,e,_⟩:=E;rw[z] at e;cases e
 ·obtain⟨y,_,rfl⟩:=qo.mp hx
  cases z
theorem CaseAt.draw{H l:Hp}{b u D A:Addr}{n:Int}{J:Job}{i:List qV}{s:List Bool}{m:Nat}(c:CaseAt K H u D A J i s m)(B:BoxAt H b n)(S:SameB b H l):CaseAt K l u D A J i s m:=by
 obtain⟨E,G⟩:=c.nb B;obtain⟨I,h1,h2⟩:=c.rp;exact⟨c.rj.keep (ua B S) (vP J),c.jo,⟨I,S _ _ h1 E,h2.keep (ua B S) (jW i)⟩,c.po,S _ _ c.hl G,c.bl,c.m1,c.m5⟩
inductive JR(i:List V)(H:Hp)(Q:VK):Prop
 | mk (b:Addr) (n:Int) (_:i=[.ref b]) (_:BoxAt H b n) (_:n<1000) (_:∀c,SameB b H c->Q (.bl true) c):JR  i H Q
def zaj:Sp:=fun b H Q _=>JR  b H Q
def zby(b:_)(H:_)(n:_):=fun(i:Nat) (σ:St) (c:Hp)=>(Ex8 fun(l m s u A B D E:Option V)=>An3 (σ=[some (.ref b),l,m,s,u,A,B,D,E]) (SameB b H c) (BoxAt c b (n+7000*(i:Int))):Prop)
def zbx(b:_)(i:Nat)(s:_)(A:_)(u:_)(m:Nat)(B:_)(z:Nat)(l:_):=fun(j:Nat) (σ:St) (c:Hp)=>(Ex1 fun(D:Option V)=>An2 (σ=[some (.ref b),some (.int (0+(i:Int))),some (.ref s),some (.ref A),some (.ref u),some (.int (m:Int)),some (.str B),some (.int (z:Int)),D]) (Same l c):Prop)
theorem zid{f:Addr}{fd:FuncData}(F:Fun K "_law_right" "_law_right" (topL 57) f fd)(B:Blt C)(G:Dfn P w K C g "_law_take" 1 ["_law_box_here","_law_size"] xH)(D:Dfn P w K C g "_law_case" 5 ["_law_box_here","_law_turn"] (Yh K))(u:Dfn P w K C g "run_plan" 7 ["job","plan","luck","tries"] (Qp K))(c:Dfn P w K C g "_law_run_right" 11 ["_law_job_here","_law_plan_here","_law_luck_here","_law_tries"] (zge K))(l:Dfn P w K C g "is_whole" 2 ["job","plan"] (XE K)):FnOk P w K C g CX0 12 f fd ["_law_box_here"] zaj:=by
 have nd:=zhQ.nd;refine F.ok zhQ (fun vs H Q E h=>?_) (fun bh A az s H vs Q E hr h=>?_)
 ·obtain⟨b,n,rfl,_⟩:=h
  rfl
 ·obtain⟨b,n,rfl,B0,hn,k⟩:=h
  have be:=bG1000000;have ab:=bGe;refine⟨_,(zgo B hr G D u c l nd).2,?_⟩
  refine⟨2,rfl,by rw[ab];decide,by rw[ab];decide,ju (zby b H n) ⟨_,_,_,_,_,_,_,_,rfl,ue b H,B0.mono (by omega)⟩ ?_ ?_⟩
  ·rintro i σ H1 hi ⟨v1,v2,v3,v4,v5,v6,v7,v8,rfl,S1,B1⟩
   have bu:i<2:=hi;refine⟨_,rfl,_,rfl,b,_,_,rfl,B1,by omega,fun T0 jp pl lk J ts bs m H2 S2 B2 ak L=>⟨T0,_,rfl,u8 ak,rfl,_,_,rfl,_,_,rfl,_,_,rfl,_,_,rfl,rfl,?_⟩⟩
   refine⟨_,rfl,_,rfl,_,rfl,_,rfl,wU (E:=E0) L (u7 L.hl) L.m5 fun T eo a b2 es w ls gs H3 s3 hT he ha hb ra bo fa fb fT n1 n2 n3=>?_⟩
   obtain⟨af,a0,aa⟩:=zed L.ok ra;refine⟨T,Zp es ls gs w,rfl,Qd hT he ha hb,af,a0,aa,?_⟩
   have ar:=L.m1;have au:=L.m5;have B3:=B2.same s3;refine⟨_,rfl,_,_,rfl,rfl,_,_,rfl,?_⟩
   obtain⟨M,ah,ax,ay⟩:∃M:Nat,(if(m:Int)+1<5 then(m:Int)+1 else 5)=(M:Int)/\1<=M/\M<=5:=by
    by_cases h:(m:Int)+1<5
    ·exact⟨m+1,by rw[zu h];rfl,by omega,by omega⟩
    ·exact⟨5,by rw[zo h];rfl,by omega,by omega⟩
   rw[ah];refine⟨le3,fun q hq=>⟨_,rfl,b,3,_,rfl,B3.new hq,by omega,by decide,by decide,fun r H4 r0 r1 B4 S4=>?_⟩⟩
   have qb:=B3.nne hq;have S3:=S1.trans (S2.trans (.of s3));have Y:=((uf (b:=b) s3).new (o:=.lst [.int 1,.int 5,.int (M:Int)]) hq).trans S4;have ag:=(S1.trans S2).trans Y;obtain⟨z,ez,z1,z5⟩:∃z:Nat,atI [V.int 1,.int 5,.int (M:Int)] r=some (.int (z:Int))/\1<=z/\z<=5:=by
    have hc:r=0\/r=1\/r=2:=by omega
    rcases hc with rfl | rfl | rfl
    ·exact⟨1,rfl,by decide,by decide⟩
    ·exact⟨5,rfl,by decide,by decide⟩
    ·exact⟨M,rfl,ax,ay⟩
   refine⟨q,_,_,_,rfl,rfl,u7 (S4 _ _ zb qb),ez,_,_,rfl,?_⟩
   have c4:=L.draw B2 Y;refine⟨_,rfl,_,rfl,le2,fun p hp=>⟨p,rfl,⟨_,u8 zb⟩,?_⟩⟩
   have s5:=zc (H:=H4) (o:=.tup [.int (m:Int),.int (z:Int)]) hp;have P5:=zb (H:=H4) (a:=p) (o:=.tup [.int (m:Int),.int (z:Int)]);generalize upd H4 p (.tup [.int (m:Int),.int (z:Int)])=H5 at s5 P5 ⊢;have c5:=c4.same s5;generalize ac:(Zp es ls gs w).py.shown=tx;refine Qi (K:=K) (a:=p) (xs:=[.int (m:Int),.int (z:Int)]) (zbx b i jp pl lk m tx z H5) ⟨_,by rw[<- ac];rfl,u9 _⟩ (fun j σ H' _ ⟨_,_,s'⟩=>u8 (s' _ _ P5)) ?_ ?_
   ·rintro j x σ H6 hx ⟨bd,rfl,O⟩
    obtain⟨k',rfl,k5⟩:∃k':Nat,x=.int (k':Int)/\k'<=5:=by
     rcases qg.mp (je hx) with rfl | h
     ·exact⟨m,rfl,au⟩
     ·exact⟨z,zR.mp h,z5⟩
    exact⟨_,rfl,_,rfl,_,rfl,_,rfl,jp,pl,lk,J,ts,bs,m,k',rfl,c5.same O,k5,fun H7 s7=>⟨_,rfl,ifF rfl ⟨_,rfl,O.trans s7⟩⟩⟩
   rintro σ H6 ⟨bd,rfl,O⟩;have c6:=c5.same O;refine⟨_,rfl,_,rfl,_,rfl,_,rfl,wU (E:=E0) c6 (u7 c6.hl) c6.m5 fun T' bi a' b' bm w' bv bp H7 s7 aj ap am ao ba _ _ _ _ _ _ _=>?_⟩
   have er:=ra.same ba fun s _=>rfl
   refine⟨T',Zp es ls gs w,rfl,by rw[<- er];exact Qd aj ap am ao,af,a0,aa,?_⟩
   refine⟨_,rfl,rfl,_,rfl,ifF (by rw[ac,qk rfl];rfl) ?_⟩
   have N:=c6.same s7;obtain⟨tr,av,rt⟩:=N.rp;obtain⟨bw,jo⟩:=N.jo;have U:SameB b H H7:=ag.trans (.of (s5.trans (O.trans s7)));have B7:=B4.same (s5.trans (O.trans s7));refine⟨_,rfl,_,rfl,jp,pl,J,ts,tr,rfl,N.rj,jo.pl,av,rt,jd N.ok.few.1 (by decide),fun H8 s8=>⟨_,rfl,jX (fun cw=>?_) (fun cw=>?_)⟩⟩
   ·refine⟨_,rfl,_,rfl,le0,fun el aq=>⟨_,rfl,?_⟩⟩
    have s9:=s8.trans (zc (o:=.lst []) aq);have E9:=zb (H:=H8) (a:=el) (o:=.lst []);generalize upd H8 el (.lst [])=H9 at s9 E9 ⊢;have c9:=N.same s9;refine wU (E:=E0) (bs':=[]) c9 (u7 E9) c9.m5 fun T2 bj a2 b3 bn w2 I bq Ha sa al bt an br bb _ _ _ _ _ _ _=>?_
    have sA:=s9.trans sa;obtain⟨gg,fs,ps,as,fv,px,qj,rg,qf,rf,b0,bc,_⟩:=xo (N.rj.same sA);have ae:=bc.len;rw[zp] at ae;have bf:=jo.pl;refine⟨T2,_,_,_,rfl,rfl,u8 al,rfl,_,rfl,jp,_,_,_,rfl,rfl,qj,rfl,ps,_,rfl,.inr b0,(px.length:Int),rfl,by omega,by omega,fun rl aw=>?_⟩
    have ew:=bb.whole c9.ok ar cw;have ai:(List.range ((px.length:Int)).toNat).map (fun i:Nat=>V.int (i:Int))=I.map V.int:=by
     rw[ew,xu,ae,xA];rfl
    rw[ai];have sb:=zc (H:=Ha) (o:=.lst (I.map V.int)) aw;have Pb:=zb (H:=Ha) (a:=rl) (o:=.lst (I.map V.int));generalize upd Ha rl (.lst (I.map V.int))=Hb at sb Pb ⊢;exact⟨a2,rl,_,rfl,rfl,u7 (sb _ _ an),u7 Pb,Zs _,QS,_,rfl,ifF rfl ⟨_,_,_,_,_,_,_,_,rfl,U.trans (.of (sA.trans sb)),(B7.same (sA.trans sb)).mono (by omega)⟩⟩
   ·exact⟨_,_,_,_,_,_,_,_,rfl,U.trans (.of s8),(B7.same s8).mono (by omega)⟩
  ·rintro σ H1 ⟨v1,v2,v3,v4,v5,v6,v7,v8,rfl,S1,B1⟩
   exact k _ S1
inductive zau(K:W.Frag)(c:List V)(H:Hp)(Q:VK):Prop
 | mk (a:Addr) (b:List Int) (_:c=[.ref a]) (_:SqL K H a (b.map V.int)) (_:b.length<=63) (_:∀i,Q (.bl true) i):zau K c H Q
def spLaw(K:W.Frag):Sp:=fun b H Q _=>zau K b H Q
theorem zfH:zD ["_law_script","_law_cells"] ["_law_script"] (zr (topL 58)):=u5
theorem zgR{f:Addr}{U:FuncData}(F:Fun K "law" "law" (topL 58) f U)(B:Blt C)(b:Dfn P w K C g "_law_folded" 1 ["_law_script","_law_size"] (zcB K))(G:Dfn P w K C g "_law_box" 1 ["_law_script","_law_k"] (zfy K))
  (l:Dfn P w K C g "_law_right" 12 ["_law_box_here"] zaj):FnOk P w K C g CX0 13 f U ["_law_script"] (spLaw K):=by
 have nd:=zfH.nd;refine F.ok zfH (fun vs H Q E h=>?_) (fun a0 A O s H vs Q E N h=>?_)
 ·obtain⟨a,ns,rfl,_⟩:=h
  rfl
 ·obtain⟨a,ns,rfl,hS,J,k⟩:=h
  refine⟨_,(zf (zG (i:=1) nd rfl (Or.inr rfl) (zi b N.m rfl (za (pv 0) (za ze zd))))
   (zk (zC (zy (vS rfl) rfl B.all boot_all (za (jZ ["_law_cells"] [1] rfl rfl (by kernel_rfl) (qN rfl B.range (za (zy (Zv rfl) rfl B.max QZ (za ze (za (zy zO rfl B.len boot_len (za (pv 1) zd)) zd))) zd)) (fun _ _ _ _=>jk) (fun _ _ _ _=>(zi l N.m rfl (za (zi G N.m rfl (za (pv 1) (za (pv 0) zd))) zd)))) zd))))),?_⟩
  refine⟨_,rfl,a,ns,3,rfl,hS,J,by decide,by decide,fun p m H1 s1 hp hm=>?_⟩
  have I:=bGe;have hl:(m.map V.int).length<=3:=by rw[zp];exact hm
  refine⟨_,rfl,p,_,rfl,.inl hp,_,_,rfl,_,rfl,(by rw[I];split<;>omega),(by rw[I];split<;>omega),?_⟩
  have hN:(if((m.map V.int).length:Int)>2 then((m.map V.int).length:Int) else 2).toNat<=8:=by split<;>omega
  have Y:=bG100;refine y6 (fun i T L=>T=List.replicate i (V.bl true)/\Same H1 L) ⟨rfl,u9 _⟩ ?_ ?_
  ·rintro i T L hi ⟨rfl,M⟩
   rw[X8];refine⟨rfl,?_⟩
   refine⟨_,rfl,_,rfl,p,m,i,rfl,M.seq hp,by omega,fun q o hq Bq=>⟨q,0,rfl,Bq,by decide,fun H3 s3=>⟨?_,?_,fun c u e=>?_⟩⟩⟩
   ·rw[yu];omega
   ·rw[Vq]
   ·exact s3 c u ((zc hq) c u (M c u e)) (zg (M c u e) hq)
  ·rintro T L ⟨rfl,M⟩
   refine⟨by rw[yu];omega,fun D hD=>⟨D,List.replicate (if((m.map V.int).length:Int)>2 then((m.map V.int).length:Int) else 2).toNat true,rfl,?_,?_⟩⟩
   ·refine u7 ?_
    rw[zb,Vl]
   ·have:=k (upd L D (.lst (List.replicate (if((m.map V.int).length:Int)>2 then((m.map V.int).length:Int) else 2).toNat (V.bl true))))
    simpa using this
end
theorem all_mk{l:PySem.W.OpenLaw}{w:World}{K:W.Frag}{h:Heap}{mg:Str->Option Value}{fa:Addr}(X:K.In h)(e:zeX YE zb9 zbB K=ze7 YE zb9 zbB)(G:h.Ns mainGlobals mg)(bi:mg "law" = some (.ref fa)) :
  ∃fd:FuncData,(∀(s:Shared) (v:Value),BindsTo s fd ⟨[v],[]⟩ [("_law_script",v)])/\∀ba:Heap,K.In ba->ba.Ns mainGlobals mg->FnOk l.prog w K mg ba CX0 13 fa fd ["_law_script"] (spLaw K):=by
 have Z0:Tp l.prog w K mg h h YE zb9 zbB:=⟨X,G,e⟩;have B:Blt mg:=⟨Z0.bl 0 rfl,Z0.bl 1 rfl,Z0.bl 2 rfl,Z0.bl 3 rfl,Z0.bl 4 rfl,Z0.bl 5 rfl,Z0.bl 6 rfl,Z0.bl 7 rfl,Z0.bl 8 rfl,Z0.bl 9 rfl,Z0.bl 10 rfl,Z0.bl 11 rfl,Z0.bl 12 rfl,Z0.bl 13 rfl,Z0.bl 14 rfl,Z0.bl 15 rfl,Z0.bl 16 rfl,Z0.bl 17 rfl,Z0.bl 18 rfl,Z0.bl 19 rfl⟩;obtain⟨f,fd,a,F⟩:=Z0.fd 50 rfl;cases bi.symm.trans (PySem.W.mg_of X G a);refine⟨fd,?_,fun ba _ _=>?_⟩
 ·obtain⟨_,_,_,_,_,_,_,_,_,rfl,_,_⟩:=F.ex
  exact fun s v=>.of_eq rfl
 have Z:Tp l.prog w K mg ba h YE zb9 zbB:=⟨X,G,e⟩;obtain⟨t0,ac,H⟩:=Z.tx 0 rfl;have H:TxG K t0 [("picked":Str),("missed":Str)]:=⟨H⟩;obtain⟨t1,N,u⟩:=Z.tx 1 rfl;have u:TxG K t1 [("behind":Str),("none":Str),("failed":Str),("dropped":Str)]:=⟨u⟩;have aj:=Z.dfn 0 rfl fun _ _ F _ _=>zgT F B
 have I:=Z.dfn 1 rfl fun _ _ F _ _=>zib F B aj
 have ab:=Z.dfn 2 rfl fun _ _ F _ _=>zgJ F B
 have ao:=Z.dfn 3 rfl fun _ _ F _ _=>zgP F B ab
 have bg:=Z.dfn 4 rfl fun _ _ F _ _=>zdb F B
 have bf:=Z.dfn 5 rfl fun _ _ F _ _=>zeM F B
 have ai:=Z.dfn 6 rfl fun _ _ F _ _=>zdc F B
 have aq:=Z.dfn 7 rfl fun _ _ F _ _=>zgY F B ai
 have M:=Z.dfn 8 rfl fun _ _ F _ _=>zdh F B bg bf aq
 have O:=Z.dfn 9 rfl fun _ _ F _ _=>zgU F B
 have c:=Z.dfn 10 rfl fun _ _ F _ _=>zeU F B
 have g:=Z.dfn 11 rfl fun _ _ F _ _=>QH F B (0) c
 have c:=Z.dfn 10 rfl fun _ _ F _ _=>XL F B (0) g
 have g:=Z.dfn 11 rfl fun _ _ F _ _=>QH F B (1) c
 have c:=Z.dfn 10 rfl fun _ _ F _ _=>XL F B (1) g
 have g:=Z.dfn 11 rfl fun _ _ F _ _=>QH F B (2) c
 have J:=Z.dfn 23 rfl fun _ _ F _ _=>zif F B I g M
 have c:=Z.dfn 10 rfl fun _ _ F _ _=>XL F B (2) g
 have g:=Z.dfn 11 rfl fun _ _ F _ _=>QH F B (3) c
 have c:=Z.dfn 10 rfl fun _ _ F _ _=>XL F B (3) g
 have g:=Z.dfn 11 rfl fun _ _ F _ _=>QH F B (4) c
 have i:=Z.dfn 12 rfl fun _ _ F _ _=>zgW F B
 have D:=Z.dfn 13 rfl fun _ _ F _ _=>zgM F B i
 have Q:=Z.dfn 14 rfl fun _ _ F _ _=>zeP F B (N) (u) D M
 have Y:=Z.dfn 15 rfl fun _ _ F _ _=>zie F B (ac) (H) i O
 have ar:=Z.dfn 16 rfl fun _ _ F _ _=>zeO F B (ac) (H) i
 have a0:=Z.dfn 17 rfl fun _ _ F _ _=>zeJ F B Q Y ar
 have an:=Z.dfn 18 rfl fun _ _ F _ _=>zgQ F B Q
 have aa:=Z.dfn 19 rfl fun _ _ F _ _=>zgL F B a0 D an
 have bh:=Z.dfn 20 rfl fun _ _ F _ _=>zeC F B (ac) (H) i ao
 have E:=Z.dfn 21 rfl fun _ _ F _ _=>zgK F B (N) (u) aa bh D
 have ap:=Z.dfn 22 rfl fun _ _ F _ _=>zeH F B g E
 have ah:=Z.dfn 24 rfl fun _ _ F _ _=>zeQ F B i J
 have C:=Z.dfn 25 rfl fun _ _ F _ _=>zgN F B
 have as:=Z.dfn 26 rfl fun _ _ F _ _=>zda F B C
 have bb:=Z.dfn 27 rfl fun _ _ F _ _=>zgX F B
 have b:=Z.dfn 28 rfl fun _ _ F _ _=>zeF F B
 have af:=Z.dfn 29 rfl fun _ _ F _ _=>zeR F B
 have U:=Z.dfn 30 rfl fun _ _ F _ _=>zdd F B
 have aw:=Z.dfn 31 rfl fun _ _ F _ _=>zgO F B b U
 have ak:=Z.dfn 32 rfl fun _ _ F _ _=>zdg F B aw
 have A:=Z.dfn 33 rfl fun _ _ F _ _=>zde F B b
 have ag:=Z.dfn 34 rfl fun _ _ F _ _=>zbK F B A
 have m:=Z.dfn 35 rfl fun _ _ F _ _=>zeG F B b
 have T:=Z.dfn 36 rfl fun _ _ F _ _=>zeS F B b m A
 have ae:=Z.dfn 37 rfl fun _ _ F _ _=>zbN F B b m
 have bd:=Z.dfn 38 rfl fun _ _ F _ _=>zgS F B b ak A ag T ae
 have al:=Z.dfn 39 rfl fun _ _ F _ _=>zdf F B b
 have az:=Z.dfn 40 rfl fun _ _ F _ _=>zeE F B m
 have ay:=Z.dfn 41 rfl fun _ _ F _ _=>zeI F B b al az
 have be:=Z.dfn 42 rfl fun _ _ F _ _=>zeN F B
 have ax:=Z.dfn 43 rfl fun _ _ F _ _=>zeK F B
 have av:=Z.dfn 44 rfl fun _ _ F _ _=>zig F B b
 have au:=Z.dfn 45 rfl fun _ _ F _ _=>zeT F B b bd ay av
 have b0:=Z.dfn 46 rfl fun _ _ F _ _=>zeD F B ax C
 have bc:=Z.dfn 47 rfl fun _ _ F _ _=>zgV F B be
 have L:=Z.dfn 48 rfl fun _ _ F _ _=>zic F B E b0 C bc ah ap
 have am:=Z.dfn 49 rfl fun _ _ F _ _=>zid F B b au E L as
 exact zgR F B af bb am
end L2
open PySem PySem.W PyProof.Rows
set_option maxRecDepth 100000 in
set_option maxHeartbeats 0 in
theorem PySem.Challenge.cw_pickboard_k70_whole_each_part_once_holds : PySem.Challenge.rw_pickboard_k70_whole_each_part_once.Holds := by
 refine L2.ownHead (d:=L2.defRec "law" (L2.topL 58)) 9999 L2.head1 L2.head2 (by kernel_rfl) (by kernel_rfl) (by kernel_rfl) L2.head3 ⟨rfl,rfl,rfl,rfl,rfl,by decide +kernel⟩ (by w_witness2) ?_
 exact L2.walkS (n:=63) (k:=13) (x:= "_law_script") (sp:=L2.spLaw) rfl (by decide) (by kernel_rfl) ⟨rfl,by decide,by decide,rfl⟩ (fun _ _ _ _ _ X e G m=>L2.all_mk X e G m) fun _ _ a ns hl _ hS=>⟨a,ns,rfl,hS,hl,fun _=>rfl⟩
