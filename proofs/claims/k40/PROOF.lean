import PyProof.Rows.All
import Wide.All
import OpenK.AllK
import Wide.FinOn
import Lean
import PyProof.EqAt
import PyProof.EqKinds
import PyProof.TupleCall
import PyProof.NeKinds
import PyProof.ReprRoads
import PyProof.ReprBulk
import PyProof.SumWalk
import PyProof.FString5
import PyProof.StrBlock2
import PyProof.StrBlockI
import PyProof.StrBlockH
import PyProof.StrWalks
import PyProof.StrLawsIn
import PyProof.AutoListH
import PyProof.CompUse
import PyProof.ListRange
import PyProof.CallFns
import PyProof.ListTruth
import PyProof.Rows.Range3
import PyProof.SeqI3
import KE.KRevSl
import PyProof.DictIter
import PyProof.DictWalks
import PyProof.DictCompW
import PyProof.Cells
import OpenK.KOwn
import PyProof.ExcClass3
import PyProof.ExcInit
import PyProof.ExcBaseAll.ValueError
import PyProof.ExcArgsOwn
import PyProof.ExcAttrAll.ValueError
import PyProof.Rows.SortWalk
import PyProof.Rows.SortStr
import PyProof.MeetsDict
import PyProof.DictUpdate
import PyProof.FactsAll.dict_3
import KE.KDictList
import PyProof.FactsAll.dict_4
import KE.KDictSum
import PyProof.IsiH_list
import PyProof.Rows.Exc
import KE.KDictOf
import PyProof.SetKind
import PyProof.Rows.SetFrom
import PyProof.FactsAll.set_1
import PyProof.FactsAll.set_2
import KE.KSortTup
import KE.KItemsList
import PyProof.Rows.SortRev
import PyProof.Rows.StrCase
import PyProof.Rows.StrLen
import KE.KPairComp
import KE.KMinKey
import PyProof.CallStr
import PyProof.StrCalls2
import PyProof.StrLawsTight
import PyProof.FString
import PyProof.StrBlock
import PyProof.Conv_int
import KE.KUnpack
import PyProof.Rows.TupMore
import PyProof.DictItems
import PyProof.Ascii
import PySem.Challenge.RW_pickboard_k40_events_that_lie_right
set_option Elab.async false
set_option linter.all false
set_option maxRecDepth 100000
def zp:=@List.length_map
def zQ:=@List.getElem?_eq_some_iff
def zn:=@PySem.wpAny_bind
def zW:=@List.length_append
def qA:=@PySem.Heap.get?_push_of_some
def qg:=@List.mem_singleton
def zG:=@Nat.le_refl
def zZ:=@List.map_append
def zP:=@PySem.wpAny_pure
def qJ:=@List.getElem?_map
def qw:=@Option.map_eq_some_iff
def qH:=@List.mem_append_right
def qm:=@Bool.false_ne_true
def zO:=@PySem.Heap.lt_size
def qi:=@List.size_toArray
def zS:=@List.mem_cons
def qX:=@List.getElem?_eq_getElem
def zY:=@List.mem_append
def qG:=@List.mem_of_getElem?
def qC:=@PySem.Heap.get?_push_size
def qW:=@PySem.F.plainAttrs_list
def zq:=@if_neg
def qk:=@List.append_nil
def qV:=@List.mem_cons_of_mem
def qP:=@List.mem_cons_self
def ji:=@List.mem_append_left
def qv:=@decide_eq_true
def jM:=@PySem.F.slot_list_append
def jL:=@PySem.F.type_list_append
def zx:=@if_pos
def qq:=@Nat.ne_of_lt
def qU:=@List.length_cons
def qT:=@List.length_take
def qo:=@List.mem_map
def jm:=@List.append_assoc
def jh:=@List.take_length
def jk:=@Bool.and_eq_true
def qu:=@Nat.zero_le
def xu:=@List.getElem?_append_right
def xt:=@List.getElem?_append_left
def jA:=@of_decide_eq_true
def jw:=@PySem.PassesOwn.never
def jE:=@List.lookup_cons
def jU:=@Nat.lt_of_lt_of_le
def jT:=@decide_eq_true_iff
def jz:=@List.mem_filter
def xr:=@List.length_filter_le
def jK:=@Option.some.inj
def jj:=@Nat.le_trans
def jS:=@decide_eq_false
def xn:=@Int.toNat_natCast
def jJ:=@List.map_cons
def qz:=@Ne.symm
def xf:=@PySem.Heap.size_push
def xM:=@List.all_eq_true
def xL:=@List.not_mem_nil
def xZ:=@PySem.wpAny_newObj_type
def xP:=@Bool.eq_iff_iff
def yd:=@List.take_append_getElem
def xK:=@List.mem_range
def vd:=@List.length_range
def vP:=@List.filter_append
def jZ:=@beq_iff_eq
def Zb:=@PySem.wpAny_callSpecial?_slot
def vO:=@List.any_eq_true
def yc:=@PySem.mem_of_lookup
def QL:=@PyProof.Rows.callWith_type1
def xJ:=@PySem.wpAny_field
def xp:=@PySem.wpAny_mono
def xY:=@Nat.ne_of_gt
def yb:=@Int.emod_lt_of_pos
def ww:=@PySem.wpAny_call_entry
def wv:=@List.getElem_mem
def vv:=@Nat.lt_irrefl
def ZL:=@List.length_replicate
def QK:=@List.filter_cons_of_pos
def QJ:=@List.filter_cons_of_neg
def ya:=@List.length_drop
def w9:=@List.filter_cons
def Za:=@PySem.wpAny_truthy_bool
def y9:=@Nat.lt_succ_of_lt
def ZK:=@Array.length_toList
def w8:=@List.length_set
def w6:=@Int.emod_nonneg
def V0:=@PySem.F.slot_dict_keyiterator_next
def wu:=@List.map_map
def w4:=@List.any_cons
def ZJ:=@PySem.wpAny_isInstance
def QI:=@PySem.Calls.spliced_cons
def JQ:=@Array.getElem?_toList
def y8:=@PySem.wpAny_seqItems
def VZ:=@Array.getElem?_eq_getElem
def y6:=@PySem.wpAny_holding
def QH:=@List.getElem_inj
def QG:=@Nat.lt_succ_self
def ZI:=@PySem.Value.type.inj
def wZ:=@Sum.inl.inj
def VY:=@PySem.Calls.callWith_builtin
def JP:=@PySem.wpAny_setField_rec
def QF:=@PySem.wpAny_passesOwn
def yA:=@List.nodup_cons
def QX:=@PySem.Heap.get?_update_self
def yz:=@Option.map_some
def XO:=@PySem.F.slot_tuple_iterator_next
def QW:=@List.mem_iff_getElem
def QV:=@List.mem_of_mem_take
def vL:=@Nat.le_succ
def XN:=@PySem.F.slot_list_getattribute
def Zz:=@List.nodup_range
def wx:=@Nat.sub_self
def XM:=@PySem.F.slot_list_insert
def XL:=@PySem.F.type_list_insert
def QU:=@List.replicate_succ
def QT:=@List.length_reverse
def QS:=@PySem.Heap.SameBut.update
def W6:=@PyProof.Rows.slot_tuple_getitem
def yy:=@PySem.wpAny_attempt
def vK:=@PySem.wpAny_rule
def QR:=@PySem.Obj.data_mapFields
def Zy:=@List.find?_cons
def XJ:=@List.getElem?_set_self
def QQ:=@PySem.Calls.spliced_nil
def QP:=@List.foldl_append
def yw:=@Nat.le_of_lt
def yu:=@List.map_nil
def yr:=@Nat.le_of_eq
def XI:=@PySem.F.slot_enumerate_next
def XH:=@List.take_append_drop
def XG:=@List.getElem?_set_ne
def XF:=@PySem.Calls.evalArgs_plain
def XE:=@List.mem_of_mem_drop
def Zx:=@PySem.wpAny_standAt
def W5:=@Array.getElem?_eq_some_iff
def Zw:=@Bool.and_true
def W4:=@List.getD_eq_getElem?_getD
def XD:=@List.length_pos_iff
def XC:=@List.flatMap_append
def QO:=@Bool.or_eq_true
def W3:=@List.getElem?_zip_eq_some
def QN:=@List.filter_nil
def W2:=@List.mem_or_eq_of_mem_set
def XB:=@Nat.lt_of_le_of_lt
def W1:=@List.length_erase_of_mem
def W0:=@List.mem_of_mem_eraseIdx
def WZ:=@PySem.F.plainAttrs_dict
def XA:=@List.reverse_cons
def Xz:=@List.flatten_cons
def Xy:=@Option.some.injEq
def Xx:=@List.Sublist.refl
def WY:=@PySem.Heap.get?_update_other
def WW:=@List.length_pos_of_mem
def WV:=@List.filter_eq_nil_iff
def Xw:=@Bool.not_eq_true
def WU:=@PySem.Obj.isFreed_of_fields
def WT:=@PySem.F.slot_dict_get
def Xv:=@List.length_nil
def Xu:=@List.foldl_cons
def Xt:=@List.nil_append
def Xr:=@List.forIn_cons
def Xq:=@PySem.F.slot_zip_next
def zcW:=@PySem.F.args_dict_keyiterator_next_1
def WS:=@List.replicate_succ'
def zcV:=@PySem.F.entry_dict_keyiterator_next
def WR:=@List.filterMap_cons
def WQ:=@List.getElem?_range
def zcU:=@PySem.F.args_tuple_iterator_next_1
def zcT:=@PySem.F.slot_dict_setdefault
def WP:=@Bool.false_eq_true
def WO:=@List.getElem?_drop
def zcS:=@PySem.F.entry_tuple_iterator_next
def zcR:=@List.idxOf_lt_length_of_mem
def zcQ:=@Array.getD_eq_getD_getElem?
def WN:=@List.map_replicate
def Xp:=@PySem.Paired.length
def zcP:=@PySem.Calls.Name_function_global
def zcO:=@Int.fdiv_eq_ediv_of_nonneg
def zcN:=@Int.fmod_eq_emod_of_nonneg
def Xo:=@Bool.false_or
def Xn:=@List.cons.inj
def WM:=@PySem.Obj.cls_mapFields
def WL:=@List.nodup_append
def WK:=@List.getElem?_set
def zcM:=@List.getElem?_eq_none_iff
def zcL:=@List.pairwise_iff_getElem
def Xm:=@Int.zero_add
def QM:=@PyProof.Rows.IsTup.new
def WJ:=@List.of_mem_zip
def WI:=@PySem.SeqAt.EqAt.same
def WH:=@List.range_succ
def WG:=@Bool.and_false
def WF:=@List.forIn_nil
def WE:=@List.nodup_nil
namespace L2
open PySem PySem.Spec PyProof.Rows
abbrev Key:=Sum Int Str
def Qn:Key->Value->Bool
 | .inl k,v=>Value.isInt k v
 | .inr x,v=>Value.isStrOf x v
def zhl(w:World):Key->Int
 | .inl k=>hashInt k
 | .inr x=>hashStr w x
theorem jb:∀{k:Key} {v:Value},Qn k v=true->(∃i t,k=Sum.inl i/\v=Value.int i t)\/(∃x t,k=Sum.inr x/\v=Value.str x t)
 | .inl i,v,h=>by
  obtain⟨t,e⟩:=Value.isInt_shape (k:=i) (v:=v) h
  exact .inl ⟨i,t,rfl,e⟩
 | .inr x,v,h=>by
  obtain⟨t,e⟩:=Value.isStrOf_shape (x:=x) (v:=v) h
  exact .inr ⟨x,t,rfl,e⟩
theorem zaO(i:Int)(t:Tok):Qn (.inl i) (.int i t)=true:=by simp[Qn,Value.isInt]
theorem zaN(x:Str)(t:Tok):Qn (.inr x) (.str x t)=true:=by simp[Qn,Value.isStrOf]
theorem zfy(a b:Int):decide ((Sum.inl a:Key)=Sum.inl b)=(a==b):=by
 by_cases e:a=b
 ·subst e;simp
 ·have h:¬(Sum.inl a:Key)=Sum.inl b:=fun q=>e (wZ q)
  rw[jS h]
  exact(beq_eq_false_iff_ne.mpr e).symm
theorem zfv(a b:Str):decide ((Sum.inr a:Key)=Sum.inr b)=decide (a=b):=by
 by_cases e:a=b
 ·subst e;simp
 ·have h:¬(Sum.inr a:Key)=Sum.inr b:=fun q=>e (Sum.inr.inj q)
  rw[jS h,jS e]
theorem zfx(a:Int)(b:Str):decide ((Sum.inl a:Key)=Sum.inr b)=false:=jS (fun q=>nomatch q)
theorem zfw(a:Str)(b:Int):decide ((Sum.inr a:Key)=Sum.inl b)=false:=jS (fun q=>nomatch q)
def qh(prog:Program)(w:World):PySem.KeyKind prog w Key where
 is:=Qn
 hash:=zhl w
 inj:=fun v a b ha hb=>by
  rcases jb ha with ⟨i,t,rfl,rfl⟩ | ⟨x,t,rfl,rfl⟩
  ·rcases jb hb with ⟨j,u,rfl,e⟩ | ⟨y,u,rfl,e⟩
   ·injection e with e1 _;rw[e1]
   ·exact nomatch e
  ·rcases jb hb with ⟨j,u,rfl,e⟩ | ⟨y,u,rfl,e⟩
   ·exact nomatch e
   ·injection e with e1 _;rw[e1]
 byValue:=fun k v h=>by
  rcases jb h with ⟨i,t,rfl,rfl⟩ | ⟨x,t,rfl,rfl⟩<;>rfl
 pyHash:=fun hv h=>by
  rcases jb hv with ⟨i,t,rfl,rfl⟩ | ⟨x,t,rfl,rfl⟩
  ·exact wpAny_pyHash_int h
  ·exact wpAny_pyHash_str h
 eqBool:=fun hu hv h=>by
  rcases jb hu with ⟨i,t,rfl,rfl⟩ | ⟨x,t,rfl,rfl⟩
  ·rcases jb hv with ⟨j,u,rfl,rfl⟩ | ⟨y,u,rfl,rfl⟩
   ·rw[zfy] at h;exact wpAny_eqBool_int h
   ·rw[zfx] at h;exact SeqAt.EqAt.int_str i t y u _ _ _ _ h
  ·rcases jb hv with ⟨j,u,rfl,rfl⟩ | ⟨y,u,rfl,rfl⟩
   ·rw[zfw] at h;exact SeqAt.EqAt.str_int x t j u _ _ _ _ h
   ·rw[zfv] at h;exact wpAny_eqBool_str h
 «strs»:=fun k x t v h=>by
  rcases jb h with ⟨i,u,rfl,e⟩ | ⟨y,u,rfl,e⟩
  ·exact nomatch e
  ·injection e with e1 _
   subst e1
   cases v<;>rfl
theorem Ws(prog:Program)(w:World)(k:Key)(v:Value):(qh prog w).is k v=Qn k v:=rfl
theorem Vw(prog:Program)(w:World)(i:Int)(t:Tok):(qh prog w).is (.inl i) (.int i t)=true:=zaO i t
theorem Vv(prog:Program)(w:World)(x:Str)(t:Tok):(qh prog w).is (.inr x) (.str x t)=true:=zaN x t
inductive V where
 | non | bl (b:Bool) | int (i:Int) | str (x:Str) | byt (b:Array UInt8) | flt (b:UInt64) | ref (a:Addr) | ty (n:String)
 deriving DecidableEq
def RelV:V->Value->Prop
 | .non,u=>u=Value.none
 | .bl b,u=>u=Value.bool b
 | .int i,u=>∃t,u=Value.int i t
 | .str x,u=>∃t,u=Value.str x t
 | .byt b,u=>∃t,u=Value.bytes b t
 | .flt b,u=>∃t,u=Value.float b t
 | .ref a,u=>u=Value.ref a
 | .ty n,u=>u=Value.type n
abbrev Vals:List V->List Value->Prop:=Paired RelV
theorem Vals.length{xs:List V}{us:List Value}(r:Vals xs us):xs.length=us.length:=Xp r
theorem Vals.get:∀{xs:List V} {us:List Value} {i:Nat} {x:V},Vals xs us->xs[i]? =some x->∃u,us[i]? =some u/\RelV x u
 | _,_,_,_,.nil,e=>by simp at e
 | _,_,0,_,.cons r _,e=>by simp at e;subst e;exact⟨_,rfl,r⟩
 | _,_,i+1,x,.cons _ t,e=>by
  obtain⟨u,h1,h2⟩:=Vals.get (i:=i) (x:=x) t (by simpa using e)
  exact⟨u,by simpa using h1,h2⟩
theorem Vals.set{x:V}{u:Value}(r:RelV x u):∀{xs:List V} {us:List Value} (i:Nat),Vals xs us->Vals (xs.set i x) (us.set i u)
 | _,_,_,.nil=>.nil
 | _,_,0,.cons _ t=>.cons r t
 | _,_,i+1,.cons q t=>.cons q (Vals.set r i t)
theorem Vals.append:∀{xs ys:List V} {us ws:List Value},Vals xs us->Vals ys ws->Vals (xs++ys) (us++ws)
 | _,_,_,_,.nil,s=>s
 | _,_,_,_,.cons r t,s=>.cons r (Vals.append t s)
theorem Vals.take:∀{xs:List V} {us:List Value} (n:Nat),Vals xs us->Vals (xs.take n) (us.take n)
 | _,_,0,_=>.nil
 | _,_,_+1,.nil=>.nil
 | _,_,n+1,.cons r t=>.cons r (Vals.take n t)
theorem Vals.drop:∀{xs:List V} {us:List Value} (n:Nat),Vals xs us->Vals (xs.drop n) (us.drop n)
 | _,_,0,r=>r
 | _,_,_+1,.nil=>.nil
 | _,_,n+1,.cons _ t=>Vals.drop n t
theorem Vals.none_of:∀{xs:List V} {us:List Value} {i:Nat},Vals xs us->xs[i]? =none->us[i]? =none:=fun {xs us i} r e=>by
 have h1:=r.length
 have h2:xs.length<=i:=zcM.mp e
 exact zcM.mpr (by omega)
def RelO:Option V->Option Value->Prop
 | some v,some u=>RelV v u
 | none,none=>True
 | _,_=>False
def KV{κ:Type}:List (κ×V)->List (κ×Value)->Prop:=Paired fun(p:κ×V) (q:κ×Value)=>p.1=q.1/\RelV p.2 q.2
def kV:Key->V
 | .inl i=>.int i
 | .inr x=>.str x
inductive HO where
  | lst (xs:List V)
  | tup (xs:List V)
  | dK (kvs:List (Key×V)) | dT (kvs:List (List Key×V))
  | set (S:Int->Bool) (n:Nat)
  | ins (C dx:Addr) (fs:List (Str×V))
  | own (x:Addr)
  | xd (fs:List (Str×V))
  | met (f x:Addr)
  | rng (lo hi:Int)
  | frz (o:Obj) (u:HO)
  | tbl (ps:Array Value)
  | ext (φ:Heap->Prop)
abbrev Hp:=Addr->Option HO
def upd(H:Hp)(a:Addr)(o:HO):Hp:=fun b=>if b=a then some o else H b
theorem zb{H:Hp}{a:Addr}{o:HO}:upd H a o a=some o:=by unfold upd;rw[zx rfl]
theorem zi{H:Hp}{a b:Addr}{o:HO}(h:b≠a):upd H a o b=H b:=by unfold upd;rw[zq h]
theorem YR{H:Hp}{a b:Addr}{o u:HO}(h:H a=some o)(h':H b=some u)(d:o≠u):a≠b:=by
 intro e;subst e;rw[h] at h';exact d (jK h')
theorem zj{H:Hp}{a b:Addr}{o:HO}(h:H a=some o)(h':H b=none):a≠b:=by
 intro e;subst e;rw[h] at h';cases h'
section
variable(P:Program)(w:World)
def TupX(h:Heap)(a:Addr)(its:Array Value):Prop:=IsTup h a its/\∃o,h.get? a=some o/\o.dict=none
theorem TupX.by{h:Heap}{a:Addr}{its:Array Value}{n:Nat}(e:h.get? a=some { cls:=.type "tuple",data:=.seq its n }):TupX h a its:=⟨⟨_,e,rfl,n,rfl⟩,_,e,rfl⟩
def ObjOk(H:Hp)(h:Heap)(a:Addr):HO->Prop
 | .lst xs=>xs.length<=sizeLine/\∃(its:List Value) (n:Nat),Vals xs its/\h.get? a=some { cls:=.type "list",data:=.seq its.toArray n }
 | .tup xs=>xs.length<=sizeLine/\∃its:List Value,Vals xs its/\TupX h a its.toArray
 | .dK kvs=>kvs.length<=sizeLine/\(a==sysModules)=false/\∃vs,KV kvs vs/\h.DictOf (qh P w) a vs
 | .dT kvs=>kvs.length<=sizeLine/\(a==sysModules)=false/\∃xs:List (List Key×Addr×Value),
   Paired (fun(p:List Key×V) (q:List Key×Addr×Value)=>p.1=q.1/\H q.2.1=some (.tup (p.1.map kV))/\RelV p.2 q.2.2) kvs xs /\
   ∃o es ep,h.get? a=some o/\o.ExactDict/\o.data=.dict es ep/\es.toList=xs.map (entryOfKey (tupleKind (qh P w)))/\(xs.map (·.1)).Nodup
 | .set S n=>h.SetOf (intKind P w) a S n
 | .ins C dx fs=>H dx=some (.own a)/\fs.length<=1000/\dx≠a/\h.get? a=some (PySem.W.instObj C dx) /\
   ∃mA,h.Ns1 dx mA/\(∀f,RelO (fs.lookup f) (mA f))/\PySem.Within mA (fs.map (·.1))
 | .own _=>∃o,h.get? a=some o
 | .xd fs=>∃mA,h.Ns1 a mA/\∀f,RelO (fs.lookup f) (mA f)
 | .rng lo hi=>∃t u v,h.get? a=some { cls:=.type "range",data:=.fields #[.int lo t,.int hi u,.int 1 v] }
 | .frz o u=>h.get? a=some o/\ObjOk H h a u
 | .tbl ps=>h.get? a=some { cls:=.none,data:=.fields ps }
 | .met f x=>h.get? a=some (PySem.W.methodObj (.ref f) (.ref x))
 | .ext φ=>φ h/\(∃o,h.get? a=some o)/\∀h1 h2:Heap,φ h1->(∀o,h1.get? a=some o->h2.get? a=some o)->φ h2
def HOk(H:Hp)(h:Heap):Prop:=∀a o,H a=some o->ObjOk P w H h a o
end
section
variable{P:Program}{w:World}{H H':Hp}{h h':Heap}{a:Addr}{o:HO}
theorem ObjOk.lt(x:ObjOk P w H h a o):a<h.objs.size:=by
 cases o with
 | lst xs=>obtain⟨_,_,_,_,e⟩:=x;exact zO e
 | tup xs=>obtain⟨_,_,_,p⟩:=x;exact p.1.lt
 | dK kvs=>obtain⟨_,_,_,_,o,_,_,e,_⟩:=x;exact zO e
 | dT kvs=>obtain⟨_,_,_,_,o,_,_,e,_⟩:=x;exact zO e
 | set S n=>obtain⟨o,_,_,_,e,_⟩:=x;exact zO e
 | ins C dx fs=>obtain⟨_,_,_,e,_⟩:=x;exact zO e
 | own y=>obtain⟨_,e⟩:=x;exact zO e
 | xd fs=>obtain⟨_,⟨_,_,_,e,_⟩,_⟩:=x;exact zO e
 | rng lo hi=>obtain⟨_,_,_,e⟩:=x;exact zO e
 | frz ob u=>obtain⟨e,_⟩:=x;exact zO e
 | tbl ps=>exact zO (show h.get? a=some _ from x)
 | met f y=>exact zO (show h.get? a=some _ from x)
 | ext φ=>obtain⟨_,⟨_,e⟩,_⟩:=x;exact zO e
theorem Paired.mapP{α β:Type}{F G:α->β->Prop}:∀{l₁:List α} {l₂:List β},Paired F l₁ l₂->(∀a b,F a b->G a b)->Paired G l₁ l₂
 | _,_,.nil,_=>.nil
 | _,_,.cons r t,f=>.cons (f _ _ r) (Paired.mapP t f)
theorem ObjOk.stay(x:ObjOk P w H h a o)(k:∀b u,(b=a\/H b=some (.own a))->h.get? b=some u->h'.get? b=some u)
  (ho:∀b,H b=some (.own a)->H' b=some (.own a)) (ht:∀b xs,H b=some (.tup xs)->H' b=some (.tup xs)):ObjOk P w H' h' a o:=by
 induction o with
 | lst xs=>obtain⟨z,its,n,r,e⟩:=x;exact⟨z,its,n,r,k _ _ (.inl rfl) e⟩
 | tup xs=>obtain⟨z,its,r,⟨ob,e,c⟩,o2,e2,dn⟩:=x;exact⟨z,its,r,⟨ob,k _ _ (.inl rfl) e,c⟩,o2,k _ _ (.inl rfl) e2,dn⟩
 | dK kvs=>obtain⟨z,y,vs,r,ob,es,ep,e,c⟩:=x;exact⟨z,y,vs,r,ob,es,ep,k _ _ (.inl rfl) e,c⟩
 | dT kvs=>
  obtain⟨z,y,xs,r,ob,es,ep,e,c⟩:=x
  exact⟨z,y,xs,Paired.mapP r fun p q z=>⟨z.1,ht _ _ z.2.1,z.2.2⟩,ob,es,ep,k _ _ (.inl rfl) e,c⟩
 | set S n=>obtain⟨ob,es,ep,t,e,c⟩:=x;exact⟨ob,es,ep,t,k _ _ (.inl rfl) e,c⟩
 | ins C dx fs=>
  obtain⟨d,z,ne,e,mA,⟨od,es,ep,e2,c⟩,r⟩:=x
  exact⟨ho _ d,z,ne,k _ _ (.inl rfl) e,mA,⟨od,es,ep,k _ _ (.inr d) e2,c⟩,r⟩
 | own y=>obtain⟨ob,e⟩:=x;exact⟨ob,k _ _ (.inl rfl) e⟩
 | xd fs=>obtain⟨mA,⟨od,es,ep,e,c⟩,r⟩:=x;exact⟨mA,⟨od,es,ep,k _ _ (.inl rfl) e,c⟩,r⟩
 | rng lo hi=>obtain⟨t,u,v,e⟩:=x;exact⟨t,u,v,k _ _ (.inl rfl) e⟩
 | frz ob u ih=>obtain⟨e,q⟩:=x;exact⟨k _ _ (.inl rfl) e,ih q⟩
 | tbl ps=>
  have e:h.get? a=some { cls:=.none,data:=.fields ps }:=x
  show h'.get? a=some { cls:=.none,data:=.fields ps }
  exact k a _ (.inl rfl) e
 | met f y=>
  have e:h.get? a=some (PySem.W.methodObj (.ref f) (.ref y)):=x
  show h'.get? a=some (PySem.W.methodObj (.ref f) (.ref y))
  exact k a _ (.inl rfl) e
 | ext φ=>obtain⟨p,⟨o,e⟩,st⟩:=x;exact⟨st _ _ p fun o q=>k _ _ (.inl rfl) q,⟨o,k _ _ (.inl rfl) e⟩,st⟩
theorem HOk.lt(x:HOk P w H h)(e:H a=some o):a<h.objs.size:=(x a o e).lt
theorem HOk.fresh(x:HOk P w H h)(e:h.objs.size<=a):H a=none:=by
 cases q:H a with
 | none=>rfl
 | some u=>exact absurd (jU (x.lt q) e) (vv _)
theorem HOk.kept(x:HOk P w H h)(k:∀b u,h.get? b=some u->h'.get? b=some u):HOk P w H h':=fun a o e=>
 (x a o e).stay (fun b u _ q=>k b u q) (fun _ q=>q) fun _ _ q=>q
theorem HOk.laid(x:HOk P w H h)(k:∀b u,h.get? b=some u->h'.get? b=some u)(hp:h.objs.size<=a)(new:ObjOk P w (upd H a o) h' a o):HOk P w (upd H a o) h':=fun b u e=>by
 have hn:=x.fresh hp
 by_cases hb:b=a
 ·subst hb;rw[zb] at e;cases e;exact new
 ·rw[zi hb] at e
  exact(x b u e).stay (fun c v _ q=>k c v q) (fun c q=>by rw[zi (zj q hn)];exact q) fun c xs q=>by rw[zi (zj q hn)];exact q
end
def Rd(H:Hp)(a:Addr)(u:HO):Prop:=H a=some u\/∃o,H a=some (.frz o u)
theorem Rd.of{H:Hp}{a:Addr}{u:HO}(h:H a=some u):Rd H a u:=.inl h
theorem Rd.ok{P:Program}{w:World}{H:Hp}{h:Heap}{a:Addr}{u:HO}(r:Rd H a u)(x:HOk P w H h):ObjOk P w H h a u:=by
 rcases r with r | ⟨o,r⟩
 ·exact x a u r
 ·obtain⟨_,q⟩:=x a _ r
  exact q
def Mut:Option HO->Prop
 | some (.lst _)=>True
 | some (.dK _)=>True
 | some (.dT _)=>True
 | some (.set _ _)=>True
 | some (.ins _ _ _)=>True
 | some (.ext _)=>True
 | _=>False
section
variable{P:Program}{w:World}{H:Hp}{h h':Heap}{x e:Addr}{o':HO}
theorem HOk.write(ok:HOk P w H h)(mu:Mut (H x))(he:e=x\/H e=some (.own x))(k:∀b u,b≠e->h.get? b=some u->h'.get? b=some u)(heo:∃u,h'.get? e=some u)
  (new:ObjOk P w (upd H x o') h' x o'):HOk P w (upd H x o') h':=fun b u q=>by
 have nown:∀c y,H c=some (.own y)->c≠x:=fun c y r z=>by subst z;rw[r] at mu;exact mu
 have ntup:∀c xs,H c=some (.tup xs)->c≠x:=fun c xs r z=>by subst z;rw[r] at mu;exact mu
 by_cases hb:b=x
 ·subst hb;rw[zb] at q;cases q;exact new
 ·rw[zi hb] at q
  by_cases hbe:b=e
  ·have q':H b=some (.own x):=by
    rcases he with z | z
    ·exact absurd (hbe.trans z) hb
    ·rw[hbe];exact z
   rw[q] at q';cases q'
   obtain⟨v,hv⟩:=heo
   exact⟨v,by rw[hbe];exact hv⟩
  ·refine(ok b u q).stay (fun c v hc r=>k c v ?_ r) (fun c r=>by rw[zi (nown c b r)];exact r) fun c xs r=>by rw[zi (ntup c xs r)];exact r
   rcases hc with rfl | hc
   ·exact hbe
   ·rintro rfl
    rcases he with z | z
    ·exact nown c b hc z
    ·rw[hc] at z;cases z;exact hb rfl
end
structure Un(fs ex:List Addr)(H H':Hp)(h h':Heap):Prop where
 keep:∀b o,h.get? b=some o->H b=none->b∉fs->b∉ex->h'.get? b=some o
 slot:∀b o,h.get? b=some o->H b=none->b∈fs->b∉ex->∃sl,h'.get? b=some { o with slots:=sl }
 free:∀b o,h.get? b=some o->H b=none->b∉ex->H' b=none
 there:∀b o,h.get? b=some o->b∉ex->∃o',h'.get? b=some o'
 tups:∀b xs,H b=some (.tup xs)->H' b=some (.tup xs)
 frzs:∀b o u,H b=some (.frz o u)->H' b=some (.frz o u)
 tbls:∀b ps,H b=some (.tbl ps)->∃more,H' b=some (.tbl (ps++more))
section
variable{fs fs' ex ex':List Addr}{H H1 H2:Hp}{h h1 h2 h':Heap}{a x e:Addr}{o:HO}
theorem Un.any(u:Un fs ex H H1 h h1){b:Addr}{ob:Obj}(q:h.get? b=some ob)(n:H b=none)(hx:b∉ex):∃sl,h1.get? b=some { ob with slots:=sl }:=by
 by_cases hb:b∈fs
 ·exact u.slot b ob q n hb hx
 ·exact⟨ob.slots,u.keep b ob q n hb hx⟩
theorem Un.trans(a:Un fs ex H H1 h h1)(b:Un fs ex H1 H2 h1 h2):Un fs ex H H2 h h2 where
 keep:=fun c ob q n hc hx=>b.keep c ob (a.keep c ob q n hc hx) (a.free c ob q n hx) hc hx
 slot:=fun c ob q n hc hx=>by
  obtain⟨sl,e1⟩:=a.slot c ob q n hc hx
  obtain⟨sl',e2⟩:=b.slot c _ e1 (a.free c ob q n hx) hc hx
  exact⟨sl',e2⟩
 free:=fun c ob q n hx=>by
  obtain⟨o',e1⟩:=a.there c ob q hx
  exact b.free c o' e1 (a.free c ob q n hx) hx
 there:=fun c ob q hx=>by
  obtain⟨o',e1⟩:=a.there c ob q hx
  exact b.there c o' e1 hx
 tups:=fun c xs q=>b.tups c xs (a.tups c xs q)
 frzs:=fun c ob xs q=>b.frzs c ob xs (a.frzs c ob xs q)
 tbls:=fun c ps q=>by
  obtain⟨m1,e1⟩:=a.tbls c ps q
  obtain⟨m2,e2⟩:=b.tbls c _ e1
  exact⟨m1++m2,by rw[e2,Array.append_assoc]⟩
theorem Un.kept(k:∀b u,h.get? b=some u->h'.get? b=some u):Un fs ex H H h h':=
 ⟨fun b ob q _ _ _=>k b ob q,fun b ob q _ _ _=>⟨ob.slots,k b ob q⟩,fun _ _ _ n _=>n,fun b ob q _=>⟨ob,k b ob q⟩,fun _ _ q=>q,fun _ _ _ q=>q,fun _ ps q=>⟨#[],by rw[q];simp⟩⟩
theorem Un.refl:Un fs ex H H h h:=Un.kept fun _ _ q=>q
theorem Un.laid(k:∀b u,h.get? b=some u->h'.get? b=some u)(hp:h.objs.size<=a)(hn:H a=none):Un fs ex H (upd H a o) h h' where
 keep:=fun b u q _ _ _=>k b u q
 slot:=fun b u q _ _ _=>⟨u.slots,k b u q⟩
 free:=fun b u q n _=>by rw[zi (qq (jU (zO q) hp))];exact n
 there:=fun b u q _=>⟨u,k b u q⟩
 tups:=fun b xs q=>by rw[zi (zj q hn)];exact q
 frzs:=fun b u xs q=>by rw[zi (zj q hn)];exact q
 tbls:=fun b ps q=>⟨#[],by rw[zi (zj q hn),q];simp⟩
theorem Un.write(mu:Mut (H x))(he:e=x\/H e=some (.own x))(k:∀b u,b≠e->h.get? b=some u->h'.get? b=some u)(heo:∃u,h'.get? e=some u):Un fs ex H (upd H x o) h h':=by
 have hx:∀b,H b=none->b≠x:=fun b n z=>by subst z;rw[n] at mu;exact mu
 have hb:∀b,H b=none->b≠e:=fun b n z=>by
  subst z
  rcases he with r | r
  ·exact hx b n r
  ·rw[n] at r;cases r
 have hm:∀b u,H b=some u->¬Mut (some u)->b≠x:=fun b u q nm z=>by subst z;rw[q] at mu;exact nm mu
 refine⟨fun b u q n _ _=>k b u (hb b n) q,fun b u q n _ _=>⟨u.slots,k b u (hb b n) q⟩,fun b u q n _=>by rw[zi (hx b n)];exact n,fun b u q _=>?_,
  fun b xs q=>by rw[zi (hm b _ q fun z=>z)];exact q,fun b u xs q=>by rw[zi (hm b _ q fun z=>z)];exact q,fun b ps q=>⟨#[],by rw[zi (hm b _ q fun z=>z),q];simp⟩⟩
 by_cases hbe:b=e
 ·subst hbe;exact heo
 ·exact⟨u,k b u hbe q⟩
theorem Un.mono(u:Un fs ex H H1 h h1)(hs:∀b∈fs,b∈fs')(hx:∀b∈ex,b∈ex'):Un fs' ex' H H1 h h1:=
 ⟨fun b ob q n hb he=>u.keep b ob q n (fun z=>hb (hs b z)) fun z=>he (hx b z),fun _ _ q n _ he=>u.any q n fun z=>he (hx _ z),fun b ob q n he=>u.free b ob q n fun z=>he (hx b z),fun b ob q he=>u.there b ob q fun z=>he (hx b z),u.tups,u.frzs,u.tbls⟩
end
def trk(h:Heap)(H:Hp):List Addr:=(List.range h.objs.size).filter fun a=>(H a).isSome
def Xd(h:Heap)(H:Hp):Heap:=PySem.W.hideAll h (trk h H)
theorem zaR(h:Heap)(H:Hp):(Xd h H).objs.size=h.objs.size:=PySem.W.hideAll_size _ _
theorem zco{h:Heap}{H:Hp}{b:Addr}{o:Obj}(e:h.get? b=some o)(n:H b=none):(Xd h H).get? b=some o:=
 PySem.W.hideAll_get _ e fun hm=>by
  have q:(H b).isSome=true:=(jz.mp hm).2
  rw[n] at q;simp at q
theorem zdD{h:Heap}{H:Hp}{b:Addr}{o:Obj}(e:(Xd h H).get? b=some o):h.get? b=some o/\H b=none:=by
 have e':h.get? b=some o:=PySem.W.of_hideAll (trk h H) e
 refine⟨e',?_⟩
 cases q:H b with
 | none=>rfl
 | some x=>
  have hm:b∈trk h H:=jz.mpr ⟨xK.mpr (zO e'),by simp[q]⟩
  have z:(Xd h H).get? b=none:=PySem.W.hideAll_none (trk h H) hm
  rw[z] at e;cases e
def zd5(g h:Heap)(L:Addr):List (Addr×Obj):=(List.range h.objs.size).filterMap fun a=>if a=L\/(g.get? a).isSome=true then none else(h.get? a).map fun o=>(a,o)
def rest(g h:Heap)(L d:Addr):List (Addr×Obj):=(zd5 g h L).filter fun p=>decide (p.1≠d)
structure Mod(K:PySem.W.Frag)(mg:Str->Option Value)(base:Heap):Prop where
 kin:K.In base
 glob:base.Ns mainGlobals mg
 blt:∃mb,base.Ns builtinsNs mb/\∀x:Str,x ≠ "__name__" -> mb x=bootBuiltins x
 nolimit:base.NoLimit
structure Cx where
 prog:Program
 w:World
 K:PySem.W.Frag
 mg:Str->Option Value
 base:Heap
 A:Around
 N:List Str
 s₀:Shared
 H₀:Hp
 env:Env
 outer:List Env
 stack:List Env
 ex:List Addr
 fn:Str->Bool
 calm:Bool
 pn:List (Addr×Obj)
 xe:Value->Shared->Prop
def frs(l:List Env):List Addr:=l.filterMap (·.frame)
abbrev Cx.fs(X:Cx):List Addr:=frs X.outer
def Vis(sc:Scope)(x:Str):Prop:=sc.names.lookup x=some .local\/sc.names.lookup x=some .cell\/sc.names.lookup x=some .free
def Loc(sc:Scope)(x:Str):Prop:=sc.names.lookup x=some .local\/sc.names.lookup x=some .cell
def zhr(env:Env)(h:Heap)(m:Str->Option Value)(x:Str)(u:Value):Prop:=
 (env.kindOf x=some .local/\m x=some u)\/((env.kindOf x=some .cell\/env.kindOf x=some .free)/\∃c,env.cells.lookup x=some c/\h.IsCell c (some u))
structure Cx.Ok(X:Cx):Prop where
 mod:Mod X.K X.mg X.base
 kind:X.env.scope.kind=.function
 glob:X.env.globals=mainGlobals
 blt:X.env.builtins=builtinsNs
 above:X.s₀.heap.objs.size<=X.env.locals
 inj:∀x y c,X.env.cells.lookup x=some c->X.env.cells.lookup y=some c->x=y
 has:∀x,(X.env.kindOf x=some .cell\/X.env.kindOf x=some .free)->∃c,X.env.cells.lookup x=some c
 cab:∀x c,X.fn x=true->X.env.cells.lookup x=some c->X.s₀.heap.objs.size<=c
 hd:X.calm=true->X.A.handled=none
 frames:X.A.frames=some X.stack
 stk:X.stack=X.outer\/(X.stack=X.env::X.outer/\X.env.frame=some X.env.locals)
 exf:∀b∈X.ex,b≠X.env.locals/\∀x c,X.env.cells.lookup x=some c->c≠b
 bs:∀b o,X.base.get? b=some o->X.s₀.heap.get? b=some o/\X.H₀ b=none
 bsz:X.base.objs.size<=X.s₀.heap.objs.size
 noex:∀b o,X.base.get? b=some o->b∉X.ex
 exfs:∀b∈X.ex,b∉X.fs
 funs:X.s₀.heap.FunFrames X.base X.outer
 frf:∀b∈X.fs,X.H₀ b=none
structure Inv(X:Cx)(pins:List (Addr×Obj))(σ:List (Option V))(H:Hp)(s:Shared):Prop where
 ok:X.Ok
 os:s.os=X.s₀.os
 bare:AllBare s.gens
 base:Un X.fs X.ex X.H₀ H X.s₀.heap s.heap
 loc:∃m,s.heap.Ns X.env.locals m/\∀(i:Nat) (x:Str) (v:V),X.N[i]? =some x->σ[i]? =some (some v)->Vis X.env.scope x->∃u,RelV v u/\zhr X.env s.heap m x u
 cell:∀x c,X.env.cells.lookup x=some c->∃v,s.heap.IsCell c v
 free:H X.env.locals=none
 freeC:∀x c,X.env.cells.lookup x=some c->H c=none
 pin:∀p∈X.pn++pins,s.heap.get? p.1=some p.2/\H p.1=none/\p.1≠X.env.locals/\p.1∉X.fs/\∀v,p.2.data≠.cell v
 hok:HOk X.prog X.w H s.heap
 len:σ.length=X.N.length
section
variable{X:Cx}{pins:List (Addr×Obj)}{σ:List (Option V)}{H H':Hp}{s:Shared}{h':Heap}
theorem Cx.Ok.nofr(ok:X.Ok){b:Addr}{o:Obj}(e:X.base.get? b=some o):b∉X.fs:=fun hb=>by
 have:=(ok.funs.mem hb).1
 rw[e] at this;cases this
theorem Inv.bs(I:Inv X pins σ H s):∀b o,X.base.get? b=some o->s.heap.get? b=some o/\H b=none:=fun b o e=>
 ⟨I.base.keep b o (I.ok.bs b o e).1 (I.ok.bs b o e).2 (I.ok.nofr e) (I.ok.noex b o e),I.base.free b o (I.ok.bs b o e).1 (I.ok.bs b o e).2 (I.ok.noex b o e)⟩
theorem Inv.bk(I:Inv X pins σ H s):∀b o,X.base.get? b=some o->s.heap.get? b=some o:=fun b o e=>(I.bs b o e).1
theorem Inv.mod(I:Inv X pins σ H s):Mod X.K X.mg X.base:=I.ok.mod
theorem Inv.kIn(I:Inv X pins σ H s):X.K.In s.heap:=I.ok.mod.kin.keeps I.bk
theorem Inv.nolimit(I:Inv X pins σ H s):s.heap.NoLimit:=I.ok.mod.nolimit.keeps I.bk
theorem Inv.fr(I:Inv X pins σ H s):∃m,Fr X.base X.env.locals s.heap m:=
 let ⟨m,hn,_⟩:=I.loc
 ⟨m,hn,I.bk,jj I.ok.bsz I.ok.above⟩
theorem Inv.lt(I:Inv X pins σ H s):X.env.locals<s.heap.objs.size:=let ⟨_,hn,_⟩:=I.loc;hn.lt
theorem Inv.sz(I:Inv X pins σ H s):X.s₀.heap.objs.size<=s.heap.objs.size:=jj I.ok.above (yw I.lt)
theorem Inv.nofs(I:Inv X pins σ H s){a:Addr}(h:s.heap.objs.size<=a):a∉X.fs:=fun hb=>by
 obtain⟨_,o,ho,_⟩:=I.ok.funs.mem hb
 exact absurd (jU (zO ho) (jj I.sz h)) (vv _)
theorem Inv.cne(I:Inv X pins σ H s):∀x c,X.env.cells.lookup x=some c->c≠X.env.locals:=fun x c e z=>by
 obtain⟨v,o,ho,hd⟩:=I.cell x c e
 obtain⟨m,⟨o',es,ep,ho',hd',_⟩,_⟩:=I.loc
 rw[z,ho'] at ho;cases ho;rw[hd'] at hd;cases hd
theorem Inv.funs(I:Inv X pins σ H s):s.heap.FunFrames X.base X.outer:=by
 have all:∀(l:List Env),(∀b∈frs l,b∈X.fs)->X.s₀.heap.FunFrames X.base l->s.heap.FunFrames X.base l:=by
  intro l
  induction l with
  | nil=>intro _ _;trivial
  | cons env r ih=>
   intro hs hl
   obtain⟨hk,⟨L,o,hf,hn,ho,hd⟩,hr⟩:=hl
   have hL:L∈X.fs:=hs L (by unfold frs;rw[WR,hf];exact qP)
   obtain⟨sl,e⟩:=I.base.slot L o ho (I.ok.frf L hL) hL fun z=>I.ok.exfs L z hL
   exact⟨hk,⟨L,_,hf,hn,e,hd⟩,ih (fun b hb=>hs b (by unfold frs;rw[WR,hf];exact qV _ hb)) hr⟩
 exact all X.outer (fun _ hb=>hb) I.ok.funs
theorem Inv.stack(I:Inv X pins σ H s):s.heap.FunFrames X.base X.stack:=by
 rcases I.ok.stk with e | ⟨e,hf⟩
 ·rw[e];exact I.funs
 ·rw[e]
  obtain⟨m,hn,_⟩:=I.loc
  refine .cons (by rw[I.ok.kind];decide) hf hn ?_ I.funs
  exact Heap.get?_none_of_le (jj I.ok.bsz I.ok.above)
theorem Inv.stkSub(I:Inv X pins σ H s):∀b∈frs X.stack,b∈X.env.locals::X.fs:=fun b hb=>by
 rcases I.ok.stk with e | ⟨e,hf⟩
 ·rw[e] at hb;exact qV _ hb
 ·rw[e] at hb
  unfold frs at hb
  rw[WR,hf] at hb
  exact hb
theorem Inv.stkFree(I:Inv X pins σ H s):∀b∈frs X.stack,H b=none:=fun b hb=>by
 rcases zS.mp (I.stkSub b hb) with e | hb
 ·rw[e];exact I.free
 ·obtain⟨_,o,ho,_⟩:=I.ok.funs.mem hb
  exact I.base.free b o ho (I.ok.frf b hb) fun z=>I.ok.exfs b z hb
theorem Inv.step{g':Array GenState}{t':Nat}{d':Drawn}{ch:List Addr}(I:Inv X pins σ H s)
  (hch:∀b∈ch,(b∈X.ex\/X.s₀.heap.objs.size<=b)/\b≠X.env.locals/\(∀x c,X.env.cells.lookup x=some c->c≠b)/\∀p∈X.pn++pins,p.1≠b)
  (keep:∀b o,b≠X.env.locals->b∉X.fs->b∉ch->s.heap.get? b=some o->H b=none->h'.get? b=some o)
  (slot:∀b o,b≠X.env.locals->b∈X.fs->b∉ch->s.heap.get? b=some o->H b=none->∃sl,h'.get? b=some { o with slots:=sl }) (free:∀b o,b∉ch->s.heap.get? b=some o->H b=none->H' b=none)
  (there:∀b o,b∉ch->s.heap.get? b=some o->∃o',h'.get? b=some o')
  (tups:∀b xs,H b=some (.tup xs)->H' b=some (.tup xs)) (frzs:∀b o u,H b=some (.frz o u)->H' b=some (.frz o u)) (tbls:∀b ps,H b=some (.tbl ps)->∃more,H' b=some (.tbl (ps++more)))
  (ns:∀m,s.heap.Ns X.env.locals m->h'.Ns X.env.locals m) (hok:HOk X.prog X.w H' h') (hg:AllBare g') :
  Inv X pins σ H' { s with heap:=h',gens:=g',drawn:=d',toks:=t' }:=by
 have neL:∀b o,X.s₀.heap.get? b=some o->b≠X.env.locals:=fun b o e=>qq (jU (zO e) I.ok.above)
 have neC:∀b o,X.s₀.heap.get? b=some o->b∉X.ex->b∉ch:=fun b o e hx hb=>by
  rcases(hch b hb).1 with z | z
  ·exact hx z
  ·exact absurd (jU (zO e) z) (vv _)
 have cellK:∀x c,X.env.cells.lookup x=some c->∀v,s.heap.IsCell c v->h'.IsCell c v:=fun x c e v ⟨o,ho,hd⟩=>by
  have nch:c∉ch:=fun z=>(hch c z).2.2.1 x c e rfl
  by_cases hc:c∈X.fs
  ·obtain⟨sl,q⟩:=slot c o (I.cne x c e) hc nch ho (I.freeC x c e)
   exact⟨_,q,hd⟩
  ·exact⟨o,keep c o (I.cne x c e) hc nch ho (I.freeC x c e),hd⟩
 refine⟨I.ok,I.os,hg,⟨fun b o e n hb hx=>?_,fun b o e n hb hx=>?_,fun b o e n hx=>?_,fun b o e hx=>?_,fun b xs e=>tups b xs (I.base.tups b xs e),fun b o xs e=>frzs b o xs (I.base.frzs b o xs e),fun b ps e=>?_⟩,?_,fun x c e=>?_,?_,fun x c e=>?_,fun p hp=>?_,hok,I.len⟩
 ·exact keep b o (neL b o e) hb (neC b o e hx) (I.base.keep b o e n hb hx) (I.base.free b o e n hx)
 ·obtain⟨sl,e1⟩:=I.base.slot b o e n hb hx
  obtain⟨sl',e2⟩:=slot b _ (neL b o e) hb (neC b o e hx) e1 (I.base.free b o e n hx)
  exact⟨sl',e2⟩
 ·obtain⟨o',e1⟩:=I.base.there b o e hx
  exact free b o' (neC b o e hx) e1 (I.base.free b o e n hx)
 ·obtain⟨o',e1⟩:=I.base.there b o e hx
  exact there b o' (neC b o e hx) e1
 ·obtain⟨m1,e1⟩:=I.base.tbls b ps e
  obtain⟨m2,e2⟩:=tbls b _ e1
  exact⟨m1++m2,by rw[e2,Array.append_assoc]⟩
 ·obtain⟨m,hn,hl⟩:=I.loc
  refine⟨m,ns m hn,fun i x v e1 e2 e3=>?_⟩
  obtain⟨u,r,l⟩:=hl i x v e1 e2 e3
  refine⟨u,r,?_⟩
  rcases l with l | ⟨k,c,e,z⟩
  ·exact .inl l
  ·exact .inr ⟨k,c,e,cellK x c e _ z⟩
 ·obtain⟨v,z⟩:=I.cell x c e
  exact⟨v,cellK x c e v z⟩
 ·obtain⟨m,⟨o,_,_,ho,_⟩,_⟩:=I.loc
  exact free _ o (fun z=>(hch _ z).2.1 rfl) ho I.free
 ·obtain⟨v,o,ho,hd⟩:=I.cell x c e
  exact free c o (fun z=>(hch c z).2.2.1 x c e rfl) ho (I.freeC x c e)
 ·obtain⟨e,n,ne,nf,d⟩:=I.pin p hp
  have nch:p.1∉ch:=fun z=>(hch p.1 z).2.2.2 p hp rfl
  exact⟨keep p.1 p.2 ne nf nch e n,free p.1 p.2 nch e n,ne,nf,d⟩
theorem Inv.un{t':Nat}(I:Inv X pins σ H s)(u:Un X.fs [] H H' s.heap h')(hok:HOk X.prog X.w H' h'):Inv X pins σ H' { s with heap:=h',toks:=t' }:=by
 obtain⟨m,⟨o,es,ep,ho,r⟩,_⟩:=id I.loc
 obtain⟨sl,hL⟩:=u.any ho I.free (by simp)
 exact I.step (g':=s.gens) (d':=s.drawn) (ch:=[]) (fun _ z=>nomatch z) (fun b o _ hb _ e n=>u.keep b o e n hb (by simp)) (fun b o _ hb _ e n=>u.slot b o e n hb (by simp)) (fun b o _ e n=>u.free b o e n (by simp)) (fun b o _ e=>u.there b o e (by simp)) u.tups u.frzs u.tbls (fun m' hm=>by
  obtain⟨o',es',ep',ho',r'⟩:=hm
  rw[ho] at ho';cases ho'
  exact⟨_,es',ep',hL,r'⟩) hok I.bare
theorem Inv.call{g':Array GenState}{t':Nat}{d':Drawn}{ch:List Addr}(I:Inv X pins σ H s)(u:Un (frs X.stack) ch H H' s.heap h')(hok:HOk X.prog X.w H' h')(hg:AllBare g')
  (hch:∀b∈ch,(b∈X.ex\/X.s₀.heap.objs.size<=b)/\b≠X.env.locals/\(∀x c,X.env.cells.lookup x=some c->c≠b)/\∀p∈X.pn++pins,p.1≠b) :
  Inv X pins σ H' { s with heap:=h',gens:=g',drawn:=d',toks:=t' }:=by
 obtain⟨m,⟨o,es,ep,ho,r⟩,_⟩:=id I.loc
 obtain⟨sl,hL⟩:=u.any ho I.free fun z=>(hch _ z).2.1 rfl
 exact I.step (ch:=ch) hch (fun b o hL hb hc e n=>u.keep b o e n (fun z=>(zS.mp (I.stkSub b z)).elim hL hb) hc) (fun b o _ _ hc e n=>u.any e n hc) (fun b o hc e n=>u.free b o e n hc) (fun b o hc e=>u.there b o e hc) u.tups u.frzs u.tbls (fun m' hm=>by
  obtain⟨o',es',ep',ho',r'⟩:=hm
  rw[ho] at ho';cases ho'
  exact⟨_,es',ep',hL,r'⟩) hok hg
theorem Inv.turned{t':Nat}{it:Addr}(I:Inv X pins σ H s)(k:∀b o,b≠it->s.heap.get? b=some o->h'.get? b=some o)(hn:H it=none)(hL:it≠X.env.locals)
  (h1:it∈X.ex\/X.s₀.heap.objs.size<=it) (h2:∀x c,X.env.cells.lookup x=some c->c≠it) (h3:∀p∈X.pn++pins,p.1≠it):Inv X pins σ H { s with heap:=h',toks:=t' }:=by
 have nit:∀b u,H b=some u->b≠it:=fun b u e z=>by rw[z,hn] at e;cases e
 refine I.step (g':=s.gens) (d':=s.drawn) (ch:=[it]) (fun b hb=>?_) (fun b o _ _ hc e _=>k b o (fun z=>hc (by simp[z])) e) (fun b o _ _ hc e _=>⟨o.slots,k b o (fun z=>hc (by simp[z])) e⟩) (fun _ _ _ _ n=>n)
  (fun b o hc e=>⟨o,k b o (fun z=>hc (by simp[z])) e⟩) (fun _ _ e=>e) (fun _ _ _ e=>e) (fun b ps e=>⟨#[],by rw[e];simp⟩) (fun m hm=>?_) (fun b u e=>?_) I.bare
 ·have e:b=it:=by simpa using hb
  subst e
  exact⟨h1,hL,h2,h3⟩
 ·obtain⟨o,es,ep,ho,r⟩:=hm
  exact⟨o,es,ep,k _ o (qz hL) ho,r⟩
 ·refine(I.hok b u e).stay (fun c v hc q=>k c v ?_ q) (fun _ q=>q) fun _ _ q=>q
  rcases hc with z | z
  ·rw[z];exact nit b u e
  ·exact nit c _ z
theorem Inv.tok(I:Inv X pins σ H s)(t:Nat):Inv X pins σ H { s with toks:=t }:=I.un (h':=s.heap) (t':=t) Un.refl I.hok
theorem Inv.kept{t':Nat}(I:Inv X pins σ H s)(k:∀b u,s.heap.get? b=some u->h'.get? b=some u):Inv X pins σ H { s with heap:=h',toks:=t' }:=I.un (Un.kept k) (I.hok.kept k)
theorem Inv.laid{a:Addr}{o:HO}{t':Nat}(I:Inv X pins σ H s)(k:∀b u,s.heap.get? b=some u->h'.get? b=some u)(hp:s.heap.objs.size<=a)(new:ObjOk X.prog X.w (upd H a o) h' a o) :
  Inv X pins σ (upd H a o) { s with heap:=h',toks:=t' }:=I.un (Un.laid k hp (I.hok.fresh hp)) (I.hok.laid k hp new)
theorem Inv.write{x e:Addr}{o:HO}{t':Nat}(I:Inv X pins σ H s)(mu:Mut (H x))(he:e=x\/H e=some (.own x))(k:∀b u,b≠e->s.heap.get? b=some u->h'.get? b=some u)(heo:∃u,h'.get? e=some u)
  (new:ObjOk X.prog X.w (upd H x o) h' x o):Inv X pins σ (upd H x o) { s with heap:=h',toks:=t' }:=I.un (Un.write mu he k heo) (I.hok.write mu he k heo new)
theorem Inv.weak{σ':List (Option V)}(I:Inv X pins σ H s)(hl:σ'.length=σ.length)(w:∀(i:Nat) v,σ'[i]? =some (some v)->σ[i]? =some (some v)):Inv X pins σ' H s:=
 ⟨I.ok,I.os,I.bare,I.base,let ⟨m,hn,hl'⟩:=I.loc;⟨m,hn,fun i x v e1 e2 e3=>hl' i x v e1 (w i v e2) e3⟩,I.cell,I.free,I.freeC,I.pin,I.hok,hl.trans I.len⟩
theorem Inv.pins_of{pins':List (Addr×Obj)}(I:Inv X pins σ H s)(h:∀p∈pins',s.heap.get? p.1=some p.2/\H p.1=none/\p.1≠X.env.locals/\p.1∉X.fs/\∀v,p.2.data≠.cell v):Inv X pins' σ H s:=
 ⟨I.ok,I.os,I.bare,I.base,I.loc,I.cell,I.free,I.freeC,fun p hp=>(zY.mp hp).elim (fun z=>I.pin p (ji _ z)) (h p),I.hok,I.len⟩
theorem Vr{N:List Str}(hN:N.Nodup){i j:Nat}{x:Str}(a:N[i]? =some x)(b:N[j]? =some x):i=j:=by
 obtain⟨h1,e1⟩:=zQ.mp a
 obtain⟨h2,e2⟩:=zQ.mp b
 exact(QH hN).mp (e1.trans e2.symm)
theorem zaA{M:Model}{A:Around}{E:Value->Shared->Prop}{i:Nat}{x:Str}{v:V}{u:Value}{Q:Unit->Shared->Prop}(I:Inv X pins σ H s)(hN:X.N.Nodup)(hi:X.N[i]? =some x)(hx:Loc X.env.scope x)(r:RelV v u)
  (h:∀s',Inv X pins (σ.set i (some v)) H s'->(∃a,Heap.SameBut a s.heap s'.heap/\(a=X.env.locals\/X.env.cells.lookup x=some a))->Q () s') (hf:X.fn x=true\/X.env.scope.names.lookup x=some .local:=by first| exact .inl rfl | exact .inr rfl | assumption):wpAny M A (storeName X.env x u) Q E s:=by
 obtain⟨m,hn,hl⟩:=id I.loc
 have hcls:(X.env.scope.kind==.class||(X.env.scope.kind==.module&&X.env.locals != X.env.globals))=false:=by rw[I.ok.kind];rfl
 have hiσ:i<σ.length:=by rw[I.len];exact(zQ.mp hi).1
 have cne:=I.cne
 have tracked:∀{a:Addr} {h':Heap},(∃o,s.heap.get? a=some o/\H a=none)->Heap.SameBut a s.heap h'->HOk X.prog X.w H h':=fun {a h'} ha hs b ob e=>by
  obtain⟨_,_,hfree⟩:=ha
  refine(I.hok b ob e).stay (fun c w' hc q=>(hs.2 c ?_).trans q) (fun _ q=>q) fun _ _ q=>q
  rintro rfl
  rcases hc with rfl | hc
  ·rw[hfree] at e;cases e
  ·rw[hfree] at hc;cases hc
 rcases hx with hk | hk
 ·refine wpAny_storeName_local hk hn (fun h' hn' hs=>?_) hcls
  obtain⟨oL,_,_,hoL,_⟩:=id hn
  refine h _ ⟨I.ok,I.os,I.bare,⟨fun b o e n hb hx=>?_,fun b o e n hb hx=>?_,I.base.free,fun b o e hx=>?_,I.base.tups,I.base.frzs,I.base.tbls⟩,⟨_,hn',fun j y v' e1 e2 e3=>?_⟩,fun y c e=>?_,I.free,I.freeC,fun p hp=>?_,tracked ⟨oL,hoL,I.free⟩ hs,by simpa using I.len⟩ ⟨_,hs,.inl rfl⟩
  ·exact(hs.2 b (qq (jU (zO e) I.ok.above))).trans (I.base.keep b o e n hb hx)
  ·obtain⟨sl,e1⟩:=I.base.slot b o e n hb hx
   exact⟨sl,(hs.2 b (qq (jU (zO e) I.ok.above))).trans e1⟩
  ·obtain⟨o',e1⟩:=I.base.there b o e hx
   exact⟨o',(hs.2 b (qq (jU (zO e) I.ok.above))).trans e1⟩
  ·by_cases hj:j=i
   ·subst hj
    rw[hi] at e1;cases e1
    rw[XJ hiσ] at e2
    cases e2
    exact⟨u,r,.inl ⟨hk,by simp⟩⟩
   ·rw[XG (qz hj)] at e2
    obtain⟨u',r',q⟩:=hl j y v' e1 e2 e3
    refine⟨u',r',?_⟩
    rcases q with ⟨k,e⟩ | ⟨k,c,e,z⟩
    ·refine .inl ⟨k,?_⟩
     have:y≠x:=fun e=>hj (Vr hN e1 (e▸hi))
     simp[this,e]
    ·exact .inr ⟨k,c,e,z.sameBut hs (cne y c e)⟩
  ·obtain⟨w',z⟩:=I.cell y c e
   exact⟨w',z.sameBut hs (cne y c e)⟩
  ·obtain⟨e,n,ne,nf,d⟩:=I.pin p hp
   exact⟨(hs.2 p.1 ne).trans e,n,ne,nf,d⟩
 ·have hfn:X.fn x=true:=by
   rcases hf with z | z
   ·exact z
   ·rw[z] at hk;cases hk
  obtain⟨c,hc⟩:=I.ok.has x (.inl hk)
  obtain⟨w',z⟩:=I.cell x c hc
  refine wpAny_storeName_cell I.ok.kind hk hc z (fun h' hc' hs=>?_)
  obtain⟨oc,hoc,hocd⟩:=id z
  refine h { s with heap:=h' } ⟨I.ok,I.os,I.bare,⟨fun b o e n hb hx=>?_,fun b o e n hb hx=>?_,I.base.free,fun b o e hx=>?_,I.base.tups,I.base.frzs,I.base.tbls⟩,⟨m,hn.sameBut hs (qz (cne x c hc)),fun j y v' e1 e2 e3=>?_⟩,fun y c' e=>?_,I.free,I.freeC,fun p hp=>?_,tracked ⟨oc,hoc,I.freeC x c hc⟩ hs,by simpa using I.len⟩ ⟨c,hs,.inr hc⟩
  ·exact(hs.2 b (qq (jU (zO e) (I.ok.cab x c hfn hc)))).trans (I.base.keep b o e n hb hx)
  ·obtain⟨sl,e1⟩:=I.base.slot b o e n hb hx
   exact⟨sl,(hs.2 b (qq (jU (zO e) (I.ok.cab x c hfn hc)))).trans e1⟩
  ·obtain⟨o',e1⟩:=I.base.there b o e hx
   exact⟨o',(hs.2 b (qq (jU (zO e) (I.ok.cab x c hfn hc)))).trans e1⟩
  ·by_cases hj:j=i
   ·subst hj
    rw[hi] at e1;cases e1
    rw[XJ hiσ] at e2
    cases e2
    exact⟨u,r,.inr ⟨.inl hk,c,hc,hc'⟩⟩
   ·rw[XG (qz hj)] at e2
    obtain⟨u',r',q⟩:=hl j y v' e1 e2 e3
    refine⟨u',r',?_⟩
    rcases q with q | ⟨k,c',e,z'⟩
    ·exact .inl q
    ·refine .inr ⟨k,c',e,z'.sameBut hs ?_⟩
     rintro rfl
     exact hj (Vr hN e1 (I.ok.inj _ _ _ e hc▸hi))
  ·by_cases hcc:c'=c
   ·subst hcc;exact⟨_,hc'⟩
   ·obtain⟨w2,z2⟩:=I.cell y c' e
    exact⟨w2,z2.sameBut hs hcc⟩
  ·obtain⟨e,n,ne,nf,d⟩:=I.pin p hp
   refine⟨(hs.2 p.1 ?_).trans e,n,ne,nf,d⟩
   intro q
   rw[q,hoc] at e
   have q':oc=p.2:=jK e
   exact d w' (by rw[<- q'];exact hocd)
theorem xU{M:Model}{A:Around}{E:Value->Shared->Prop}{i:Nat}{x:Str}{v:V}{u:Value}{Q:Unit->Shared->Prop}(I:Inv X pins σ H s)(hN:X.N.Nodup)(hi:X.N[i]? =some x)(hx:Loc X.env.scope x)(r:RelV v u)
  (h:∀s',Inv X pins (σ.set i (some v)) H s'->Q () s') (hf:X.fn x=true\/X.env.scope.names.lookup x=some .local:=by first| exact .inl rfl | exact .inr rfl | assumption):wpAny M A (storeName X.env x u) Q E s:=
 zaA I hN hi hx r (fun s' I' _=>h s' I') hf
theorem Inv.call'{s':Shared}{ch:List Addr}(I:Inv X pins σ H s)(ho:s'.os=s.os)(u:Un (frs X.stack) ch H H' s.heap s'.heap)(hok:HOk X.prog X.w H' s'.heap)(hg:AllBare s'.gens)
  (hch:∀b∈ch,(b∈X.ex\/X.s₀.heap.objs.size<=b)/\b≠X.env.locals/\(∀x c,X.env.cells.lookup x=some c->c≠b)/\∀p∈X.pn++pins,p.1≠b):Inv X pins σ H' s':=by
 obtain⟨h',g',d',t',o'⟩:=s'
 have e:o'=s.os:=ho
 subst e
 exact I.call (g':=g') (t':=t') (d':=d') u hok hg hch
end
abbrev XK:=Value->Option Addr->Hp->Prop
abbrev St:=List (Option V)
abbrev VK:=V->Hp->Prop
abbrev TE:=St->Hp->VK->Prop
abbrev TT:=St->Hp->(Bool->Hp->Prop)->Prop
abbrev TA:=St->Hp->(List V->Hp->Prop)->Prop
structure XT where
 nx:St->Hp->Prop
 rt:VK
 bk:St->Hp->Prop:=fun _ _=>False
 ct:St->Hp->Prop:=fun _ _=>False
abbrev TS:=XT->St->Hp->Prop
def EP(X:Cx)(pins:List (Addr×Obj))(σ:St)(Q:VK)(u:Value)(s':Shared):Prop:=∃v H',Inv X pins σ H' s'/\RelV v u/\Q v H'
def TP(X:Cx)(pins:List (Addr×Obj))(σ:St)(Q:Bool->Hp->Prop)(b:Bool)(s':Shared):Prop:=∃H',Inv X pins σ H' s'/\Q b H'
def AP(X:Cx)(pins:List (Addr×Obj))(σ:St)(Q:List V->Hp->Prop)(us:List Value)(s':Shared):Prop:=∃vs H',Inv X pins σ H' s'/\Vals vs us/\Q vs H'
def SP(X:Cx)(pins:List (Addr×Obj))(D:XT)(f:Flow)(s':Shared):Prop:=
 match f with
 | .next=>∃σ' H',Inv X pins σ' H' s'/\D.nx σ' H'
 | .brk=>∃σ' H',Inv X pins σ' H' s'/\D.bk σ' H'
 | .cont=>∃σ' H',Inv X pins σ' H' s'/\D.ct σ' H'
 | .ret u=>∃v σ' H',Inv X pins σ' H' s'/\RelV v u/\D.rt v H'
def PE(X:Cx)(e:Expr)(t:TE):Prop:=
 ∀(pins:List (Addr×Obj)) (s:Shared) (σ:St) (H:Hp) (Q:VK),Inv X pins σ H s->t σ H Q->wpAny (model X.prog X.w) X.A (eval e X.env) (EP X pins σ Q) X.xe s
def PT(X:Cx)(e:Expr)(t:TT):Prop:=
 ∀(pins:List (Addr×Obj)) (s:Shared) (σ:St) (H:Hp) (Q:Bool->Hp->Prop),Inv X pins σ H s->t σ H Q->wpAny (model X.prog X.w) X.A (isTrue e X.env (eval e X.env)) (TP X pins σ Q) X.xe s
def PW(X:Cx)(e:Expr)(t:TT):Prop:=
 ∀(whole:Sem Value) (pins:List (Addr×Obj)) (s:Shared) (σ:St) (H:Hp) (Q:Bool->Hp->Prop),Inv X pins σ H s->t σ H Q->wpAny (model X.prog X.w) X.A (isTrue e X.env whole) (TP X pins σ Q) X.xe s
theorem PW.pt{X:Cx}{e:Expr}{t:TT}(h:PW X e t):PT X e t:=h _
def PA(X:Cx)(es:List Expr)(t:TA):Prop:=
 ∀(pos:Pos) (pins:List (Addr×Obj)) (s:Shared) (σ:St) (H:Hp) (Q:List V->Hp->Prop),Inv X pins σ H s->t σ H Q->wpAny (model X.prog X.w) X.A (spliced (backTo pos (starEach es X.env))) (AP X pins σ Q) X.xe s
def PS(X:Cx)(st:Stmt)(t:TS):Prop:=
 ∀(pins:List (Addr×Obj)) (s:Shared) (σ:St) (H:Hp) (D:XT),Inv X pins σ H s->t D σ H->wpAny (model X.prog X.w) X.A (exec st X.env) (SP X pins D) X.xe s
def PSs(X:Cx)(st:List Stmt)(t:TS):Prop:=
 ∀(pins:List (Addr×Obj)) (s:Shared) (σ:St) (H:Hp) (D:XT),Inv X pins σ H s->t D σ H->wpAny (model X.prog X.w) X.A (execs st X.env) (SP X pins D) X.xe s
theorem thn{α:Type}{t:Sem α}{Q Q':α->Shared->Prop}{M:Model}{A:Around}{E:Value->Shared->Prop}{s:Shared}(h:wpAny M A t Q E s)(hQ:∀a s,Q a s->Q' a s):wpAny M A t Q' E s:=xp h hQ fun _ _ x=>x
section
variable{X:Cx}
inductive IsB(x:V)(H:Hp)(Q:Bool->Hp->Prop):Prop
 | mk (c:Bool) (h:x=.bl c) (q:Q c H):IsB x H Q
inductive IsI(x:V)(H:Hp)(Q:Int->Hp->Prop):Prop
 | mk (i:Int) (h:x=.int i) (q:Q i H):IsI x H Q
inductive zg1(vs:List V)(H:Hp)(Q:V->V->Hp->Prop):Prop
 | mk (v w:V) (h:vs=[v,w]) (q:Q v w H):zg1 vs H Q
inductive zeP(i:Nat)(σ:St)(H:Hp)(Q:VK):Prop
 | mk (v:_) (_:σ[i]? =some (some v)) (_:Q v H):zeP i σ H Q
def tC(v:V):TE:=fun _ H Q=>Q v H
theorem zfb{i:Nat}{x:Str}{pos:Pos}(hN:X.N[i]? =some x)(hv:Vis X.env.scope x)(hd:(x==("__debug__" : Str))=false:=by decide)(hcd:(x==("__classdict__" : Str))=false:=by decide):PE X (.Name x pos) (zeP i):=by
 intro pins s σ H Q I h
 obtain⟨v,e,h⟩:=h
 obtain⟨m,hn,hl⟩:=I.loc
 obtain⟨u,r,l⟩:=hl i x v hN e hv
 have fin:EP X pins σ Q u s:=⟨v,H,I,r,h⟩
 rcases l with ⟨hk,hm⟩ | ⟨hk,c,hc,hcell⟩
 ·exact wpAny_Name (wpAny_loadName_local I.ok.kind hk hn hm fin) hd
 ·rcases hk with hk | hk
  ·exact wpAny_Name (wpAny_loadName_cell I.ok.kind hk hc hcell fin) hd
  ·exact wpAny_Name (wpAny_loadName_free I.ok.kind hk hc hcell fin hcd) hd
theorem zf{i j pos}:PE X (.Constant (.int i) j pos) (tC (.int i)):=fun _ _ _ H _ I h=>wpAny_Constant_int ⟨.int i,H,I.tok _,⟨_,rfl⟩,h⟩
theorem xH{b j pos}:PE X (.Constant (.bool b) j pos) (tC (.bl b)):=fun _ _ _ H _ I h=>Constant_bool ⟨.bl b,H,I,rfl,h⟩
theorem zfd{j pos}:PE X (.Constant .none j pos) (tC .non):=fun _ _ _ H _ I h=>Constant_none ⟨.non,H,I,rfl,h⟩
theorem zL{x j pos}:PE X (.Constant (.str x) j pos) (tC (.str x)):=fun _ _ _ H _ I h=>Calls.Constant_str ⟨.str x,H,I.tok _,⟨_,rfl⟩,h⟩
def Gl(X:Cx)(x:Str):Prop:=X.env.kindOf x=some .globalImplicit
theorem zdI{E:Value->Shared->Prop}{pins:List (Addr×Obj)}{s:Shared}{σ:St}{H:Hp}{x:Str}{u:Value}{pos:Pos}{Q:Value->Shared->Prop}(I:Inv X pins σ H s)(hg:Gl X x)(hm:X.mg x=some u)(h:Q u s)
  (hd:(x==("__debug__" : Str))=false:=by decide):wpAny (model X.prog X.w) X.A (eval (.Name x pos) X.env) Q E s:=
 zcP I.ok.kind hg (Calls.loadGlobal_global (by rw[I.ok.glob];exact I.mod.glob.keeps I.bk) hm h) hd
theorem vF{E:Value->Shared->Prop}{pins:List (Addr×Obj)}{s:Shared}{σ:St}{H:Hp}{x:Str}{u:Value}{pos:Pos}{Q:Value->Shared->Prop}(I:Inv X pins σ H s)(hg:Gl X x)(hm:X.mg x=none)(hv:bootBuiltins x=some u)(h:Q u s)
  (hn:x ≠ "__name__" :=by decide) (hd:(x==("__debug__" : Str))=false:=by decide):wpAny (model X.prog X.w) X.A (eval (.Name x pos) X.env) Q E s:=by
 obtain⟨mb,h1,h2⟩:=I.mod.blt
 exact zcP I.ok.kind hg (Calls.loadGlobal_builtin (by rw[I.ok.glob];exact I.mod.glob.keeps I.bk) hm (by rw[I.ok.blt];exact h1.keeps I.bk) ((h2 x hn).trans hv) h) hd
theorem qQ{x:Str}{v:V}{u:Value}{pos:Pos}(hg:Gl X x)(hm:X.mg x=none)(hv:bootBuiltins x=some u)(r:RelV v u)(hn:x ≠ "__name__" :=by decide)(hd:(x==("__debug__" : Str))=false:=by decide):PE X (.Name x pos) (tC v):=
 fun _ _ _ H _ I h=>vF I hg hm hv ⟨v,H,I,r,h⟩ hn hd
variable{a b:Expr}{ta tb:TE}{pos:Pos}
def PC(X:Cx)(op:CmpOp)(a b:Expr)(t:TE):Prop:=
 ∀(pins:List (Addr×Obj)) (s:Shared) (σ:St) (H:Hp) (Q:VK),Inv X pins σ H s->t σ H Q ->
  wpAny (model X.prog X.w) X.A (eval a X.env) (fun v s₁=>wpAny (model X.prog X.w) X.A (eval b X.env) (fun u s₂=>wpAny (model X.prog X.w) X.A (compareOp op v u) (EP X pins σ Q) X.xe s₂) X.xe s₁) X.xe s
theorem zb9(b:Expr){op:CmpOp}(h:op≠.In)(h2:op≠.NotIn):behindInMarks op b=false:=by
 have e1:(op==CmpOp.In)=false:=by cases op<;>first| rfl | exact absurd rfl h
 have e2:(op==CmpOp.NotIn)=false:=by cases op<;>first| rfl | exact absurd rfl h2
 cases b<;>simp[behindInMarks,e1,e2]
def tB(t:TE):TT:=fun σ H Q=>t σ H fun x H1=>IsB x H1 Q
theorem ze4{op:CmpOp}{t:TE}(h:PC X op a b t)(h1:behindInMarks op b=false:=by first| exact zb9 _ (by decide) (by decide) | rfl):PT X (.Compare a [op] [b] pos) (tB t):=by
 intro pins s σ H Q I hw
 refine wpAny_isTrue_Compare1 (thn (h pins s σ H _ I hw) fun v s1 h1=>thn h1 fun u s2 h2=>thn h2 fun c s3 ⟨x,H1,I1,r1,q1⟩=>?_) h1
 obtain⟨d,rfl,q⟩:=q1
 cases r1
 exact Za ⟨H1,I1,q⟩
theorem jV{e:Expr}{t:TE}(h:PE X e t)(he:∀whole,isTrue e X.env whole=(do let v<-whole;standAt e.pos;holding [v] (truthy v)):=by intro _;rfl):PT X e (tB t):=by
 intro pins s σ H Q I hw
 refine isTrue_plain (thn (h pins s σ H _ I hw) fun v s1 ⟨x,H1,I1,r1,q1⟩=>?_) (he _)
 obtain⟨d,rfl,q⟩:=q1
 cases r1
 exact Za ⟨H1,I1,q⟩
variable{tA tB':TT}{rest:List Expr}
def zhi(t u:TT):TT:=fun σ H Q=>t σ H fun c H1=>if c=true then u σ H1 Q else Q false H1
def tOr(t u:TT):TT:=fun σ H Q=>t σ H fun c H1=>if c=true then Q true H1 else u σ H1 Q
def zhc(t:TT):TT:=fun σ H Q=>t σ H fun c H1=>Q (!c) H1
theorem ZY(ha:PT X a tA):PW X (.BoolOp .And [a] pos) tA:=by
 intro wh pins s σ H Q I h
 refine isTrue_and (thn (ha pins s σ H Q I h) fun c s1 e=>?_)
 cases c with
 | true=>exact isTrue_and_nil e
 | false=>exact e
theorem vX(ha:PT X a tA):PW X (.BoolOp .Or [a] pos) tA:=by
 intro wh pins s σ H Q I h
 refine isTrue_or (thn (ha pins s σ H Q I h) fun c s1 e=>?_)
 cases c with
 | false=>exact isTrue_or_nil e
 | true=>exact e
theorem J3(ha:PT X a tA)(hb:PW X (.BoolOp .And (b::rest) pos) tB'):PW X (.BoolOp .And (a::b::rest) pos) (zhi tA tB'):=by
 intro wh pins s σ H Q I h
 refine isTrue_and (thn (ha pins s σ H _ I h) fun c s1 ⟨H1,I1,q1⟩=>?_)
 cases c with
 | true=>exact hb wh pins s1 σ H1 Q I1 q1
 | false=>exact⟨H1,I1,q1⟩
theorem yI(ha:PT X a tA)(hb:PW X (.BoolOp .Or (b::rest) pos) tB'):PW X (.BoolOp .Or (a::b::rest) pos) (tOr tA tB'):=by
 intro wh pins s σ H Q I h
 refine isTrue_or (thn (ha pins s σ H _ I h) fun c s1 ⟨H1,I1,q1⟩=>?_)
 cases c with
 | true=>exact⟨H1,I1,q1⟩
 | false=>exact hb wh pins s1 σ H1 Q I1 q1
theorem Zm(ha:PT X a tA):PT X (.UnaryOp .Not a pos) (zhc tA):=by
 intro pins s σ H Q I h
 exact isTrue_not (ha pins s σ H (fun c H1=>Q (!c) H1) I h)
def zf6(ta tb:TE):TE:=fun σ H Q=>ta σ H fun x H1=>IsB x H1 fun c H1=>if c=true then tb σ H1 Q else Q (.bl false) H1
def zhb(ta tb:TE):TE:=fun σ H Q=>ta σ H fun x H1=>IsB x H1 fun c H1=>if c=true then Q (.bl true) H1 else tb σ H1 Q
def zfZ(ta:TE):TE:=fun σ H Q=>ta σ H fun x H1=>IsB x H1 fun c H1=>Q (.bl (!c)) H1
theorem xV{op}{t:TE}(h:PE X a t):PE X (.BoolOp op [a] pos) t:=fun pins s σ H Q I hw=>BoolOp_one (h pins s σ H Q I hw)
theorem xW(ha:PE X a ta)(hb:PE X (.BoolOp .And (b::rest) pos) tb):PE X (.BoolOp .And (a::b::rest) pos) (zf6 ta tb):=by
 intro pins s σ H Q I h
 refine BoolOp_and (thn (ha pins s σ H _ I h) fun v s1 ⟨x,H1,I1,r1,q1⟩=>?_)
 obtain⟨c,rfl,q1⟩:=q1
 cases r1
 refine Za ?_
 cases c with
 | true=>exact hb pins s1 σ H1 Q I1 q1
 | false=>exact⟨.bl false,H1,I1,rfl,q1⟩
theorem zgr(ha:PE X a ta)(hb:PE X (.BoolOp .Or (b::rest) pos) tb):PE X (.BoolOp .Or (a::b::rest) pos) (zhb ta tb):=by
 intro pins s σ H Q I h
 refine BoolOp_or (thn (ha pins s σ H _ I h) fun v s1 ⟨x,H1,I1,r1,q1⟩=>?_)
 obtain⟨c,rfl,q1⟩:=q1
 cases r1
 refine Za ?_
 cases c with
 | false=>exact hb pins s1 σ H1 Q I1 q1
 | true=>exact⟨.bl true,H1,I1,rfl,q1⟩
theorem zfc(ha:PE X a ta):PE X (.UnaryOp .Not a pos) (zfZ ta):=by
 intro pins s σ H Q I h
 refine UnaryOp_ (thn (ha pins s σ H _ I h) fun v s1 ⟨x,H1,I1,r1,q1⟩=>?_)
 obtain⟨c,rfl,q1⟩:=q1
 cases r1
 exact not_of (Za ⟨.bl (!c),H1,I1,rfl,q1⟩)
def tIf(t:TT)(ta tb:TE):TE:=fun σ H Q=>t σ H fun c H1=>if c=true then ta σ H1 Q else tb σ H1 Q
theorem xm{c:Expr}(hc:PT X c tA)(ha:PE X a ta)(hb:PE X b tb):PE X (.IfExp c a b pos) (tIf tA ta tb):=by
 intro pins s σ H Q I h
 refine wpAny_IfExp (thn (hc pins s σ H _ I h) fun d s1 ⟨H1,I1,q1⟩=>?_)
 cases d with
 | true=>exact ha pins s1 σ H1 Q I1 q1
 | false=>exact hb pins s1 σ H1 Q I1 q1
end
def SqL(K:PySem.W.Frag)(H:Hp)(a:Addr)(xs:List V):Prop:=
 Rd H a (.lst xs) \/
  ∃(o:Obj) (its:Array Value) (n:Nat),K.lookup a=some o/\o.cls=.type "list" /\ o.dict=none/\o.data=.seq its n/\its.size<=sizeLine/\Vals xs its.toList
def SqT(K:PySem.W.Frag)(H:Hp)(a:Addr)(xs:List V):Prop:=
 Rd H a (.tup xs) \/
  ∃(o:Obj) (its:Array Value) (n:Nat),K.lookup a=some o/\o.cls=.type "tuple" /\ o.data=.seq its n/\its.size<=sizeLine/\Vals xs its.toList
def zhq:Value->Option V
 | .none=>some .non
 | .bool b=>some (.bl b)
 | .int i _=>some (.int i)
 | .str x _=>some (.str x)
 | .bytes b _=>some (.byt b)
 | .float b _=>some (.flt b)
 | .ref a=>some (.ref a)
 | .type n=>some (.ty n)
 | _=>none
theorem RelV.abs{x:V}{u:Value}(r:RelV x u):zhq u=some x:=by
 cases x with
 | non=>cases r;rfl
 | bl _=>cases r;rfl
 | int _=>obtain⟨t,rfl⟩:=r;rfl
 | str _=>obtain⟨t,rfl⟩:=r;rfl
 | byt _=>obtain⟨t,rfl⟩:=r;rfl
 | flt _=>obtain⟨t,rfl⟩:=r;rfl
 | ref _=>cases r;rfl
 | ty _=>cases r;rfl
theorem RelV.inj{x y:V}{u:Value}(r:RelV x u)(q:RelV y u):x=y:=jK (r.abs.symm.trans q.abs)
theorem Vals.inj:∀{xs ys:List V} {us:List Value},Vals xs us->Vals ys us->xs=ys
 | _,_,_,.nil,.nil=>rfl
 | _,_,_,.cons r t,.cons r' t'=>by rw[r.inj r',Vals.inj t t']
section
variable{X:Cx}{pins:List (Addr×Obj)}{σ:St}{H:Hp}{s:Shared}{a:Addr}{xs ys:List V}
theorem SqL.of{K:PySem.W.Frag}(h:H a=some (.lst xs)):SqL K H a xs:=.inl (.inl h)
theorem SqT.of{K:PySem.W.Frag}(h:H a=some (.tup xs)):SqT K H a xs:=.inl (.inl h)
theorem Inv.list(I:Inv X pins σ H s)(h:SqL X.K H a xs):∃its:List Value,Vals xs its/\PlainL s.heap a its.toArray/\xs.length<=sizeLine:=by
 rcases h with h | ⟨o,its,n,hk,hc,hd,hs,hz,r⟩
 ·obtain⟨z,its,n,r,e⟩:=h.ok I.hok
  exact⟨its,r,⟨_,n,e,rfl,rfl,rfl⟩,z⟩
 ·refine⟨its.toList,r,⟨o,n,I.kIn a o hk,hc,hd,by simpa using hs⟩,?_⟩
  have e:=r.length
  simp only[ZK] at e
  omega
theorem Inv.tuple(I:Inv X pins σ H s)(h:SqT X.K H a xs):∃its:List Value,Vals xs its/\IsTup s.heap a its.toArray/\xs.length<=sizeLine:=by
 rcases h with h | ⟨o,its,n,hk,hc,hs,hz,r⟩
 ·obtain⟨z,its,r,p⟩:=h.ok I.hok
  exact⟨its,r,p.1,z⟩
 ·refine⟨its.toList,r,⟨o,I.kIn a o hk,hc,n,by simpa using hs⟩,?_⟩
  have e:=r.length
  simp only[ZK] at e
  omega
theorem Inv.list_inj(I:Inv X pins σ H s)(h:SqL X.K H a xs)(h':SqL X.K H a ys):xs=ys:=by
 obtain⟨its,r,⟨o,n,e,_,_,d⟩,_⟩:=I.list h
 obtain⟨its',r',⟨o',n',e',_,_,d'⟩,_⟩:=I.list h'
 rw[e] at e';cases e'
 rw[d] at d'
 injection d' with d1 _
 have:its=its':=by simpa using congrArg Array.toList d1
 subst this
 exact r.inj r'
theorem Inv.tuple_inj(I:Inv X pins σ H s)(h:SqT X.K H a xs)(h':SqT X.K H a ys):xs=ys:=by
 obtain⟨its,r,⟨o,e,_,n,d⟩,_⟩:=I.tuple h
 obtain⟨its',r',⟨o',e',_,n',d'⟩,_⟩:=I.tuple h'
 rw[e] at e';cases e'
 rw[d] at d'
 injection d' with d1 _
 have:its=its':=by simpa using congrArg Array.toList d1
 subst this
 exact r.inj r'
end
abbrev Cx.wish(X:Cx)(E:Value->Shared->Prop):Cx:={ X with xe:=E }
abbrev Cx.nox(X:Cx):Cx:=X.wish fun _ _=>False
theorem Cx.Ok.wish{X:Cx}(ok:X.Ok)(E:Value->Shared->Prop):(X.wish E).Ok:=
 ⟨ok.mod,ok.kind,ok.glob,ok.blt,ok.above,ok.inj,ok.has,ok.cab,ok.hd,ok.frames,ok.stk,ok.exf,ok.bs,ok.bsz,ok.noex,ok.exfs,ok.funs,ok.frf⟩
theorem Cx.Ok.unwish{X:Cx}{E:Value->Shared->Prop}(ok:(X.wish E).Ok):X.Ok:=
 ⟨ok.mod,ok.kind,ok.glob,ok.blt,ok.above,ok.inj,ok.has,ok.cab,ok.hd,ok.frames,ok.stk,ok.exf,ok.bs,ok.bsz,ok.noex,ok.exfs,ok.funs,ok.frf⟩
section
variable{X:Cx}{pins:List (Addr×Obj)}{σ:St}{H:Hp}{s:Shared}{E:Value->Shared->Prop}
theorem Inv.wish(I:Inv X pins σ H s)(E:Value->Shared->Prop):Inv (X.wish E) pins σ H s:=⟨I.ok.wish E,I.os,I.bare,I.base,I.loc,I.cell,I.free,I.freeC,I.pin,I.hok,I.len⟩
theorem Inv.unwish(I:Inv (X.wish E) pins σ H s):Inv X pins σ H s:=⟨I.ok.unwish,I.os,I.bare,I.base,I.loc,I.cell,I.free,I.freeC,I.pin,I.hok,I.len⟩
theorem SP.unwish{D:XT}{f:Flow}{s':Shared}(h:SP (X.wish E) pins D f s'):SP X pins D f s':=by
 cases f with
 | next=>obtain⟨σ',H',I,q⟩:=h;exact⟨σ',H',I.unwish,q⟩
 | brk=>obtain⟨σ',H',I,q⟩:=h;exact⟨σ',H',I.unwish,q⟩
 | cont=>obtain⟨σ',H',I,q⟩:=h;exact⟨σ',H',I.unwish,q⟩
 | ret u=>obtain⟨v,σ',H',I,r,q⟩:=h;exact⟨v,σ',H',I.unwish,r,q⟩
theorem PE.nox{e:Expr}{t:TE}(h:PE X.nox e t):PE X e t:=fun pins s σ H Q I hw=>
 xp (h pins s σ H Q (I.wish _) hw) (fun _ _ ⟨v,H',I',r,q⟩=>⟨v,H',I'.unwish,r,q⟩) fun _ _ z=>False.elim z
theorem PT.nox{e:Expr}{t:TT}(h:PT X.nox e t):PT X e t:=fun pins s σ H Q I hw=>
 xp (h pins s σ H Q (I.wish _) hw) (fun _ _ ⟨H',I',q⟩=>⟨H',I'.unwish,q⟩) fun _ _ z=>False.elim z
theorem PSs.nox{st:List Stmt}{t:TS}(h:PSs X.nox st t):PSs X st t:=fun pins s σ H D I hw=>
 xp (h pins s σ H D (I.wish _) hw) (fun _ _ q=>q.unwish) fun _ _ z=>False.elim z
end
section
variable{X:Cx}{st:Stmt}{rest:List Stmt}{t u:TS}{e:Expr}{te:TE}{pos:Pos}
def zf1:TS:=fun D σ H=>D.nx σ H
def zg8(t u:TS):TS:=fun D σ H=>t { D with nx:=u D } σ H
theorem qK:PSs X [] zf1:=fun _ _ σ H _ I h=>wpAny_execs_nil ⟨σ,H,I,h⟩
theorem zg(h1:PS X st t)(h2:PSs X rest u):PSs X (st::rest) (zg8 t u):=by
 intro pins s σ H D I h
 refine wpAny_execs_cons (thn (h1 pins s σ H { D with nx:=u D } I h) fun f s1 q=>?_)
 cases f with
 | next=>
  obtain⟨σ',H',I',q⟩:=q
  exact h2 pins s1 σ' H' D I' q
 | ret v=>exact q
 | brk=>exact q
 | cont=>exact q
theorem zm(h1:PS X st t):PSs X [st] t:=by
 intro pins s σ H D I h
 refine wpAny_execs_cons (thn (h1 pins s σ H D I h) fun f s1 q=>?_)
 cases f with
 | next=>exact wpAny_execs_nil q
 | ret v=>exact q
 | brk=>exact q
 | cont=>exact q
theorem Inv.quiet{pins:List (Addr×Obj)}{σ:St}{H:Hp}{s:Shared}(I:Inv X pins σ H s):interactive X.env=false:=by simp[interactive,I.ok.kind]
def zf2(te:TE):TS:=fun D σ H=>te σ H fun _ H1=>D.nx σ H1
theorem zU(he:PE X e te)(hs:swapsWith e none pos.line X.env=pure false:=by rfl):PS X (.Expr e pos) (zf2 te):=by
 intro pins s σ H D I h
 exact wpAny_Expr_any (thn (he pins s σ H _ I h) fun v s1 ⟨x,H1,I1,r1,q1⟩=>⟨σ,H1,I1,q1⟩) I.quiet hs
def zg9(te:TE):TS:=fun D σ H=>te σ H D.rt
theorem zH(he:PE X e te):PS X (.Return (some e) pos) (zg9 te):=by
 intro pins s σ H D I h
 exact wpAny_Return_some (thn (he pins s σ H _ I h) fun v s1 ⟨x,H1,I1,r1,q1⟩=>⟨x,σ,H1,I1,r1,q1⟩)
def zhe(c:TT)(t u:TS):TS:=fun D σ H=>c σ H fun b H1=>if b=true then t D σ H1 else u D σ H1
theorem qY{c:Expr}{a b:List Stmt}{tc:TT}(hc:PT X c tc)(ha:PSs X a t)(hb:PSs X b u):PS X (.If c a b pos) (zhe tc t u):=by
 intro pins s σ H D I h
 refine wpAny_If (thn (hc pins s σ H _ I h) fun d s1 ⟨H1,I1,q1⟩=>?_)
 cases d with
 | true=>exact ha pins s1 σ H1 D I1 q1
 | false=>exact hb pins s1 σ H1 D I1 q1
end
abbrev TG:=V->St->Hp->(St->Hp->Prop)->Prop
abbrev TGs:=List V->St->Hp->(St->Hp->Prop)->Prop
def PG(X:Cx)(target:Expr)(t:TG):Prop:=
 ∀(pins:List (Addr×Obj)) (s:Shared) (σ:St) (H:Hp) (v:V) (u:Value) (Q:St->Hp->Prop),Inv X pins σ H s->RelV v u->t v σ H Q ->
  wpAny (model X.prog X.w) X.A (assign target X.env u) (fun _ s'=>∃σ' H',Inv X pins σ' H' s'/\Q σ' H') X.xe s
def PGs(X:Cx)(ts:List Expr)(t:TGs):Prop:=
 ∀(pins:List (Addr×Obj)) (s:Shared) (σ:St) (H:Hp) (vs:List V) (us:List Value) (Q:St->Hp->Prop),Inv X pins σ H s->Vals vs us->t vs σ H Q ->
  wpAny (model X.prog X.w) X.A (assignInOrder ((assignEach ts X.env).map (·.2)) us) (fun _ s'=>∃σ' H',Inv X pins σ' H' s'/\Q σ' H') X.xe s
abbrev zfQ:=V->V->V->Hp->(Hp->Prop)->Prop
def zgX(X:Cx)(t:zfQ):Prop:=
 ∀(pins:List (Addr×Obj)) (s:Shared) (σ:St) (H:Hp) (o i v:V) (ov iv u:Value) (Q:Hp->Prop),Inv X pins σ H s->RelV o ov->RelV i iv->RelV v u->t o i v H Q ->
  wpAny (model X.prog X.w) X.A (setItem ov iv u) (fun _ s'=>∃H',Inv X pins σ H' s'/\Q H') X.xe s
section
variable{X:Cx}{pos:Pos}
def vN(i:Nat):TG:=fun v σ H Q=>Q (σ.set i (some v)) H
theorem zy{i:Nat}{x:Str}(hN:X.N.Nodup)(hi:X.N[i]? =some x)(hx:Loc X.env.scope x)(hf:X.fn x=true\/X.env.scope.names.lookup x=some .local:=by first| exact .inl rfl | exact .inr rfl | assumption):PG X (.Name x pos) (vN i):=by
 intro pins s σ H v u Q I r h
 exact wpAny_assign_Name (xU I hN hi hx r (fun s' I'=>⟨_,H,I',h⟩) hf)
def zdQ:TGs:=fun vs σ H Q=>vs=[]/\Q σ H
inductive ZD(t:TG)(u:TGs)(vs:List V)(σ:St)(H:Hp)(Q:St->Hp->Prop):Prop
 | mk (v r:_) (_:vs=v::r) (_:t v σ H fun σ' H'=>u r σ' H' Q):ZD t u vs σ H Q
theorem jH:PGs X [] zdQ:=by
 intro pins s σ H vs us Q I r h
 obtain⟨e,h⟩:=h
 subst e
 cases r
 exact assignInOrder_nil ⟨σ,H,I,h⟩
theorem zR{e:Expr}{es:List Expr}{t:TG}{u:TGs}(h1:PG X e t)(h2:PGs X es u)
  (hs:(assignEach (e::es) X.env).map (·.2)=assign e X.env::(assignEach es X.env).map (·.2):=by rfl):PGs X (e::es) (ZD t u):=by
 intro pins s σ H vs us Q I r h
 obtain⟨v,vr,e1,h⟩:=h
 subst e1
 cases r with
 | cons r rr=>
  rw[hs]
  refine assignInOrder_cons (thn (h1 pins s σ H _ _ _ I r h) fun _ s1 ⟨σ1,H1,I1,q1⟩=>?_)
  exact h2 pins s1 σ1 H1 _ _ Q I1 rr q1
inductive zcr(K:PySem.W.Frag)(n:Nat)(t:TGs)(v:V)(σ:St)(H:Hp)(Q:St->Hp->Prop):Prop
 | mk (a xs:_) (_:v=.ref a) (_:SqT K H a xs) (_:xs.length=n) (_:t xs σ H Q):zcr K n t v σ H Q
theorem xi{es:List Expr}{k:Nat}{t:TGs}{n:Nat}(hc:X.calm=true)(h:PGs X es t)
  (hn:(assignEach es X.env).length=n:=by rfl) (hst:(assignEach es X.env).findIdx? (·.1)=none:=by rfl):PG X (.Tuple es k pos) (zcr X.K n t):=by
 intro pins s σ H v u Q I r hw
 obtain⟨a,xs,e1,hq,hl,hw⟩:=hw
 subst e1
 cases r
 obtain⟨its,rv,ht,hz⟩:=I.tuple hq
 refine assign_Tuple_tuple (I.ok.hd hc) ht (by simp[hn,<- hl,rv.length]) hst fun h' hx=>?_
 have I1:Inv X pins σ H { s with heap:=h' }:=I.kept (t':=s.toks) fun b o e=>hx b o (qq (zO e)) e
 exact h pins _ σ H xs _ Q I1 (by simpa using rv) hw
def zho(to ti:TE)(t:zfQ):TG:=fun v σ H Q=>to σ H fun o H1=>ti σ H1 fun i H2=>t o i v H2 fun H3=>Q σ H3
theorem vB{o i:Expr}{to ti:TE}{t:zfQ}(ho:PE X o to)(hi:PE X i ti)(hs:zgX X t)
  (ha:∀v,assign (.Subscript o i pos) X.env v=(do
   let ov<-holding [v] (eval o X.env)
   let iv<-holding [v,ov] (eval i X.env)
   standAt pos
   holding [v,ov,iv] (setItem ov iv v)
   release [v,ov,iv] []):=by intro _;rfl):PG X (.Subscript o i pos) (zho to ti t):=by
 intro pins s σ H v u Q I r h
 rw[ha]
 refine zn (y6 (thn (ho pins s σ H _ I h) fun ov s1 ⟨x,H1,I1,r1,q1⟩=>?_))
 refine zn (y6 (thn (hi pins s1 σ H1 _ I1 q1) fun iv s2 ⟨y,H2,I2,r2,q2⟩=>?_))
 refine zn (Zx (zn (y6 (thn (hs pins s2 σ H2 x y v ov iv u _ I2 r1 r2 r q2) fun _ s3 ⟨H3,I3,q3⟩=>?_))))
 exact wpAny_release ⟨σ,H3,I3,q3⟩
def V9(te:TE)(g:TG):TS:=fun D σ H=>te σ H fun x H1=>g x σ H1 D.nx
theorem j7{tg e:Expr}{te:TE}{g:TG}(he:PE X e te)(hg:PG X tg g)(hs:swapsWithSole [tg] e pos.line X.env=pure false:=by rfl)(hw:swappedStores [tg] e X.env=pure none:=by rfl)
  (h1:(assignEach [tg] X.env).map (·.2)=[assign tg X.env]:=by rfl):PS X (.Assign [tg] e pos) (V9 te g):=by
 intro pins s σ H D I h
 refine wpAny_Assign_stores (thn (he pins s σ H _ I h) fun v s1 ⟨x,H1,I1,r1,q1⟩=>?_) hs hw
 rw[h1]
 exact thn (hg pins s1 σ H1 x v _ I1 r1 q1) fun _ s2 q=>q
theorem zD{i:Nat}{x:Str}{e:Expr}{te:TE}{pos':Pos}(hN:X.N.Nodup)(hi:X.N[i]? =some x)(hx:Loc X.env.scope x)(he:PE X e te)(hs:swapsWith e (some (.Name x pos')) pos.line X.env=pure false:=by rfl)(hf:X.fn x=true\/X.env.scope.names.lookup x=some .local:=by first| exact .inl rfl | exact .inr rfl | assumption) :
  PS X (.Assign [.Name x pos'] e pos) (V9 te (vN i)):=by
 intro pins s σ H D I h
 refine wpAny_Assign_Name (thn (he pins s σ H _ I h) fun v s1 ⟨y,H1,I1,r1,q1⟩=>?_) hs
 exact xU I1 hN hi hx r1 (fun s2 I2=>⟨_,H1,I2,q1⟩) hf
def zha(i j:Nat)(ta:TA):TS:=fun D σ H=>ta σ H fun vs H1=>zg1 vs H1 fun v w H1=>D.nx ((σ.set i (some v)).set j (some w)) H1
theorem vY{i j:Nat}{x y:Str}{a b:Expr}{ta:TA}{px py pt:Pos}{kt k2 pt2}(hc:X.calm=true)(hN:X.N.Nodup)(hi:X.N[i]? =some x)(hj:X.N[j]? =some y)(hij:i≠j)
  (hx:X.env.scope.names.lookup x=some .local) (hy:X.env.scope.names.lookup y=some .local) (ha:PA X [a,b] ta)
  (hw:swappedStores [.Tuple [.Name x px,.Name y py] kt pt] (.Tuple [a,b] k2 pt2) X.env=pure (some [x,y]))
  (hs:swapsWithSole [.Tuple [.Name x px,.Name y py] kt pt] (.Tuple [a,b] k2 pt2) pos.line X.env=pure false:=by rfl) :
  PS X (.Assign [.Tuple [.Name x px,.Name y py] kt pt] (.Tuple [a,b] k2 pt2) pos) (zha i j ta):=by
 intro pins s σ H D I h
 rw[exec_Assign_arm]
 refine zn (Zx ?_)
 rw[hs]
 refine zn (zP ?_)
 rw[zq (by decide)]
 refine zn (Tuple_ (thn (ha _ pins s σ H _ I h) fun us s1 ⟨vs,H1,I1,r1,q1⟩=>?_))
 obtain⟨v,w,e1,q1⟩:=q1
 subst e1
 obtain⟨u1,u2,rfl,rv,rw'⟩:∃u1 u2,us=[u1,u2]/\RelV v u1/\RelV w u2:=by
  cases r1 with
  | cons p q=>
   cases q with
   | cons p' q'=>
    cases q'
    exact⟨_,_,rfl,p,p'⟩
 refine xZ ?_ (by show 2<=sizeLine;decide)
 have I2:Inv X pins σ H1 { s1 with heap:=s1.heap.push { cls:=.type "tuple",data:=.seq [u1,u2].toArray } }:=I1.kept (t':=s1.toks) fun b o e=>qA _ e
 rw[hw]
 refine zn (zP ?_)
 show wpAny (model X.prog X.w) X.A (do rule "assign.swapped-stores";let items<-unpackItems (.ref s1.heap.objs.size) 2 none;assignInOrder [fun v=>bindName X.env y v,fun v=>bindName X.env x v] items.reverse;pure Flow.next) _ _ _
 refine zn (vK (zn (unpackItems_tuple (items:=#[u1,u2]) (I.ok.hd hc) (QM s1.heap _) fun h' hx'=>?_)))
 have I3:=I2.kept (h':=h') (t':=s1.toks) fun b o e=>hx' b o (qq (zO e)) e
 show wpAny _ _ (assignInOrder [fun v=>bindName X.env y v,fun v=>bindName X.env x v] [u2,u1] >>= fun _=>pure Flow.next) _ _ _
 refine zn (assignInOrder_cons (wpAny_bindName (xU I3 hN hj (.inl hy) rw' (fun s2 I4=>?_) (.inr hy))))
 refine assignInOrder_cons (wpAny_bindName (xU I4 hN hi (.inl hx) rv (fun s3 I5=>assignInOrder_nil (zP ?_)) (.inr hx)))
 rw[List.set_comm _ _ (qz hij)] at I5
 exact⟨_,H1,I5,q1⟩
def zeO(c:TT)(tb:TS):TS:=fun D σ H=>∃W:Nat->St->Hp->Prop,(∃m,W m σ H)/\∀m σ H,W m σ H ->
 c σ H fun b H1=>if b=true then ∃N:St->Hp->Prop,(∀σ' H',N σ' H'->∃m',m'<m/\W m' σ' H')/\tb { D with nx:=N,ct:=N,bk:=D.nx } σ H1 else D.nx σ H1
theorem Vm{c:Expr}{body:List Stmt}{tc:TT}{tb:TS}(hp:PassesOwn (model X.prog X.w) X.A X.env X.xe)(hc:PT X c tc)(hb:PSs X body tb):PS X (.While c body [] pos) (zeO tc tb):=by
 intro pins s σ H D I h
 obtain⟨W,⟨m0,w0⟩,turn⟩:=h
 refine wpAny_While (codeAny_whileLoop (fun n s'=>∃σ' H',Inv X pins σ' H' s'/\W n σ' H') ?_ m0 ⟨σ,H,I,w0⟩)
 rintro n s1 ⟨σ1,H1,I1,w1⟩
 refine QF hp (thn (hc pins s1 σ1 H1 _ I1 (turn n σ1 H1 w1)) fun b s2 ⟨H2,I2,q2⟩=>?_)
 cases b with
 | true=>
  obtain⟨N,hN,q2⟩:=q2
  rw[zx rfl]
  refine QF hp (thn (hb pins s2 σ1 H2 _ I2 q2) fun f s3 q3=>?_)
  cases f with
  | next=>
   obtain⟨σ3,H3,I3,n3⟩:=q3
   obtain⟨m',hm,w3⟩:=hN σ3 H3 n3
   exact⟨m',hm,σ3,H3,I3,w3⟩
  | cont=>
   obtain⟨σ3,H3,I3,n3⟩:=q3
   obtain⟨m',hm,w3⟩:=hN σ3 H3 n3
   exact⟨m',hm,σ3,H3,I3,w3⟩
  | brk=>exact q3
  | ret v=>exact q3
 | false=>
  rw[zq qm]
  exact wpAny_execs_nil ⟨σ1,H2,I2,q2⟩
end
structure It where
 go:Nat->Hp->Prop
 yld:Nat->Hp->V->Hp->Prop
 stop:Nat->Hp->Prop
def x8(X:Cx)(pins:List (Addr×Obj))(H:Hp)(b:Addr):Prop:=
 H b=none/\b≠X.env.locals/\b∉X.fs/\(b∈X.ex\/X.s₀.heap.objs.size<=b)/\(∀x c,X.env.cells.lookup x=some c->c≠b)/\∀p∈X.pn++pins,p.1≠b
theorem Inv.fpOk{X:Cx}{pins:List (Addr×Obj)}{σ:St}{H H':Hp}{s:Shared}{b:Addr}(I:Inv X pins σ H s)(hb:s.heap.objs.size<=b)(hn:H' b=none):x8 X pins H' b:=by
 refine⟨hn,xY (jU I.lt hb),I.nofs hb,.inr (jj I.sz hb),fun x c e z=>?_,fun p hp z=>?_⟩
 ·obtain⟨v,q⟩:=I.cell x c e
  exact absurd (jU q.lt (by rw[z];exact hb)) (vv _)
 ·exact absurd (jU (zO (I.pin p hp).1) (by rw[z];exact hb)) (vv _)
structure QZ(P:Program)(w:World)(K:PySem.W.Frag)(tg:Expr)(J:It)(fp:List Addr)(it:Addr)(tn:Nat->Heap->Prop):Prop where
 mem:it∈fp
 obj:∀i h,tn i h->∀b∈fp,∃o,h.get? b=some o/\∀v,o.data≠.cell v
 keep:∀i h h',tn i h->(∀b∈fp,∀o,h.get? b=some o->h'.get? b=some o)->tn i h'
 item:∀(X:Cx),X.prog=P->X.w=w->X.K=K->X.calm=true->∀(i:Nat) (pins:List (Addr×Obj)) (s:Shared) (σ:St) (H:Hp) (E:Value->Shared->Prop),Inv X pins σ H s->(∀b∈fp,x8 X pins H b)->tn i s.heap->J.go i H ->
  wpAny (model P w) X.A (pyNext (.ref it)) (fun r s1=>∃u,r=some u /\
   wpAny (model P w) X.A (letOwnedTupleGo tg (.ref it) u) (fun _ s2=>∃x H',Inv X pins σ H' s2/\RelV x u/\J.yld i H x H'/\tn (i+1) s2.heap/\∀b∈fp,H' b=none) E s1) E s
 done:∀(X:Cx),X.prog=P->X.w=w->X.K=K->X.calm=true->∀(i:Nat) (pins:List (Addr×Obj)) (s:Shared) (σ:St) (H:Hp) (E:Value->Shared->Prop),Inv X pins σ H s->(∀b∈fp,x8 X pins H b)->tn i s.heap->J.stop i H ->
  wpAny (model P w) X.A (pyNext (.ref it)) (fun r s1=>r=none/\Inv X pins σ H s1) E s
 self:∀(A:Around) (i:Nat) (s:Shared) (Q:Value->Shared->Prop) (E:Value->Shared->Prop),tn i s.heap->Q (.ref it) s->wpAny (model P w) A (pyIter (.ref it)) Q E s
abbrev TI:=St->Hp->(It->Hp->Prop)->Prop
def PIE(X:Cx)(pins:List (Addr×Obj))(σ:St)(tg:Expr)(R:It->Hp->Prop)(itv:Value)(s2:Shared):Prop:=
 ∃(it:Addr) (fp:List Addr) (tn:Nat->Heap->Prop) (J:It) (H':Hp),itv=.ref it/\Inv X pins σ H' s2/\QZ X.prog X.w X.K tg J fp it tn/\tn 0 s2.heap/\(∀b∈fp,x8 X pins H' b)/\R J H'
def PI(X:Cx)(tg iter:Expr)(wi:TI):Prop:=
 ∀(pins:List (Addr×Obj)) (s:Shared) (σ:St) (H:Hp) (R:It->Hp->Prop),Inv X pins σ H s->wi σ H R ->
  wpAny (model X.prog X.w) X.A (eval iter X.env) (fun v s1=>wpAny (model X.prog X.w) X.A (pyIter v) (PIE X pins σ tg R) X.xe s1) X.xe s
theorem Y1{M:Model}{A:Around}{E:Value->Shared->Prop}{s:Shared}{tg:Expr}{it:Addr}{u:Value}{o:Obj}{n:String}{vs:Array Value}{Q:Unit->Shared->Prop}(ho:s.heap.get? it=some o)(hc:o.cls=.type n)(hd:o.data=.fields vs)
  (hn:["enumerate", "zip", "dict_itemiterator", "dict_reverseitemiterator", "odict_iterator", "itertools.zip_longest", "itertools.pairwise"].contains n=false) (hQ:Q () s):wpAny M A (letOwnedTupleGo tg (.ref it) u) Q E s:=by
 unfold letOwnedTupleGo
 cases tg<;>first
  | exact zP hQ
  | (cases u<;>first
    | exact zP hQ
    | (refine zn (wpAny_load ho ?_)
       rw[hc,hd]
       show wpAny M A (if(["enumerate", "zip", "dict_itemiterator", "dict_reverseitemiterator", "odict_iterator", "itertools.zip_longest", "itertools.pairwise"].contains n&&vs[0]? ==some (rawInt _))=true then _ else _) Q E s
       rw[zq (by intro h;rw[hn,Bool.false_and] at h;cases h)]
       exact zP hQ))
def Itl(K:PySem.W.Frag)(a:Addr):It:=
 ⟨fun i H=>∃xs x,SqL K H a xs/\xs[i]? =some x,fun i H x H'=>H'=H/\∀xs,SqL K H a xs->xs[i]? =some x,fun i H=>∃xs,SqL K H a xs/\xs.length<=i⟩
def Itt(K:PySem.W.Frag)(a:Addr):It:=
 ⟨fun i H=>∃xs x,SqT K H a xs/\xs[i]? =some x,fun i H x H'=>H'=H/\∀xs,SqT K H a xs->xs[i]? =some x,fun i H=>∃xs,SqT K H a xs/\xs.length<=i⟩
def Itr(lo:Int)(n:Nat):It:=⟨fun i _=>i<n,fun i H x H'=>H'=H/\x=.int (lo+i),fun i _=>n<=i⟩
theorem Jd{P:Program}{w:World}{K:PySem.W.Frag}{tg:Expr}(a it:Addr):QZ P w K tg (Itl K a) [it] it (fun i h=>h.IsListIter it a i) where
 mem:=by simp
 obj:=fun i h st b hb=>by
  have e:b=it:=by simpa using hb
  subst e
  obtain⟨o,e,c,d⟩:=st
  exact⟨o,e,fun v z=>by rw[d] at z;cases z⟩
 keep:=fun i h h' st k=>st.at fun o e=>k it (by simp) o e
 item:=by
  intro X hP hw hK hc i pins s σ H E I hf st hg
  subst hP hw hK
  obtain⟨xs,x,hq,hx⟩:=hg
  obtain⟨its,rv,p,hz⟩:=I.list hq
  obtain⟨u,hu,ru⟩:=rv.get hx
  obtain⟨f0,f1,f2,f3,f4,f5⟩:=hf it (by simp)
  refine wpAny_pyNext_list_item st p.isList (x:=u) (by simpa using hu) fun h' st' sb=>?_
  have I1:Inv X pins σ H { s with heap:=h' }:=I.turned (t':=s.toks) (fun b o hb e=>(sb.2 b hb).trans e) f0 f1 f3 f4 f5
  obtain⟨o,e,c,d⟩:=id st'
  exact⟨u,rfl,Y1 (s:={ s with heap:=h' }) e c d (by decide) ⟨x,H,I1,ru,⟨rfl,fun ys hy=>by rw[I.list_inj hy hq];exact hx⟩,st',fun b hb=>(hf b hb).1⟩⟩
 done:=by
  intro X hP hw hK hc i pins s σ H E I hf st hg
  subst hP hw hK
  obtain⟨xs,hq,hx⟩:=hg
  obtain⟨its,rv,p,hz⟩:=I.list hq
  obtain⟨f0,f1,f2,f3,f4,f5⟩:=hf it (by simp)
  have hl:=rv.length
  exact wpAny_pyNext_list_end (I.ok.hd hc) st p.isList (by simp;omega) fun h' eb=>⟨rfl,I.turned (t':=s.toks) (fun b o hb e=>eb b o hb e) f0 f1 f3 f4 f5⟩
 self:=fun _ _ _ _ _ st h=>wpAny_pyIter_listiter st h
theorem Z7{P:Program}{w:World}{K:PySem.W.Frag}{tg:Expr}(a it:Addr):QZ P w K tg (Itt K a) [it] it (fun i h=>h.IsTupleIter it a i) where
 mem:=by simp
 obj:=fun i h st b hb=>by
  have e:b=it:=by simpa using hb
  subst e
  obtain⟨o,e,c,d⟩:=st
  exact⟨o,e,fun v z=>by rw[d] at z;cases z⟩
 keep:=fun i h h' st k=>st.at fun o e=>k it (by simp) o e
 item:=by
  intro X hP hw hK hc i pins s σ H E I hf st hg
  subst hP hw hK
  obtain⟨xs,x,hq,hx⟩:=hg
  obtain⟨its,rv,p,hz⟩:=I.tuple hq
  obtain⟨u,hu,ru⟩:=rv.get hx
  obtain⟨f0,f1,f2,f3,f4,f5⟩:=hf it (by simp)
  refine wpAny_pyNext_tuple_item st (show s.heap.IsTuple a its.toArray from p) (x:=u) (by simpa using hu) fun h' st' sb=>?_
  have I1:Inv X pins σ H { s with heap:=h' }:=I.turned (t':=s.toks) (fun b o hb e=>(sb.2 b hb).trans e) f0 f1 f3 f4 f5
  obtain⟨o,e,c,d⟩:=id st'
  exact⟨u,rfl,Y1 (s:={ s with heap:=h' }) e c d (by decide) ⟨x,H,I1,ru,⟨rfl,fun ys hy=>by rw[I.tuple_inj hy hq];exact hx⟩,st',fun b hb=>(hf b hb).1⟩⟩
 done:=by
  intro X hP hw hK hc i pins s σ H E I hf st hg
  subst hP hw hK
  obtain⟨xs,hq,hx⟩:=hg
  obtain⟨its,rv,p,hz⟩:=I.tuple hq
  obtain⟨f0,f1,f2,f3,f4,f5⟩:=hf it (by simp)
  have hl:=rv.length
  exact wpAny_pyNext_tuple_end (I.ok.hd hc) st (show s.heap.IsTuple a its.toArray from p) (by simp;omega) fun h' eb=>⟨rfl,I.turned (t':=s.toks) (fun b o hb e=>eb b o hb e) f0 f1 f3 f4 f5⟩
 self:=fun _ _ _ _ _ st h=>wpAny_pyIter_tupleiter st h
theorem V4{P:Program}{w:World}{K:PySem.W.Frag}{tg:Expr}(it:Addr)(lo:Int)(n:Nat):QZ P w K tg (Itr lo n) [it] it (fun i h=>IsRangeIter h it (lo+(i:Nat)*1) ((n:Int)-(i:Nat)) 1) where
 mem:=by simp
 obj:=fun i h st b hb=>by
  have e:b=it:=by simpa using hb
  subst e
  exact⟨_,st,fun v z=>by
   have z':Data.fields _=Data.cell v:=z
   cases z'⟩
 keep:=fun i h h' st k=>k it (by simp) _ st
 item:=by
  intro X hP hw hK hc i pins s σ H E I hf st hg
  subst hP hw hK
  obtain⟨f0,f1,f2,f3,f4,f5⟩:=hf it (by simp)
  have W:=Walks.range (prog:=X.prog) (w:=X.w) (I.ok.hd hc) it lo 1 n
  refine W.item i s _ _ hg st fun v h' tk hv st' kk=>?_
  obtain⟨t,rfl⟩:=hv
  have I1:Inv X pins σ H { s with heap:=h',toks:=tk }:=I.turned (fun b o hb e=>kk b o (by simpa using hb) e) f0 f1 f3 f4 f5
  refine⟨_,rfl,Y1 (s:={ s with heap:=h',toks:=tk }) (n:= "range_iterator") st' rfl rfl (by decide) ⟨.int (lo+i),H,I1,⟨t,?_⟩,⟨rfl,rfl⟩,st',fun b hb=>(hf b hb).1⟩⟩
  rw[Int.mul_one]
 done:=by
  intro X hP hw hK hc i pins s σ H E I hf st hg
  subst hP hw hK
  obtain⟨f0,f1,f2,f3,f4,f5⟩:=hf it (by simp)
  exact wpAny_pyNext_range_end (I.ok.hd hc) st (by have:n<=i:=hg;omega) fun h' eb=>⟨rfl,I.turned (t':=s.toks) (fun b o hb e=>eb b o hb e) f0 f1 f3 f4 f5⟩
 self:=fun _ _ _ _ _ st h=>wpAny_pyIter_rangeiter st h
section
variable{X:Cx}{tg:Expr}
inductive InL(K:PySem.W.Frag)(x:V)(H:Hp)(R:It->Hp->Prop):Prop
 | mk (a:Addr) (h:x=.ref a) (e:∃xs,SqL K H a xs) (r:R (Itl K a) H):InL K x H R
inductive InT(K:PySem.W.Frag)(x:V)(H:Hp)(R:It->Hp->Prop):Prop
 | mk (a:Addr) (h:x=.ref a) (e:∃xs,SqT K H a xs) (r:R (Itt K a) H):InT K x H R
def zgL(K:PySem.W.Frag)(tl:TE):TI:=fun σ H R=>tl σ H fun x H1=>InL K x H1 R
def zhn(K:PySem.W.Frag)(tl:TE):TI:=fun σ H R=>tl σ H fun x H1=>InT K x H1 R
theorem qN{l:Expr}{tl:TE}(hl:PE X l tl):PI X tg l (zgL X.K tl):=by
 intro pins s σ H R I h
 refine thn (hl pins s σ H _ I h) fun v s1 ⟨x,H1,I1,r1,q1⟩=>?_
 obtain⟨a,e,⟨xs,hq⟩,q⟩:=q1
 subst e
 cases r1
 obtain⟨its,rv,p,hz⟩:=I1.list hq
 refine wpAny_pyIter_list p.isList ?_
 refine⟨s1.heap.objs.size,[s1.heap.objs.size],_,_,H1,rfl,I1.kept (t':=s1.toks) fun b o e=>qA _ e,Jd a _,⟨_,qC _ rfl,rfl,rfl⟩,fun b hb=>?_,q⟩
 have e:b=s1.heap.objs.size:=by simpa using hb
 subst e
 exact I1.fpOk (zG _) (I1.hok.fresh (zG _))
theorem vZ{l:Expr}{tl:TE}(hl:PE X l tl):PI X tg l (zhn X.K tl):=by
 intro pins s σ H R I h
 refine thn (hl pins s σ H _ I h) fun v s1 ⟨x,H1,I1,r1,q1⟩=>?_
 obtain⟨a,e,⟨xs,hq⟩,q⟩:=q1
 subst e
 cases r1
 obtain⟨its,rv,p,hz⟩:=I1.tuple hq
 refine wpAny_pyIter_tuple (show s1.heap.IsTuple a its.toArray from p) ?_
 refine⟨s1.heap.objs.size,[s1.heap.objs.size],_,_,H1,rfl,I1.kept (t':=s1.toks) fun b o e=>qA _ e,Z7 a _,⟨_,qC _ rfl,rfl,rfl⟩,fun b hb=>?_,q⟩
 have e:b=s1.heap.objs.size:=by simpa using hb
 subst e
 exact I1.fpOk (zG _) (I1.hok.fresh (zG _))
theorem zbO{pins:List (Addr×Obj)}{σ:St}{H:Hp}{s:Shared}{R:It->Hp->Prop}{E:Value->Shared->Prop}{lo hi:Int}{t u v:Tok}{tk:Nat}(I:Inv X pins σ H s)(h1:-(2^62)<=lo)(h2:lo<2^62)(h3:-(2^62)<=hi)(h4:hi<2^62)
  (q:R (Itr lo (hi-lo).toNat) H):wpAny (model X.prog X.w) X.A (pyIter (.ref s.heap.objs.size)) (PIE X pins σ tg R) E { s with heap:=s.heap.push { cls:=.type "range",data:=.fields #[.int lo t,.int hi u,.int 1 v] },toks:=tk }:=by
 refine wpAny_pyIter_range (IsRange.new ..) (small_one h1 h2 h3 h4) ?_
 have I1:Inv X pins σ H { s with heap:=s.heap.push { cls:=.type "range",data:=.fields #[.int lo t,.int hi u,.int 1 v] },toks:=tk }:=I.kept fun b o e=>qA _ e
 refine⟨(s.heap.push { cls:=.type "range",data:=.fields #[.int lo t,.int hi u,.int 1 v] }).objs.size,[(s.heap.push { cls:=.type "range",data:=.fields #[.int lo t,.int hi u,.int 1 v] }).objs.size],_,_,H,rfl,
  I1.kept (t':=tk) fun b o e=>qA _ e,V4 _ lo (hi-lo).toNat,?_,fun b hb=>?_,q⟩
 ·have e1:lo+((0:Nat):Int)*1=lo:=by simp
  have e2:(((hi-lo).toNat:Nat):Int)-((0:Nat):Int)=Builtin.Range.rangeSize lo hi 1:=by rw[rangeSize_one];split<;>omega
  show IsRangeIter _ _ (lo+((0:Nat):Int)*1) ((((hi-lo).toNat:Nat):Int)-((0:Nat):Int)) 1
  rw[e1,e2]
  exact qC _ rfl
 ·have e:b=(s.heap.push { cls:=.type "range",data:=.fields #[.int lo t,.int hi u,.int 1 v] }).objs.size:=by simpa using hb
  subst e
  exact I1.fpOk (zG _) (I1.hok.fresh (zG _))
inductive zg2(vs:List V)(H:Hp)(R:It->Hp->Prop):Prop
 | mk (j:Int) (h:vs=[.int j]) (h1:-(2^62)<=j) (h2:j<2^62) (r:R (Itr 0 j.toNat) H):zg2 vs H R
def zgK(ta:TA):TI:=fun σ H R=>ta σ H fun vs H1=>zg2 vs H1 R
theorem qx{a:Expr}{ta:TA}{p pos:Pos}(hg:Gl X "range")(hm:X.mg "range" = none)(ha:PA X [a] ta)(hs:starEach [a] X.env=[(false,eval a X.env)]:=by rfl):PI X tg (.Call (.Name "range" p) [a] [] pos) (zgK ta):=by
 intro pins s σ H R I h
 refine Call_ (vF I hg hm boot_range (QL (thn (ha pos pins s σ H _ I h) fun us s1 ⟨vs,H1,I1,r1,q1⟩=>?_) hs rfl))
 obtain⟨j,e,q1,q2,q⟩:=q1
 subst e
 cases r1 with
 | cons r rr=>
  cases rr
  obtain⟨t,rfl⟩:=r
  exact call_range_1 (zbO I1 (by omega) (by omega) q1 q2 (by simpa using q))
def zhf(wi:TI)(g:TG)(tb:TS):TS:=fun D σ H=>wi σ H fun J H1=>∃W:Nat->Nat->St->Hp->Prop,(∃m,W 0 m σ H1)/\∀i m σ H,W i m σ H ->
 (J.stop i H/\D.nx σ H)\/(J.go i H/\∃N:St->Hp->Prop,(∀σ' H',N σ' H'->∃m',m'<m/\W (i+1) m' σ' H')/\∀x H',J.yld i H x H'->g x σ H' fun σ2 H2=>tb { D with nx:=N,ct:=N,bk:=D.nx } σ2 H2)
def jf(fp:List Addr)(h:Heap):List (Addr×Obj):=fp.filterMap fun b=>(h.get? b).map fun o=>(b,o)
theorem jO{fp:List Addr}{h:Heap}{b:Addr}{o:Obj}(hb:b∈fp)(e:h.get? b=some o):(b,o)∈jf fp h:=List.mem_filterMap.mpr ⟨b,hb,by rw[e];rfl⟩
theorem Zr{fp:List Addr}{h:Heap}{p:Addr×Obj}(hp:p∈jf fp h):p.1∈fp/\h.get? p.1=some p.2:=by
 obtain⟨b,hb,e⟩:=List.mem_filterMap.mp hp
 cases q:h.get? b with
 | none=>rw[q] at e;cases e
 | some o=>
  rw[q] at e
  have e':(b,o)=p:=jK e
  subst e'
  exact⟨hb,q⟩
theorem Inv.pinned{pins:List (Addr×Obj)}{σ:St}{H:Hp}{s:Shared}{fp:List Addr}(I:Inv X pins σ H s)(hf:∀b∈fp,x8 X pins H b)(ho:∀b∈fp,∃o,s.heap.get? b=some o/\∀v,o.data≠.cell v):Inv X (pins++jf fp s.heap) σ H s:=
 I.pins_of fun p hp=>(zY.mp hp).elim (fun z=>I.pin p (qH _ z)) fun z=>by
  obtain⟨hb,e⟩:=Zr z
  obtain⟨f0,f1,f2,_⟩:=hf p.1 hb
  obtain⟨o,e',d⟩:=ho p.1 hb
  rw[e] at e';cases e'
  exact⟨e,f0,f1,f2,d⟩
theorem Inv.unpinned{pins pl:List (Addr×Obj)}{σ:St}{H:Hp}{s:Shared}(I:Inv X (pins++pl) σ H s):Inv X pins σ H s:=I.pins_of fun p hp=>I.pin p (qH _ (ji _ hp))
theorem qO{iter:Expr}{body:List Stmt}{wi:TI}{g:TG}{tb:TS}{pos:Pos}(hp:PassesOwn (model X.prog X.w) X.A X.env X.xe)(hc:X.calm=true)(hi:PI X tg iter wi)(hg:PG X tg g)(hb:PSs X body tb)
  (hs:∀x,foldedSetIterable iter X.env x=pure x:=by intro _;rfl):PS X (.For tg iter body [] pos) (zhf wi g tb):=by
 intro pins s σ H D I h
 refine wpAny_For (thn (hi pins s σ H _ I h) fun v s1 h1=>thn h1 fun itv s2 h2=>?_) hs
 obtain⟨it,fp,tn,J,H2,e,I2,T,st2,f2,W,⟨m0,w0⟩,turn⟩:=h2
 subst e
 have stat:∀{H':Hp},(∀b∈fp,H' b=none)->∀b∈fp,x8 X pins H' b:=fun hn b hb=>⟨hn b hb,(f2 b hb).2⟩
 refine codeAny_forLoop_any (fun n s'=>∃i σ' H',Inv X pins σ' H' s'/\tn i s'.heap/\(∀b∈fp,H' b=none)/\W i n σ' H') ?_ m0 ⟨0,σ,H2,I2,st2,fun b hb=>(f2 b hb).1,w0⟩
 rintro n s3 ⟨i,σ3,H3,I3,st3,fr3,w3⟩
 rcases turn i n σ3 H3 w3 with ⟨stop,qn⟩ | ⟨go,N,hN,step⟩
 ·refine QF hp (thn (T.done X rfl rfl rfl hc i pins s3 σ3 H3 X.xe I3 (stat fr3) st3 stop) fun r s4 ⟨hr,I4⟩=>?_)
  subst hr
  exact wpAny_execs_nil ⟨σ3,H3,I4,qn⟩
 ·refine QF hp (thn (T.item X rfl rfl rfl hc i pins s3 σ3 H3 X.xe I3 (stat fr3) st3 go) fun r s4 ⟨u,hr,h4⟩=>?_)
  subst hr
  refine QF hp (thn h4 fun _ s5 ⟨x,H5,I5,r5,y5,st5,fr5⟩=>?_)
  have I5':=I5.pinned (stat fr5) (T.obj _ _ st5)
  refine QF hp (thn (hg _ s5 σ3 H5 x u _ I5' r5 (step x H5 y5)) fun _ s6 ⟨σ6,H6,I6,q6⟩=>?_)
  refine QF hp (thn (hb _ s6 σ6 H6 _ I6 q6) fun f s7 q7=>?_)
  have again:∀{σ7:St} {H7:Hp},Inv X (pins++jf fp s5.heap) σ7 H7 s7->N σ7 H7->∃m,m<n/\∃i σ' H',Inv X pins σ' H' s7/\tn i s7.heap/\(∀b∈fp,H' b=none)/\W i m σ' H':=fun {σ7 H7} I7 n7=>by
   obtain⟨m',hm,w7⟩:=hN σ7 H7 n7
   refine⟨m',hm,i+1,σ7,H7,I7.unpinned,T.keep _ _ _ st5 fun b hb o e=>(I7.pin (b,o) (qH _ (qH _ (jO hb e)))).1,fun b hb=>?_,w7⟩
   obtain⟨o,e,d⟩:=T.obj _ _ st5 b hb
   exact(I7.pin (b,o) (qH _ (qH _ (jO hb e)))).2.1
  cases f with
  | next=>obtain⟨σ7,H7,I7,n7⟩:=q7;exact again I7 n7
  | cont=>obtain⟨σ7,H7,I7,n7⟩:=q7;exact again I7 n7
  | brk=>obtain⟨σ7,H7,I7,q7⟩:=q7;exact⟨σ7,H7,I7.unpinned,q7⟩
  | ret v=>obtain⟨x7,σ7,H7,I7,r7,q7⟩:=q7;exact⟨x7,σ7,H7,I7.unpinned,r7,q7⟩
end
theorem jP{K:PySem.W.Frag}{a:Addr}{xs:List V}{g:TG}{tb:TS}{D:XT}{σ:St}{H:Hp}(Pv:Nat->St->Hp->Prop)(h0:Pv 0 σ H)(hl:∀i σ H,i<=xs.length->Pv i σ H->SqL K H a xs)
  (hs:∀i x σ H,xs[i]? =some x->Pv i σ H->g x σ H fun σ2 H2=>tb { D with nx:=Pv (i+1),ct:=Pv (i+1),bk:=D.nx } σ2 H2) (hd:∀σ H,Pv xs.length σ H->D.nx σ H) :
  ∃W:Nat->Nat->St->Hp->Prop,(∃m,W 0 m σ H)/\∀i m σ H,W i m σ H ->
   ((Itl K a).stop i H/\D.nx σ H)\/((Itl K a).go i H/\∃N:St->Hp->Prop,(∀σ' H',N σ' H'->∃m',m'<m/\W (i+1) m' σ' H')/\∀x H',(Itl K a).yld i H x H'->g x σ H' fun σ2 H2=>tb { D with nx:=N,ct:=N,bk:=D.nx } σ2 H2):=by
 refine⟨fun i m σ H=>m=xs.length-i/\i<=xs.length/\Pv i σ H,⟨xs.length,by simp,qu _,h0⟩,?_⟩
 rintro i m σ H ⟨rfl,hi,p⟩
 have q:=hl i σ H hi p
 by_cases hlt:i<xs.length
 ·refine .inr ⟨⟨xs,xs[i],q,by simp[hlt]⟩,Pv (i+1),fun σ' H' p'=>⟨xs.length-(i+1),by omega,rfl,hlt,p'⟩,fun x H' y=>?_⟩
  obtain⟨e,y⟩:=y
  subst e
  exact hs i x σ _ (y xs q) p
 ·have e:i=xs.length:=by omega
  subst e
  exact .inl ⟨⟨xs,q,zG _⟩,hd σ H p⟩
theorem Y4{K:PySem.W.Frag}{a:Addr}{xs:List V}{g:TG}{tb:TS}{D:XT}{σ:St}{H:Hp}(Pv:Nat->St->Hp->Prop)(h0:Pv 0 σ H)(hl:∀i σ H,i<=xs.length->Pv i σ H->SqT K H a xs)
  (hs:∀i x σ H,xs[i]? =some x->Pv i σ H->g x σ H fun σ2 H2=>tb { D with nx:=Pv (i+1),ct:=Pv (i+1),bk:=D.nx } σ2 H2) (hd:∀σ H,Pv xs.length σ H->D.nx σ H) :
  ∃W:Nat->Nat->St->Hp->Prop,(∃m,W 0 m σ H)/\∀i m σ H,W i m σ H ->
   ((Itt K a).stop i H/\D.nx σ H)\/((Itt K a).go i H/\∃N:St->Hp->Prop,(∀σ' H',N σ' H'->∃m',m'<m/\W (i+1) m' σ' H')/\∀x H',(Itt K a).yld i H x H'->g x σ H' fun σ2 H2=>tb { D with nx:=N,ct:=N,bk:=D.nx } σ2 H2):=by
 refine⟨fun i m σ H=>m=xs.length-i/\i<=xs.length/\Pv i σ H,⟨xs.length,by simp,qu _,h0⟩,?_⟩
 rintro i m σ H ⟨rfl,hi,p⟩
 have q:=hl i σ H hi p
 by_cases hlt:i<xs.length
 ·refine .inr ⟨⟨xs,xs[i],q,by simp[hlt]⟩,Pv (i+1),fun σ' H' p'=>⟨xs.length-(i+1),by omega,rfl,hlt,p'⟩,fun x H' y=>?_⟩
  obtain⟨e,y⟩:=y
  subst e
  exact hs i x σ _ (y xs q) p
 ·have e:i=xs.length:=by omega
  subst e
  exact .inl ⟨⟨xs,q,zG _⟩,hd σ H p⟩
theorem jd{lo:Int}{n:Nat}{g:TG}{tb:TS}{D:XT}{σ:St}{H:Hp}(Pv:Nat->St->Hp->Prop)(h0:Pv 0 σ H)
  (hs:∀i σ H,i<n->Pv i σ H->g (.int (lo+i)) σ H fun σ2 H2=>tb { D with nx:=Pv (i+1),ct:=Pv (i+1),bk:=D.nx } σ2 H2) (hd:∀σ H,Pv n σ H->D.nx σ H) :
  ∃W:Nat->Nat->St->Hp->Prop,(∃m,W 0 m σ H)/\∀i m σ H,W i m σ H ->
   ((Itr lo n).stop i H/\D.nx σ H)\/((Itr lo n).go i H/\∃N:St->Hp->Prop,(∀σ' H',N σ' H'->∃m',m'<m/\W (i+1) m' σ' H')/\∀x H',(Itr lo n).yld i H x H'->g x σ H' fun σ2 H2=>tb { D with nx:=N,ct:=N,bk:=D.nx } σ2 H2):=by
 refine⟨fun i m σ H=>m=n-i/\i<=n/\Pv i σ H,⟨n,by simp,qu _,h0⟩,?_⟩
 rintro i m σ H ⟨rfl,hi,p⟩
 by_cases hlt:i<n
 ·refine .inr ⟨hlt,Pv (i+1),fun σ' H' p'=>⟨n-(i+1),by omega,rfl,hlt,p'⟩,fun x H' y=>?_⟩
  obtain⟨e,y⟩:=y
  subst e y
  exact hs i σ _ hlt p
 ·have e:i=n:=by omega
  subst e
  exact .inl ⟨zG _,hd σ H p⟩
abbrev R2:=V->V->Hp->VK->Prop
def OpR(X:Cx)(f:Value->Value->Sem Value)(r:R2):Prop:=
 ∀(pins:List (Addr×Obj)) (s:Shared) (σ:St) (H:Hp) (x y:V) (v u:Value) (Q:VK),Inv X pins σ H s->RelV x v->RelV y u->r x y H Q ->
  wpAny (model X.prog X.w) X.A (f v u) (EP X pins σ Q) X.xe s
def UnR(X:Cx)(f:Value->Sem Value)(r:V->Hp->VK->Prop):Prop:=
 ∀(pins:List (Addr×Obj)) (s:Shared) (σ:St) (H:Hp) (x:V) (v:Value) (Q:VK),Inv X pins σ H s->RelV x v->r x H Q ->
  wpAny (model X.prog X.w) X.A (f v) (EP X pins σ Q) X.xe s
def CallR(X:Cx)(f:Value)(r:List V->Hp->VK->Prop):Prop:=
 ∀(pins:List (Addr×Obj)) (s:Shared) (σ:St) (H:Hp) (xs:List V) (us:List Value) (Q:VK),Inv X pins σ H s->Vals xs us->r xs H Q ->
  wpAny (model X.prog X.w) X.A (call f us) (EP X pins σ Q) X.xe s
def tOp(r:R2)(ta tb:TE):TE:=fun σ H Q=>ta σ H fun x H1=>tb σ H1 fun y H2=>r x y H2 Q
def tUn(r:V->Hp->VK->Prop)(ta:TE):TE:=fun σ H Q=>ta σ H fun x H1=>r x H1 Q
inductive rI(C:Int->Int->Prop)(g:Int->Int->V)(x:V)(y:V)(H:Hp)(Q:VK):Prop
 | mk (i j:_) (_:x=.int i) (_:y=.int j) (_:C i j) (_:Q (g i j) H):rI C g x y H Q
inductive rI0(g:Int->Int->V)(x:V)(y:V)(H:Hp)(Q:VK):Prop
 | mk (i j:_) (_:x=.int i) (_:y=.int j) (_:Q (g i j) H):rI0 g x y H Q
inductive rU(g:Int->V)(x:V)(H:Hp)(Q:VK):Prop
 | mk (i:_) (_:x=.int i) (_:Q (g i) H):rU g x H Q
section
variable{X:Cx}{a b c:Expr}{ta tb tc:TE}{pos:Pos}
theorem zfO(ha:PE X a ta)(hb:PE X b tb){pins:List (Addr×Obj)}{s:Shared}{σ:St}{H:Hp}{R:V->V->Hp->Prop}(I:Inv X pins σ H s)
  (h:ta σ H fun x H1=>tb σ H1 fun y H2=>R x y H2) {Q:Value->Shared->Prop} {f:Value->Value->Sem Value}
  (hf:∀v u s2 x y H2,Inv X pins σ H2 s2->RelV x v->RelV y u->R x y H2->wpAny (model X.prog X.w) X.A (f v u) Q X.xe s2) :
  wpAny (model X.prog X.w) X.A (eval a X.env) (fun v s₁=>wpAny (model X.prog X.w) X.A (eval b X.env) (fun u s₂=>wpAny (model X.prog X.w) X.A (f v u) Q X.xe s₂) X.xe s₁) X.xe s:=by
 refine thn (ha pins s σ H _ I h) fun v s1 ⟨x,H1,I1,r1,q1⟩=>?_
 refine thn (hb pins s1 σ H1 _ I1 q1) fun u s2 ⟨y,H2,I2,r2,q2⟩=>?_
 exact hf v u s2 x y H2 I2 r1 r2 q2
theorem zB{op:Operator}{r:R2}(ho:OpR X (binaryOp op) r)(ha:PE X a ta)(hb:PE X b tb):PE X (.BinOp a op b pos) (tOp r ta tb):=by
 intro pins s σ H Q I h
 exact wpAny_BinOp (zfO ha hb I h fun v u s2 x y H2 I2 rx ry q=>ho pins s2 σ H2 x y v u Q I2 rx ry q)
theorem zgq{op:UnaryOp}{r:V->Hp->VK->Prop}(ho:UnR X (unaryOp op) r)(ha:PE X a ta):PE X (.UnaryOp op a pos) (tUn r ta):=by
 intro pins s σ H Q I h
 exact UnaryOp_ (thn (ha pins s σ H _ I h) fun v s1 ⟨x,H1,I1,r1,q1⟩=>ho pins s1 σ H1 x v Q I1 r1 q1)
theorem opI{f:Value->Value->Sem Value}{C:Int->Int->Prop}{g:Int->Int->Int}
  (rule:∀(i j:Int) (t u:Tok) (s:Shared) (Q:Value->Shared->Prop) (E:Value->Shared->Prop),C i j->Q (.int (g i j) s.toks) { s with toks:=s.toks+1 }->wpAny (model X.prog X.w) X.A (f (.int i t) (.int j u)) Q E s) :
  OpR X f (rI C fun i j=>.int (g i j)):=by
 intro pins s σ H x y v u Q I rx ry h
 obtain⟨i,j,rfl,rfl,hc,q⟩:=h
 obtain⟨t,rfl⟩:=rx
 obtain⟨t',rfl⟩:=ry
 exact rule i j t t' s _ _ hc ⟨.int (g i j),H,I.tok _,⟨_,rfl⟩,q⟩
theorem zgu{f:Value->Value->Sem Value}{g:Int->Int->Int}
  (rule:∀(i j:Int) (t u:Tok) (s:Shared) (Q:Value->Shared->Prop) (E:Value->Shared->Prop),Q (.int (g i j) s.toks) { s with toks:=s.toks+1 }->wpAny (model X.prog X.w) X.A (f (.int i t) (.int j u)) Q E s) :
  OpR X f (rI0 fun i j=>.int (g i j)):=by
 intro pins s σ H x y v u Q I rx ry h
 obtain⟨i,j,rfl,rfl,q⟩:=h
 obtain⟨t,rfl⟩:=rx
 obtain⟨t',rfl⟩:=ry
 exact rule i j t t' s _ _ ⟨.int (g i j),H,I.tok _,⟨_,rfl⟩,q⟩
theorem zdo{f:Value->Value->Sem Value}{g:Int->Int->Bool}
  (rule:∀(i j:Int) (t u:Tok) (s:Shared) (Q:Value->Shared->Prop) (E:Value->Shared->Prop),Q (.bool (g i j)) s->wpAny (model X.prog X.w) X.A (f (.int i t) (.int j u)) Q E s) :
  OpR X f (rI0 fun i j=>.bl (g i j)):=by
 intro pins s σ H x y v u Q I rx ry h
 obtain⟨i,j,rfl,rfl,q⟩:=h
 obtain⟨t,rfl⟩:=rx
 obtain⟨t',rfl⟩:=ry
 exact rule i j t t' s _ _ ⟨.bl (g i j),H,I,rfl,q⟩
def zg4(i j:Int):Prop:=0<j/\j<1073741824
def zht(i j:Int):Prop:=0<=j/\j<=1000000/\i.natAbs<2^64
def CMul(i j:Int):Prop:=(-(2^64)<i/\i<2^64)\/(-(2^64)<j/\j<2^64)
theorem CMul.ok{i j:Int}(h:CMul i j):IntMulOk i j:=by
 rcases h with ⟨h1,h2⟩ | ⟨h1,h2⟩
 ·exact .of_left (intBits_le_64 h1 h2)
 ·exact .of_right (intBits_le_64 h1 h2)
theorem qE:OpR X (binaryOp .Add) (rI0 fun i j=>.int (i+j)):=zgu fun _ _ _ _ _ _ _ q=>add_int q
theorem xN:OpR X (binaryOp .Sub) (rI0 fun i j=>.int (i-j)):=zgu fun _ _ _ _ _ _ _ q=>sub_int q
theorem xX:OpR X (binaryOp .Mult) (rI CMul fun i j=>.int (i*j)):=opI fun _ _ _ _ _ _ _ hc q=>mul_int q hc.ok
theorem YO:OpR X (binaryOp .FloorDiv) (rI zg4 fun i j=>.int (i/j)):=opI fun i j _ _ _ _ _ hc q=>by
 have h1:(0:Int)<j:=hc.1
 have h2:j<1073741824:=hc.2
 exact floordiv_int (by omega) (by rw[zcO i (by omega)];exact q) (.inl (PyProof.noPylong_small (by omega)))
theorem xv:OpR X (binaryOp .Mod) (rI (fun _ j=>0<j) fun i j=>.int (i % j)):=opI fun i j _ _ _ _ _ hc q=>by
 have h1:(0:Int)<j:=hc
 exact mod_int' (by omega) (by rw[zcN i (by omega)];exact q)
theorem zfh:OpR X (binaryOp .Pow) (rI zht fun i j=>.int (i^j.toNat)):=opI fun _ _ _ _ _ _ _ hc q=>pow_int_small hc.1 hc.2.1 hc.2.2 q
theorem unI{f:Value->Sem Value}{g:Int->Int}
  (rule:∀(i:Int) (t:Tok) (s:Shared) (Q:Value->Shared->Prop) (E:Value->Shared->Prop),Q (.int (g i) s.toks) { s with toks:=s.toks+1 }->wpAny (model X.prog X.w) X.A (f (.int i t)) Q E s) :
  UnR X f (rU fun i=>.int (g i)):=by
 intro pins s σ H x v Q I rx h
 obtain⟨i,rfl,q⟩:=h
 obtain⟨t,rfl⟩:=rx
 exact rule i t s _ _ ⟨.int (g i),H,I.tok _,⟨_,rfl⟩,q⟩
theorem zeN:UnR X (unaryOp .USub) (rU fun i=>.int (-i)):=unI fun _ _ _ _ _ q=>neg_int q
end
def zga:V->V->Bool
 | .non,.non=>true | .non,.int _=>true | .int _,.non=>true | .non,.bl _=>true | .bl _,.non=>true | .non,.str _=>true | .str _,.non=>true
 | .int _,.int _=>true | .bl _,.bl _=>true | .str _,.str _=>true | .byt _,.byt _=>true
 | .int _,.str _=>true | .str _,.int _=>true | .bl _,.str _=>true | .str _,.bl _=>true
 | _,_=>false
def rEq:R2:=fun x y H Q=>zga x y=true/\Q (.bl (decide (x=y))) H
def rNe:R2:=fun x y H Q=>zga x y=true/\Q (.bl (!decide (x=y))) H
theorem zaa{i j:Int}:decide (V.int i=V.int j)=(i==j):=by
 rw[xP]
 simp
theorem zcz{i j:Bool}:decide (V.bl i=V.bl j)=(i==j):=by
 rw[xP]
 simp
theorem Y9{i j:Str}:decide (V.str i=V.str j)=(i==j):=by
 rw[xP]
 simp
theorem zab{i j:Array UInt8}:decide (V.byt i=V.byt j)=(i.toList==j.toList):=by
 rw[xP]
 cases i
 cases j
 simp
section
variable{X:Cx}{a b c:Expr}{ta tb tc:TE}{pos:Pos}
theorem qr{pins:List (Addr×Obj)}{σ:St}{H:Hp}{s:Shared}{Q:VK}{k k':Bool}(I:Inv X pins σ H s)(q:Q (.bl k) H)(e:k=k'):EP X pins σ Q (.bool k') s:=by
 subst e
 exact⟨.bl k,H,I,rfl,q⟩
theorem ja:OpR X (compareOp .Eq) rEq:=by
 intro pins s σ H x y v u Q I rx ry h
 obtain⟨hs,q⟩:=h
 cases x with
 | non=>
  cases rx
  cases y with
  | non=>cases ry;exact PySem.EqNone.eq_none_none (qr I q (by simp))
  | bl j=>cases ry;exact PySem.EqNone.eq_none_bool (qr I q (by simp))
  | int j=>obtain⟨t',rfl⟩:=ry;exact PySem.EqNone.eq_none_int (qr I q (by simp))
  | str j=>obtain⟨t',rfl⟩:=ry;exact PySem.EqNone.eq_none_str (qr I q (by simp))
  | _=>exact absurd (show false=true from hs) qm
 | bl i=>
  cases rx
  cases y with
  | non=>cases ry;exact PySem.EqNone.eq_bool_none (qr I q (by simp))
  | bl j=>cases ry;exact eq_bool (qr I q zcz)
  | str j=>obtain⟨t',rfl⟩:=ry;exact PySem.EqMixed.eq_bool_str (qr I q (by simp))
  | _=>exact absurd (show false=true from hs) qm
 | int i=>
  obtain⟨t,rfl⟩:=rx
  cases y with
  | non=>cases ry;exact PySem.EqNone.eq_int_none (qr I q (by simp))
  | int j=>obtain⟨t',rfl⟩:=ry;exact eq_int (qr I q zaa)
  | str j=>obtain⟨t',rfl⟩:=ry;exact PySem.EqMixed.eq_int_str (qr I q (by simp))
  | _=>exact absurd (show false=true from hs) qm
 | str i=>
  obtain⟨t,rfl⟩:=rx
  cases y with
  | non=>cases ry;exact PySem.EqNone.eq_str_none (qr I q (by simp))
  | bl j=>cases ry;exact PySem.EqMixed.eq_str_bool (qr I q (by simp))
  | int j=>obtain⟨t',rfl⟩:=ry;exact PySem.EqMixed.eq_str_int (qr I q (by simp))
  | str j=>obtain⟨t',rfl⟩:=ry;exact eq_str (qr I q Y9)
  | _=>exact absurd (show false=true from hs) qm
 | byt i=>
  obtain⟨t,rfl⟩:=rx
  cases y with
  | byt j=>obtain⟨t',rfl⟩:=ry;exact PySem.W.eq_bytes (qr I q zab)
  | _=>exact absurd (show false=true from hs) qm
 | _=>cases y<;>exact absurd (show false=true from hs) qm
theorem zbZ:OpR X (compareOp .NotEq) rNe:=by
 intro pins s σ H x y v u Q I rx ry h
 obtain⟨hs,q⟩:=h
 cases x with
 | non=>
  cases rx
  cases y with
  | non=>cases ry;exact PySem.EqNone.ne_none_none (qr I q (by simp))
  | bl j=>cases ry;exact PySem.EqNone.ne_none_bool (qr I q (by simp))
  | int j=>obtain⟨t',rfl⟩:=ry;exact PySem.EqNone.ne_none_int (qr I q (by simp))
  | str j=>obtain⟨t',rfl⟩:=ry;exact PySem.EqNone.ne_none_str (qr I q (by simp))
  | _=>exact absurd (show false=true from hs) qm
 | bl i=>
  cases rx
  cases y with
  | non=>cases ry;exact PySem.EqNone.ne_bool_none (qr I q (by simp))
  | bl j=>cases ry;exact ne_bool (qr I q (congrArg not zcz))
  | str j=>obtain⟨t',rfl⟩:=ry;exact PySem.EqMixed.ne_bool_str (qr I q (by simp))
  | _=>exact absurd (show false=true from hs) qm
 | int i=>
  obtain⟨t,rfl⟩:=rx
  cases y with
  | non=>cases ry;exact PySem.EqNone.ne_int_none (qr I q (by simp))
  | int j=>obtain⟨t',rfl⟩:=ry;exact ne_int (qr I q (congrArg not zaa))
  | str j=>obtain⟨t',rfl⟩:=ry;exact PySem.EqMixed.ne_int_str (qr I q (by simp))
  | _=>exact absurd (show false=true from hs) qm
 | str i=>
  obtain⟨t,rfl⟩:=rx
  cases y with
  | non=>cases ry;exact PySem.EqNone.ne_str_none (qr I q (by simp))
  | bl j=>cases ry;exact PySem.EqMixed.ne_str_bool (qr I q (by simp))
  | int j=>obtain⟨t',rfl⟩:=ry;exact PySem.EqMixed.ne_str_int (qr I q (by simp))
  | str j=>obtain⟨t',rfl⟩:=ry;exact ne_str (qr I q (congrArg not Y9))
  | _=>exact absurd (show false=true from hs) qm
 | byt i=>
  obtain⟨t,rfl⟩:=rx
  cases y with
  | byt j=>obtain⟨t',rfl⟩:=ry;exact PySem.W.ne_bytes (qr I q (congrArg not zab))
  | _=>exact absurd (show false=true from hs) qm
 | _=>cases y<;>exact absurd (show false=true from hs) qm
theorem zeD:OpR X (compareOp .Lt) (rI0 fun i j=>.bl (decide (i<j))):=zdo fun _ _ _ _ _ _ _ q=>lt_int q
theorem zb0:OpR X (compareOp .LtE) (rI0 fun i j=>.bl (decide (i<=j))):=zdo fun _ _ _ _ _ _ _ q=>le_int q
theorem Jr:OpR X (compareOp .Gt) (rI0 fun i j=>.bl (decide (j<i))):=zdo fun _ _ _ _ _ _ _ q=>gt_int q
theorem zgt:OpR X (compareOp .GtE) (rI0 fun i j=>.bl (decide (j<=i))):=zdo fun _ _ _ _ _ _ _ q=>ge_int q
theorem zfi:OpR X (compareOp .Is) (fun x y H Q=>y=.non/\Q (.bl (decide (x=.non))) H):=by
 intro pins s σ H x y v u Q I rx ry h
 obtain⟨rfl,q⟩:=h
 cases ry
 refine is_none_gen (qr I q ?_)
 cases x<;>first
  | (cases rx;rfl)
  | (obtain⟨t,rfl⟩:=rx;rfl)
theorem OpR.or{f:Value->Value->Sem Value}{r r':R2}(h:OpR X f r)(h':OpR X f r'):OpR X f (fun x y H Q=>r x y H Q\/r' x y H Q):=by
 intro pins s σ H x y v u Q I rx ry q
 rcases q with q | q
 ·exact h pins s σ H x y v u Q I rx ry q
 ·exact h' pins s σ H x y v u Q I rx ry q
theorem zE(b:Expr){op:CmpOp}(h:op≠.In:=by decide)(h2:op≠.NotIn:=by decide):behindInMarks op b=false:=by
 have e1:(op==CmpOp.In)=false:=by cases op<;>first| rfl | exact absurd rfl h
 have e2:(op==CmpOp.NotIn)=false:=by cases op<;>first| rfl | exact absurd rfl h2
 cases b<;>simp[behindInMarks,e1,e2]
theorem qL{op:CmpOp}{r:R2}(ho:OpR X (compareOp op) r)(ha:PE X a ta)(hb:PE X b tb)(hm:behindInMarks op b=false):PE X (.Compare a [op] [b] pos) (tOp r ta tb):=by
 intro pins s σ H Q I h
 exact wpAny_Compare1 (zfO ha hb I h fun v u s2 x y H2 I2 rx ry q=>ho pins s2 σ H2 x y v u Q I2 rx ry q) hm
def zfW(t:TE):TT:=fun σ H Q=>t σ H fun x H'=>IsB x H' Q
theorem zC{op:CmpOp}{r:R2}(ho:OpR X (compareOp op) r)(ha:PE X a ta)(hb:PE X b tb)(hm:behindInMarks op b=false):PT X (.Compare a [op] [b] pos) (zfW (tOp r ta tb)):=by
 intro pins s σ H Q I h
 refine wpAny_isTrue_Compare1 (thn (ha pins s σ H _ I h) fun v s1 ⟨x,H1,I1,r1,q1⟩=>thn (hb pins s1 σ H1 _ I1 q1) fun u s2 ⟨y,H2,I2,r2,q2⟩=>
  thn (ho pins s2 σ H2 x y v u _ I2 r1 r2 q2) fun c s3 ⟨z,H3,I3,r3,k,e,q3⟩=>?_) hm
 subst e
 cases r3
 exact Za ⟨H3,I3,q3⟩
def zeS(r r':R2)(ta tb tc:TE):TE:=fun σ H Q=>ta σ H fun x H1=>tb σ H1 fun y H2=>r x y H2 fun z H3=>∃k,z=.bl k /\
 (if k=true then tc σ H3 fun w' H4=>r' y w' H4 Q else Q (.bl false) H3)
theorem zbX{op op':CmpOp}{r r':R2}(ho:OpR X (compareOp op) r)(ho':OpR X (compareOp op') r')(ha:PE X a ta)(hb:PE X b tb)(hc:PE X c tc)
  (hm:lastMarks [op,op'] [b,c]=false:=by with_unfolding_all rfl):PE X (.Compare a [op,op'] [b,c] pos) (zeS r r' ta tb tc):=by
 intro pins s σ H Q I h
 refine Compare_chain (thn (ha pins s σ H _ I h) fun v s1 ⟨x,H1,I1,r1,q1⟩=>chain_link (thn (hb pins s1 σ H1 _ I1 q1) fun u s2 ⟨y,H2,I2,r2,q2⟩=>
  thn (ho pins s2 σ H2 x y v u _ I2 r1 r2 q2) fun d s3 ⟨z,H3,I3,r3,k,e,q3⟩=>?_)) hm
 subst e
 cases r3
 refine Za ?_
 cases k with
 | false=>exact ite_ff ⟨.bl false,H3,I3,rfl,q3⟩
 | true=>exact ite_tt (chain_last (thn (hc pins s3 σ H3 _ I3 q3) fun w' s4 ⟨z',H4,I4,r4,q4⟩=>ho' pins s4 σ H4 y z' u w' Q I4 r2 r4 q4))
theorem Qj:(sizeLine:Nat)<2^63:=by rw[sizeLine_eq];decide
inductive Zd(x:V)(y:V)(H:Hp)(Q:VK):Prop
 | mk (i j:_) (_:x=.str i) (_:y=.str j) (_:i.length+j.length<=sizeLine) (_:Q (.str (i++j)) H):Zd x y H Q
theorem Wj:OpR X (binaryOp .Add) (Zd):=by
 intro pins s σ H x y v u Q I rx ry h
 obtain⟨i,j,rfl,rfl,hz,q⟩:=h
 obtain⟨t,rfl⟩:=rx
 obtain⟨t',rfl⟩:=ry
 exact add_str (fun t' tk=>⟨.str (i++j),H,I.tok _,⟨_,rfl⟩,q⟩) hz
theorem vM{x:V}{us:List Value}(r:Vals [x] us):∃u,us=[u]/\RelV x u:=by
 cases r with
 | cons r1 r2=>cases r2;exact⟨_,rfl,r1⟩
theorem ZA{x y:V}{us:List Value}(r:Vals [x,y] us):∃u w',us=[u,w']/\RelV x u/\RelV y w':=by
 cases r with
 | cons r1 r2=>
  cases r2 with
  | cons r3 r4=>cases r4;exact⟨_,_,rfl,r1,r3⟩
inductive Q3(xs:List V)(H:Hp)(Q:VK):Prop
 | mk (i:_) (_:xs=[.int i]) (_:Q (.int (if i<0 then -i else i)) H):Q3 xs H Q
theorem yX:CallR X (.builtin "abs") (Q3):=by
 intro pins s σ H xs us Q I r h
 obtain⟨i,rfl,q⟩:=h
 obtain⟨u,rfl,t,rfl⟩:=vM r
 exact call_abs_int fun u tk=>⟨.int (if i<0 then -i else i),H,I.tok _,⟨_,rfl⟩,q⟩
inductive ZN(xs:List V)(H:Hp)(Q:VK):Prop
 | mk (i j:_) (_:xs=[.int i,.int j]) (_:Q (.int (if j>i then j else i)) H):ZN xs H Q
theorem JH(hc:X.calm=true):CallR X (.builtin "max") (ZN):=by
 intro pins s σ H xs us Q I r h
 obtain⟨i,j,rfl,q⟩:=h
 obtain⟨u,w',rfl,⟨t,rfl⟩,⟨t',rfl⟩⟩:=ZA r
 refine max_two_ints (I.ok.hd hc) fun h' tk k=>⟨_,H,I.kept k,?_,q⟩
 by_cases hj:j>i
 ·rw[zx hj,zx hj];exact⟨_,rfl⟩
 ·rw[zq hj,zq hj];exact⟨_,rfl⟩
theorem wO:CallR X (.type "int") (fun xs H Q=>(∃i,xs=[.int i]/\Q (.int i) H)\/∃k,xs=[.bl k]/\Q (.int (if k then 1 else 0)) H):=by
 intro pins s σ H xs us Q I r h
 rcases h with ⟨i,rfl,q⟩ | ⟨k,rfl,q⟩
 ·obtain⟨u,rfl,t,rfl⟩:=vM r
  exact call_int_int ⟨.int i,H,I,⟨_,rfl⟩,q⟩
 ·obtain⟨u,rfl,r1⟩:=vM r
  cases r1
  exact call_int_bool ⟨.int (if k then 1 else 0),H,I.tok _,⟨_,rfl⟩,q⟩
inductive yf(xs:List V)(H:Hp)(Q:VK):Prop
 | mk (i j:_) (_:xs=[.int i,.int j]) (_:zg4 i j) (_:∀p,H p=none->Q (.ref p) (upd H p (.tup [.int (i/j),.int (i % j)]))):yf xs H Q
theorem VS:CallR X (.builtin "divmod") (yf):=by
 intro pins s σ H xs us Q I r h
 obtain⟨i,j,rfl,⟨h1,h2⟩,q⟩:=h
 obtain⟨u,w',rfl,⟨t,rfl⟩,⟨t',rfl⟩⟩:=ZA r
 refine divmod_int (by omega) ?_ (.inl (PyProof.noPylong_small (by omega)))
 rw[zcO i (by omega),zcN i (by omega)]
 have hn:H s.heap.objs.size=none:=I.hok.fresh (zG _)
 refine⟨.ref s.heap.objs.size,_,?_,rfl,q _ hn⟩
 refine I.laid (fun b o e=>qA _ e) (zG _) ⟨by simp only[qU,Xv];rw[sizeLine_eq];decide,[.int (i/j) s.toks,.int (i % j) (s.toks+1)],.cons ⟨_,rfl⟩ (.cons ⟨_,rfl⟩ .nil),?_⟩
 exact⟨⟨_,qC s.heap rfl,rfl,0,rfl⟩,_,qC s.heap rfl,rfl⟩
end
structure ObjM(h:Heap)(x dx C:Addr)(mA:Str->Option Value):Prop where
 obj:h.get? x=some (PySem.W.instObj C dx)
 ns:h.Ns1 dx mA
 ne:dx≠x
theorem zaK{h:Heap}{dx:Addr}{mA:Str->Option Value}(n:h.Ns1 dx mA):∃od,h.get? dx=some od/\∀name,PySem.W.lookIn name od=some (mA name):=by
 obtain⟨o,es,ep,ho,hd,hk,_,hm⟩:=n
 refine⟨o,ho,fun name=>?_⟩
 have e:=hm name
 unfold nsFind findBy at e
 rw[<- Array.find?_toList] at e
 unfold PySem.W.lookIn
 rw[hd]
 dsimp only
 split
 ·rename_i y q
  rw[q] at e
  exact congrArg some e
 ·rename_i q
  rw[q] at e
  have a:es.toList.any (·.refKey)=false:=by
   rw[List.any_eq_false]
   intro y hy
   obtain⟨z,t,hkey⟩:=hk y (Array.mem_toList_iff.mp hy)
   simp[DictEntry.refKey,hkey]
  have a':¬es.toList.any (·.refKey)=true:=by rw[a];exact qm
  rw[zq a']
  exact congrArg some e
theorem ObjM.look{h:Heap}{x dx C:Addr}{mA:Str->Option Value}(I:ObjM h x dx C mA):∃od,PySem.W.InstAt h x (PySem.W.instObj C dx) C (some od)/\∀name,PySem.W.lookIn name od=some (mA name):=
 let ⟨od,ho,hl⟩:=zaK I.ns
 ⟨od,⟨I.obj,rfl,rfl,ho⟩,hl⟩
section
variable{prog:Program}{w:World}{A:Around}{E:Value->Shared->Prop}{s:Shared}{K:PySem.W.Frag}{x dx C f:Addr}{mA:Str->Option Value}{name:Str}{v:Value}
end
def putF(f:Str)(v:V):List (Str×V)->List (Str×V)
 | []=>[(f,v)]
 | (g,x)::r=>if g=f then(g,v)::r else(g,x)::putF f v r
theorem RelO.some_of{v:V}{o:Option Value}(r:RelO (some v) o):∃u,o=some u/\RelV v u:=by
 cases o with
 | none=>exact(show False from r).elim
 | some u=>exact⟨u,rfl,r⟩
theorem RelO.none_of{o:Option Value}(r:RelO none o):o=none:=by
 cases o with
 | none=>rfl
 | some u=>exact(show False from r).elim
section
variable{P:Program}{w:World}{H H':Hp}{h h':Heap}{a C dx:Addr}{fs fs':List (Str×V)}
end
structure Cls(K:PySem.W.Frag)(C:Addr):Prop where
 pg:PySem.W.plainGet K C Str.empty=true
 hd:PySem.W.hasDictIn K C=true
 po:PySem.W.plainOver K C=true
 sa:PySem.W.findIn K (.ref C) "__setattr__" = some (some (.builtin "object.__setattr__"))
theorem Cls.get{K:PySem.W.Frag}{C:Addr}(c:Cls K C)(f:Str):PySem.W.plainGet K C f=true:=c.pg
structure Con(K:PySem.W.Frag)(C:Addr)(f:Str)(v:V)(u:Value):Prop where
 at_:PySem.W.findIn K (.ref C) f=some (some u)
 rel:RelV v u
 get:PySem.W.specialIn K u "__get__" = some none
 cp:PySem.W.copiedNames.contains f=false
structure Meth(K:PySem.W.Frag)(C:Addr)(m:Str)(f:Addr):Prop where
 at_:PySem.W.findIn K (.ref C) m=some (some (.ref f))
 fn:PySem.W.isFn K (.ref f)=true
 kp:PySem.W.keepIn K (.ref f)=true
section
variable{X:Cx}{pins:List (Addr×Obj)}{σ:St}{H:Hp}{s:Shared}{a C dx:Addr}{fs:List (Str×V)}{f:Str}{v:V}{A:Around}{E:Value->Shared->Prop}
end
section
variable{X:Cx}{o e value:Expr}{f:Str}{pos pos' tpos:Pos}{ta tv:TE}
end
section
variable{X:Cx}{pins:List (Addr×Obj)}{σ:St}{H:Hp}{s:Shared}{A:Around}{E:Value->Shared->Prop}{Q:Value->Shared->Prop}{c:Value}{b:Bool}
inductive QY(K:PySem.W.Frag)(H:Hp):V->Value->Prop where
 | non:QY K H .non (.type "NoneType")
 | bl (x:Bool):QY K H (.bl x) (.type "bool")
 | int (i:Int):QY K H (.int i) (.type "int")
 | str (x:Str):QY K H (.str x) (.type "str")
 | flt (x:UInt64):QY K H (.flt x) (.type "float")
 | lst {a:Addr} {xs:List V} (e:H a=some (.lst xs)):QY K H (.ref a) (.type "list")
 | frz {a:Addr} {o:Obj} {xs:List V} (e:H a=some (.frz o (.lst xs))):QY K H (.ref a) (.type "list")
 | tup {a:Addr} {xs:List V} (e:H a=some (.tup xs)):QY K H (.ref a) (.type "tuple")
 | dK {a:Addr} {kvs:List (Key×V)} (e:H a=some (.dK kvs)):QY K H (.ref a) (.type "dict")
 | dT {a:Addr} {kvs:List (List Key×V)} (e:H a=some (.dT kvs)):QY K H (.ref a) (.type "dict")
 | ins {a C dx:Addr} {fs:List (Str×V)} (e:H a=some (.ins C dx fs)) (cl:Cls K C) (ha:PySem.W.findIn K (.ref C) "__class__" = some (some (.builtin "object.__class__")))
   (hn:PySem.W.specialIn K (.builtin "object.__class__") "__get__" = some (some (.builtin "getset_descriptor.__get__"))) (htk:PySem.W.takesIn K (.builtin "object.__class__")=some true)
   (hm:PySem.W.mroIn K C (.type "object")=some true):QY K H (.ref a) (.ref C)
end
structure Room(k:Nat)(A:Around):Prop where
 hd:A.handled=none
 dp:A.depth+3*k+5<recursionLimit
 un:A.units+16*k+200<cLine
 gd:A.guards=some []
theorem Room.mono{j k:Nat}{A:Around}(r:Room k A)(h:j<=k):Room j A:=⟨r.hd,by have:=r.dp;omega,by have:=r.un;omega,r.gd⟩
theorem Room.deeper{k:Nat}{A:Around}(r:Room (k+1) A)(env:Env):Room k (A.deeper env):=
 ⟨r.hd,by have:=r.dp;show A.depth+1+3*k+5<_;omega,by have:=r.un;show A.units+3+16*k+200<_;omega,r.gd⟩
theorem Room.in1{k:Nat}{A:Around}(r:Room (k+1) A):Room k A.in1:=
 ⟨r.hd,by have:=r.dp;show A.depth+3*k+5<_;omega,by have:=r.un;show A.units+1+16*k+200<_;omega,r.gd⟩
theorem Room.depth{k:Nat}{A:Around}(r:Room k A):A.depth<recursionLimit:=by have:=r.dp;omega
theorem Room.units{k:Nat}{A:Around}(r:Room k A):A.units+64<cLine:=by have:=r.un;omega
theorem Room.units0{k:Nat}{A:Around}(r:Room k A):A.units<cLine:=by have:=r.un;omega
def zf0:TA:=fun _ H Q=>Q [] H
def Jg(ta:TE)(tr:TA):TA:=fun σ H Q=>ta σ H fun x H1=>tr σ H1 fun xs H2=>Q (x::xs) H2
section
variable{X:Cx}{e:Expr}{es:List Expr}{te:TE}{t:TA}{pos:Pos}
theorem zd:PA X [] zf0:=fun _ _ _ _ H Q I h=>QQ ⟨[],H,I,.nil,h⟩
theorem za(ha:PE X e te)(hr:PA X es t)(hs:starEach (e::es) X.env=(false,eval e X.env)::starEach es X.env:=by rfl):PA X (e::es) (Jg te t):=by
 intro pos pins s σ H Q I h
 rw[hs]
 show wpAny _ _ (spliced ((false,eval e X.env)::backTo pos (starEach es X.env))) _ _ s
 refine QI (thn (ha pins s σ H _ I h) fun u s1 ⟨x,H1,I1,r1,q1⟩=>?_)
 exact thn (hr pos pins s1 σ H1 _ I1 q1) fun us s2 ⟨xs,H2,I2,r2,q2⟩=>⟨x::xs,H2,I2,.cons r1 r2,q2⟩
def zg7(t:TA):TE:=fun σ H Q=>t σ H fun xs H1=>xs.length<=sizeLine/\∀p,H1 p=none->Q (.ref p) (upd H1 p (.tup xs))
def zhd(t:TA):TE:=fun σ H Q=>t σ H fun xs H1=>xs.length<=sizeLine/\∀p,H1 p=none->Q (.ref p) (upd H1 p (.lst xs))
theorem zX{x1}(h:PA X es t):PE X (.Tuple es x1 pos) (zg7 t):=by
 intro pins s σ H Q I hq
 refine wpAny_Tuple_spliced (thn (h pos pins s σ H _ I hq) fun us s1 ⟨xs,H1,I1,r,z,q⟩=>⟨by rw[<- r.length];exact z,?_⟩)
 have hf:H1 s1.heap.objs.size=none:=I1.hok.fresh (zG _)
 refine⟨.ref s1.heap.objs.size,upd H1 s1.heap.objs.size (.tup xs),I1.laid (t':=s1.toks) (fun b u e=>qA _ e) (zG _) ?_,rfl,q _ hf⟩
 exact⟨z,us,r,⟨_,qC _ rfl,rfl,_,rfl⟩,_,qC _ rfl,rfl⟩
theorem zN(h:PA X es t):PE X (.List es pos) (zhd t):=by
 intro pins s σ H Q I hq
 refine wpAny_List_spliced (thn (h pos pins s σ H _ I hq) fun us s1 ⟨xs,H1,I1,r,z,q⟩=>⟨by rw[<- r.length];exact z,?_⟩)
 have hf:H1 s1.heap.objs.size=none:=I1.hok.fresh (zG _)
 refine⟨.ref s1.heap.objs.size,upd H1 s1.heap.objs.size (.lst xs),I1.laid (t':=s1.toks) (fun b u e=>qA _ e) (zG _) ?_,rfl,q _ hf⟩
 exact⟨z,us,0,r,qC _ rfl⟩
end
abbrev Sp:=List V->Hp->VK->XK->Prop
abbrev CXT:=List Env->Hp->Shared->XK->Value->Shared->Prop
structure Env0(P:Program)(w:World)(K:PySem.W.Frag)(mg:Str->Option Value)(base:Heap)(A:Around)(outer:List Env)(s:Shared)(H:Hp):Prop where
 frames:A.frames=some outer
 mod:Mod K mg base
 bs:∀b o,base.get? b=some o->s.heap.get? b=some o/\H b=none
 bsz:base.objs.size<=s.heap.objs.size
 funs:s.heap.FunFrames base outer
 frf:∀b∈frs outer,H b=none
 hok:HOk P w H s.heap
 bare:AllBare s.gens
def CE(outer:List Env)(P:Program)(w:World)(H:Hp)(s:Shared)(Q:VK)(u:Value)(s':Shared):Prop:=
 ∃v H',s'.os=s.os/\AllBare s'.gens/\Un (frs outer) [] H H' s.heap s'.heap/\HOk P w H' s'.heap/\RelV v u/\Q v H'
def CR(CX:CXT)(outer:List Env)(P:Program)(w:World)(H:Hp)(s:Shared)(Q:VK)(E:XK)(r:Result)(s':Shared):Prop:=
 match r with
 | .ok (.ret u)=>CE outer P w H s Q u s'
 | .ok _=>False
 | .error e=>CX outer H s E e s'
structure FnOk(P:Program)(w:World)(K:PySem.W.Frag)(mg:Str->Option Value)(base:Heap)(CX:CXT)(k:Nat)(f:Addr)(fd:FuncData)(ps:List Str)(sp:Sp):Prop where
 len:∀vs H Q E,sp vs H Q E->vs.length=ps.length
 run:∀(A:Around) (outer:List Env) (s:Shared) (H:Hp) (args:Args) (us:List Value) (vs:List V) (Q:VK) (E:XK),Room k A->Env0 P w K mg base A outer s H->BindsTo s fd args (ps.zip us)->Vals vs us->sp vs H Q E ->
  codeAny (model P w) A (.call (.ref f) args) (CR CX outer P w H s Q E) s
theorem FnOk.mono{P:Program}{w:World}{K:PySem.W.Frag}{mg:Str->Option Value}{base:Heap}{CX:CXT}{j k:Nat}{f:Addr}{fd:FuncData}{ps:List Str}{sp:Sp}(F:FnOk P w K mg base CX j f fd ps sp)(h:j<=k) :
  FnOk P w K mg base CX k f fd ps sp:=⟨F.len,fun A outer s H args us vs Q E hr=>F.run A outer s H args us vs Q E (hr.mono h)⟩
theorem FnOk.imp{P:Program}{w:World}{K:PySem.W.Frag}{mg:Str->Option Value}{base:Heap}{CX:CXT}{k:Nat}{f:Addr}{fd:FuncData}{ps:List Str}{sp sp':Sp}(F:FnOk P w K mg base CX k f fd ps sp)
  (h:∀vs H Q E,sp' vs H Q E->sp vs H Q E):FnOk P w K mg base CX k f fd ps sp':=
 ⟨fun vs H Q E q=>F.len vs H Q E (h _ _ _ _ q),fun A outer s H args us vs Q E hr he hb hv hs=>F.run A outer s H args us vs Q E hr he hb hv (h _ _ _ _ hs)⟩
theorem Env0.in1{P:Program}{w:World}{K:PySem.W.Frag}{mg:Str->Option Value}{base:Heap}{A:Around}{outer:List Env}{s:Shared}{H:Hp}(e:Env0 P w K mg base A outer s H) :
  Env0 P w K mg base A.in1 outer s H:=⟨e.frames,e.mod,e.bs,e.bsz,e.funs,e.frf,e.hok,e.bare⟩
section
variable{X:Cx}{pins:List (Addr×Obj)}{σ:St}{H:Hp}{s s':Shared}
theorem Inv.env0(I:Inv X pins σ H s):Env0 X.prog X.w X.K X.mg X.base X.A X.stack s H:=
 ⟨I.ok.frames,I.ok.mod,I.bs,jj I.ok.bsz I.sz,I.stack,I.stkFree,I.hok,I.bare⟩
theorem Inv.after{Q:VK}{u:Value}(I:Inv X pins σ H s)(h:CE X.stack X.prog X.w H s Q u s'):EP X pins σ Q u s':=by
 obtain⟨v,H',os,bare,un,hok,r,q⟩:=h
 obtain⟨hh,g,d,t,os'⟩:=s'
 obtain rfl:os'=s.os:=os
 exact⟨v,H',I.call (h':=hh) (g':=g) (d':=d) (t':=t) (ch:=[]) un hok bare (fun b z=>absurd z (by simp)),r,q⟩
end
def zec(sp:Sp)(dvs:List V)(E:XK)(t:TA):TE:=fun σ H Q=>t σ H fun vs H1=>sp (vs++dvs) H1 Q E
def Binds(K:PySem.W.Frag)(fd:FuncData)(ps:List Str)(ds:List Value):Prop:=
 ∀(s:Shared) (us:List Value),K.In s.heap->(us++ds).length=ps.length->BindsTo s fd ⟨us,[]⟩ (ps.zip (us++ds))
theorem Binds.all{K:PySem.W.Frag}{fd:FuncData}{ps:List Str}(h:∀us:List Value,us.length=ps.length->bindArgs fd ⟨us,[]⟩=pure (ps.zip us)):Binds K fd ps []:=fun s us _ hl=>by
 rw[qk] at hl ⊢
 exact .of_eq (h us hl)
def W8(CX:CXT)(X:Cx)(E:XK):Prop:=∀(pins:List (Addr×Obj)) (σ:St) (H:Hp) (s:Shared) (e:Value) (s':Shared),Inv X pins σ H s->CX X.stack H s E e s'->X.xe e s'
section
variable{X:Cx}{CX:CXT}{k:Nat}{f C:Addr}{fd:FuncData}{ps:List Str}{sp:Sp}{dvs:List V}{ds:List Value}{E:XK}{x m:Str}{p pos apos:Pos}{e o:Expr}{es:List Expr}{ta:TE}{t:TA}
theorem zeZ{pins:List (Addr×Obj)}{σ:St}{H:Hp}{s:Shared}{Q:VK}{us:List Value}{vs:List V}(F:FnOk X.prog X.w X.K X.mg X.base CX k f fd ps sp)(hr:Room k X.A)(hb:Binds X.K fd ps ds)(hd:Vals dvs ds)(hx:W8 CX X E)
  (I:Inv X pins σ H s) (r:Vals vs us) (h:sp (vs++dvs) H Q E):wpAny (model X.prog X.w) X.A (call (.ref f) us) (EP X pins σ Q) X.xe s:=by
 have r2:Vals (vs++dvs) (us++ds):=r.append hd
 have hl:(us++ds).length=ps.length:=by rw[<- r2.length];exact F.len _ _ _ _ h
 refine wpAny_call (codeAny_mono (F.run X.A X.stack s H ⟨us,[]⟩ (us++ds) (vs++dvs) Q E hr I.env0 (hb s us I.kIn hl) r2 h) fun r s' hq=>?_)
 cases r with
 | error e=>exact hx pins σ H s e s' I hq
 | ok fl=>
  cases fl with
  | ret u=>exact I.after hq
  | next=>exact False.elim hq
  | brk=>exact False.elim hq
  | cont=>exact False.elim hq
theorem zdk(F:FnOk X.prog X.w X.K X.mg X.base CX k f fd ps sp)(hr:Room k X.A)(hg:Gl X x)(hm:X.mg x=some (.ref f))(hk:PySem.W.keepIn X.K (.ref f)=true)(hb:Binds X.K fd ps ds)(hd:Vals dvs ds)(hx:W8 CX X E)
  (ha:PA X (e::es) t) (hdb:(x==("__debug__" : Str))=false:=by decide) (he:starEach (e::es) X.env=(false,eval e X.env)::starEach es X.env:=by rfl) (hpl:(backTo pos (starEach es X.env)).any (·.1)=false:=by rfl) :
  PE X (.Call (.Name x p) (e::es) [] pos) (zec sp dvs E t):=by
 intro pins s σ H Q I h
 refine wpAny_Call_Name_kw (zdI I hg hm ?_ hdb)
 refine PySem.W.callWith_K (h₀:=X.base) I.ok.mod.kin hk (thn (ha pos pins s σ H _ I h) fun us s1 ⟨vs,H1,I1,r,q⟩=>⟨I1.kIn,?_⟩) he hpl
 exact zeZ F hr hb hd hx I1 r q
structure Mk(K:PySem.W.Frag)(C f:Addr):Prop where
 makes:PySem.W.makesIn K C=true
 init:PySem.W.findIn K (.ref C) "__init__" = some (some (.ref f))
 fn:PySem.W.isFn K (.ref f)=true
 kp:PySem.W.keepIn K (.ref C)=true
end
section
variable{X:Cx}{CX:CXT}{k:Nat}{f C:Addr}{fd:FuncData}{ps ks:List Str}{sp:Sp}{E:XK}{x m:Str}{p pos apos kpos:Pos}{e o:Expr}{es:List Expr}{kws:List Keyword}{te ta:TE}{t tk:TA}{nm:Option Str}
structure KBinds(K:PySem.W.Frag)(fd:FuncData)(ps ks:List Str)(g:List Value->List Value->List Value)(gV:List V->List V->List V):Prop where
 to:∀(s:Shared) (us ws:List Value),K.In s.heap->(g us ws).length=ps.length->BindsTo s fd ⟨us,ks.zip ws⟩ (ps.zip (g us ws))
 rel:∀{vs:List V} {us:List Value} {zs:List V} {ws:List Value},Vals vs us->Vals zs ws->Vals (gV vs zs) (g us ws)
variable{g:List Value->List Value->List Value}{gV:List V->List V->List V}
end
structure zK(N P:List Str)(sc:Scope):Prop where
 kind:sc.kind=.function
 co:sc.isCoroutine=false
 gen:sc.isGenerator=false
 nd:N.Nodup
 pre:N.take P.length=P
 par:∀x∈P,sc.names.lookup x=some .local\/sc.names.lookup x=some .cell
 nofree:∀y∈sc.names,y.2≠.free
theorem JL{kindOf:Str->Option NameKind}{x:Str}:∀{binds:List (Str×Value)} {m:Str->Option Value},(∀v,(x,v)∉binds)->bindL kindOf binds m x=m x
 | [],_,_=>rfl
 | (n,v)::r,m,h=>by
  unfold bindL
  rw[JL fun w hw=>h w (qV _ hw)]
  split
  ·have:x≠n:=by rintro rfl;exact h v qP
   simp[this]
  ·rfl
theorem JN{kindOf:Str->Option NameKind}{x:Str}:∀{binds:List (Str×Value)} {m:Str->Option Value},(∀v,(x,v)∉binds)->bindC kindOf binds m x=m x
 | [],_,_=>rfl
 | (n,v)::r,m,h=>by
  unfold bindC
  rw[JN fun w hw=>h w (qV _ hw)]
  split
  ·rfl
  ·have:x≠n:=by rintro rfl;exact h v qP
   simp[this]
theorem JM{kindOf:Str->Option NameKind}{x:Str}{v:Value}:∀{P:List Str} {vs:List Value} {i:Nat} {m:Str->Option Value},P.Nodup->P[i]? =some x->vs[i]? =some v->kindOf x=some .local ->
  bindL kindOf (P.zip vs) m x=some v
 | [],_,_,_,_,h,_,_=>by simp at h
 | _::_,[],_,_,_,_,h,_=>by simp at h
 | p::P,w::vs,0,m,nd,h1,h2,hk=>by
  simp at h1 h2;subst h1;subst h2
  show bindL kindOf ((p,w)::P.zip vs) m p=_
  unfold bindL
  rw[JL fun v hv=>(yA.mp nd).1 (WJ hv).1,zx hk]
  simp
 | p::P,w::vs,i+1,m,nd,h1,h2,hk=>by
  show bindL kindOf ((p,w)::P.zip vs) m x=_
  unfold bindL
  exact JM (i:=i) (yA.mp nd).2 (by simpa using h1) (by simpa using h2) hk
theorem JO{kindOf:Str->Option NameKind}{x:Str}{v:Value}:∀{P:List Str} {vs:List Value} {i:Nat} {m:Str->Option Value},P.Nodup->P[i]? =some x->vs[i]? =some v->kindOf x≠some .local ->
  bindC kindOf (P.zip vs) m x=some v
 | [],_,_,_,_,h,_,_=>by simp at h
 | _::_,[],_,_,_,_,h,_=>by simp at h
 | p::P,w::vs,0,m,nd,h1,h2,hk=>by
  simp at h1 h2;subst h1;subst h2
  show bindC kindOf ((p,w)::P.zip vs) m p=_
  unfold bindC
  rw[JN fun v hv=>(yA.mp nd).1 (WJ hv).1,zq hk]
  simp
 | p::P,w::vs,i+1,m,nd,h1,h2,hk=>by
  show bindC kindOf ((p,w)::P.zip vs) m x=_
  unfold bindC
  exact JO (i:=i) (yA.mp nd).2 (by simpa using h1) (by simpa using h2) hk
def ZB(N:List Str)(vs:List V):St:=vs.map some++List.replicate (N.length-vs.length) none
def VP(CX:CXT)(P:Program)(w:World)(K:PySem.W.Frag)(mg:Str->Option Value)(base:Heap)(N:List Str)(qual:Str)(scope:Scope)(f:Addr)(cd:Value)(A:Around)(outer:List Env)(s:Shared)(H:Hp)(E:XK):Cx where
 prog:=P
 w:=w
 K:=K
 mg:=mg
 base:=base
 A:=A.deeper (envOfC qual scope s.heap.objs.size f cd)
 N:=N
 s₀:=s
 H₀:=H
 env:=envOfC qual scope s.heap.objs.size f cd
 outer:=outer
 stack:=envOfC qual scope s.heap.objs.size f cd::outer
 ex:=[]
 calm:=true
 fn:=fun _=>true
 pn:=[]
 xe:=fun e s'=>wpAny (model P w) (A.deeper (envOfC qual scope s.heap.objs.size f cd)) (leaving (envOfC qual scope s.heap.objs.size f cd) e) (fun _ s''=>CX outer H s E e s'') (fun e' s''=>CX outer H s E e' s'') s'
theorem VQ{sc:Scope}{n:Nat}{x:Str}(h:sc.names.lookup x=some .cell):∃c,(cellsFrom n sc.names []).lookup x=some c:=by
 have q:=PySem.W.cellsFrom_some sc.names n [] (.inl h)
 exact Option.isSome_iff_exists.mp q
theorem zaP{CX:CXT}{P:Program}{w:World}{K:PySem.W.Frag}{mg:Str->Option Value}{base:Heap}{N ps:List Str}{qual:Str}{scope:Scope}{f:Addr}{cd:Value}{A:Around}{outer:List Env}{s s1:Shared}{H:Hp}{E:XK}{us:List Value}{vs:List V}
  (S:zK N ps scope) (hd:A.handled=none) (e0:Env0 P w K mg base A outer s H) (hl:vs.length=ps.length) (r:Vals vs us)
  (x:InCallC s s.heap.objs.size (bindL (envOfC qual scope s.heap.objs.size f cd).kindOf (ps.zip us) fun _=>none) (cellsFrom (s.heap.objs.size+1) scope.names []) (bindC (envOfC qual scope s.heap.objs.size f cd).kindOf (ps.zip us) fun _=>none) s1) :
  Inv (VP CX P w K mg base N qual scope f cd A outer s H E) [] (ZB N vs) H s1:=by
 have hpl:ps.length<=N.length:=by have:=congrArg List.length S.pre;rw[qT] at this;omega
 obtain⟨h1,tk,rfl,hk⟩:=x.done
 have noA:∀b:Addr,b∉(VP CX P w K mg base N qual scope f cd A outer s H E).ex:=fun b z=>absurd (show b∈([]:List Addr) from z) (by simp)
 refine⟨⟨e0.mod,S.kind,rfl,rfl,zG _,fun y z c h1 h2=>?_,fun y hy=>?_,fun y c _ h=>?_,fun _=>hd,Around.frames_deeper e0.frames,.inr ⟨rfl,rfl⟩,fun b z=>absurd z (noA b),e0.bs,e0.bsz,fun b _ _=>noA b,fun b z=>absurd z (noA b),e0.funs,e0.frf⟩,
  rfl,e0.bare,Un.kept hk,⟨_,x.toInCall.ns,fun i y v h1 h2 h3=>?_⟩,fun y c h=>⟨_,x.cell y c h⟩,e0.hok.fresh (zG _),fun y c h=>?_,fun p hp=>absurd (show p∈([]:List (Addr×Obj)) from hp) (by simp),e0.hok.kept hk,?_⟩
 ·exact name_of_addr x.apart (yc h1) (yc h2)
 ·have hy:scope.names.lookup y=some .cell\/scope.names.lookup y=some .free:=hy
  rcases hy with hy | hy
  ·exact VQ hy
  ·exact absurd rfl (S.nofree _ (yc hy))
 ·exact yw (x.above y c (yc h))
 ·have hi:i<vs.length:=by
   unfold ZB at h2
   by_cases hi:i<vs.length
   ·exact hi
   ·rw[xu (by simpa using hi)] at h2
    rw[List.getElem?_replicate] at h2
    split at h2<;>cases h2
  have ha:vs[i]? =some v:=by
   unfold ZB at h2
   rw[xt (by simpa using hi),qJ] at h2
   cases e:vs[i]? with
   | none=>rw[e] at h2;cases h2
   | some a=>rw[e] at h2;cases h2;rfl
  obtain⟨u,hu,rv⟩:=r.get ha
  have hp:ps[i]? =some y:=by
   rw[<- S.pre,List.getElem?_take_of_lt (by omega)];exact h1
  have ndP:ps.Nodup:=by rw[<- S.pre];exact S.nd.sublist (List.take_sublist _ _)
  refine⟨u,rv,?_⟩
  rcases S.par y (qG hp) with k | k
  ·exact .inl ⟨k,JM ndP hp hu k⟩
  ·obtain⟨c,e⟩:=VQ (n:=s.heap.objs.size+1) k
   refine .inr ⟨.inl k,c,e,?_⟩
   have q:=x.cell y c e
   rw[JO ndP hp hu (by show scope.names.lookup y≠_;rw[k];decide)] at q
   exact q
 ·exact e0.hok.fresh (yw (x.above y c (yc h)))
 ·unfold ZB
  show _=N.length
  rw[zW,zp,ZL]
  omega
theorem zgP{CX:CXT}{P:Program}{w:World}{K:PySem.W.Frag}{mg:Str->Option Value}{base:Heap}{k:Nat}{f:Addr}{name qual:Str}{params:Arguments}{body:List Stmt}{scope:Scope}{dV kV doc pm cdv ct oc:Value}{an od:Option Addr}
  {osl:Array (Option Value)} {N ps:List Str} {sp:Sp} (lk:K.lookup f=some ⟨oc,od,.func (PySem.W.fnOf name qual params body scope dV kV doc pm an cdv ct),osl⟩) (hcd:PySem.W.codeIn K cdv qual=true) (S:zK N ps scope)
  (len:∀vs H Q E,sp vs H Q E->vs.length=ps.length)
  (hbody:∀(A:Around) (outer:List Env) (s:Shared) (H:Hp) (vs:List V) (Q:VK) (E:XK),Room k (A.deeper (envOfC qual scope s.heap.objs.size f cdv))->sp vs H Q E ->
   ∃t,PSs (VP CX P w K mg base N qual scope f cdv A outer s H E) body t/\t { nx:=fun _ H'=>Q .non H',rt:=Q } (ZB N vs) H) :
  FnOk P w K mg base CX (k+1) f (PySem.W.fnOf name qual params body scope dV kV doc pm an cdv ct) ps sp:=by
 refine⟨len,fun A outer s H args us vs Q E hr e0 hb r hsp=>?_⟩
 have hl:=len _ _ _ _ hsp
 have KX:K.In s.heap:=e0.mod.kin.keeps fun b o e=>(e0.bs b o e).1
 have lim:s.heap.NoLimit:=e0.mod.nolimit.keeps fun b o e=>(e0.bs b o e).1
 have hkind:∀y∈ps.zip us,scope.names.lookup y.1=some .local\/(scope.names.lookup y.1=some .cell/\((cellsFrom (s.heap.objs.size+1) scope.names []).lookup y.1).isSome=true):=fun ⟨n,v⟩ hy=>by
  rcases S.par n (WJ hy).1 with q | q
  ·exact .inl q
  ·exact .inr ⟨q,PySem.W.cellsFrom_some _ _ _ (.inl q)⟩
 refine codeAny_call_function hr.depth (KX _ _ lk) rfl S.co S.gen rfl (PySem.W.codeRec_of KX hcd) (hb _ _ _ _ ?_)
 refine wpAny_newFunctionEnv_cells S.kind hkind fun env he s1 x=>?_
 subst he
 refine⟨lim.keeps x.toInCall.keep,codeAny_func ?_⟩
 obtain⟨t,ht,hq⟩:=hbody A outer s H vs Q E (hr.deeper _) hsp
 have I:Inv (VP CX P w K mg base N qual scope f cdv A outer s H E) [] (ZB N vs) H s1:=zaP S hr.hd e0 hl r x
 refine xp (ht [] s1 (ZB N vs) H _ I hq) (fun fl s' hs=>?_) fun e s' hs=>hs
 have fin:∀{σ':St} {H':Hp} {v:V} {u:Value},Inv (VP CX P w K mg base N qual scope f cdv A outer s H E) [] σ' H' s'->RelV v u->Q v H'->CE outer P w H s Q u s':=
  fun {σ' H' v u} J rv q=>⟨v,H',J.os,J.bare,J.base,J.hok,rv,q⟩
 cases fl with
 | ret u=>
  obtain⟨v,σ',H',J,rv,q⟩:=hs
  exact fin J rv q
 | next=>
  obtain⟨σ',H',J,q⟩:=hs
  exact fin (v:=V.non) (u:=Value.none) J rfl q
 | brk=>
  obtain⟨_,_,_,q⟩:=hs
  exact False.elim q
 | cont=>
  obtain⟨_,_,_,q⟩:=hs
  exact False.elim q
section
variable{X:Cx}{x:Str}{p pos:Pos}{e:Expr}{es:List Expr}{t:TA}{id T:String}{r:List V->Hp->VK->Prop}
def tCB(r:List V->Hp->VK->Prop)(t:TA):TE:=fun σ H Q=>t σ H fun vs H1=>r vs H1 Q
theorem zo(hc:CallR X (.builtin id) r)(hg:Gl X x)(hm:X.mg x=none)(hv:bootBuiltins x=some (.builtin id))(ha:PA X (e::es) t)(hn:x ≠ "__name__" :=by decide)(hdb:(x==("__debug__" : Str))=false:=by decide)
  (he:starEach (e::es) X.env=(false,eval e X.env)::starEach es X.env:=by rfl) (hpl:(backTo pos (starEach es X.env)).any (·.1)=false:=by rfl):PE X (.Call (.Name x p) (e::es) [] pos) (tCB r t):=by
 intro pins s σ H Q I h
 refine wpAny_Call_Name_kw (vF I hg hm hv ?_ hn hdb)
 exact PyProof.Rows.callWith_builtin1 (thn (ha pos pins s σ H _ I h) fun us s1 ⟨vs,H1,I1,r1,q1⟩=>hc pins s1 σ H1 vs us Q I1 r1 q1) he hpl
theorem jc(hc:CallR X (.type T) r)(hg:Gl X x)(hm:X.mg x=none)(hv:bootBuiltins x=some (.type T))(ha:PA X (e::es) t)(hn:x ≠ "__name__" :=by decide)(hdb:(x==("__debug__" : Str))=false:=by decide)
  (he:starEach (e::es) X.env=(false,eval e X.env)::starEach es X.env:=by rfl) (hpl:(backTo pos (starEach es X.env)).any (·.1)=false:=by rfl):PE X (.Call (.Name x p) (e::es) [] pos) (tCB r t):=by
 intro pins s σ H Q I h
 refine wpAny_Call_Name_kw (vF I hg hm hv ?_ hn hdb)
 exact QL (thn (ha pos pins s σ H _ I h) fun us s1 ⟨vs,H1,I1,r1,q1⟩=>hc pins s1 σ H1 vs us Q I1 r1 q1) he hpl
end
end L2
namespace HT
open PySem PyProof.Rows
section
open PySem.SeqAt
open PySem.AutoSeq1 (wpAny_loadPart')
open PySem.MeetsSeq PySem.MeetsSeq2 PySem.MeetsSeq3
end
section
variable{prog:Program}{w:World}{A:Around}{E:Value->Shared->Prop}{s:Shared}
theorem cat_tup{t b:Addr}{vs ws:List Value}{Q:Value->Shared->Prop}(ht:IsTup s.heap t vs.toArray)(hb:IsTup s.heap b ws.toArray)(hv:vs≠[])
  (h1:ws=[]->Q (.ref t) s) (h2:ws≠[]->Q (.ref s.heap.objs.size) { s with heap:=s.heap.push { cls:=.type "tuple",data:=.seq (vs++ws).toArray } })
  (hsz:vs.length+ws.length<=sizeLine):wpAny (model prog w) A (binaryOp .Add (.ref t) (.ref b)) Q E s:=by
 obtain⟨⟨cls,dd,data,sl⟩,ho,hc,n,hd⟩:=id ht
 obtain⟨⟨cls2,dd2,data2,sl2⟩,ho2,hc2,n2,hd2⟩:=id hb
 simp only at hc hd hc2 hd2
 subst hc hd hc2 hd2
 have e:vs.toArray++ws.toArray=(vs++ws).toArray:=by simp
 by_cases hw:ws=[]
 ·exact concat_meets ⟨_,ho,rfl⟩ ⟨_,ho2,rfl⟩ noFill_tuple_add seq_tuple_add PySem.F.slot_tuple_add PySem.F.entry_tuple_add (PySem.F.args_tuple_add_2 _ _)
   (tuple_addW1 t b vs.toArray ws.toArray n n2 dd dd2 sl sl2 (by simpa using hv) (by simp[hw])) ⟨ho,ho2,h1 hw⟩
 ·refine concat_meets ⟨_,ho,rfl⟩ ⟨_,ho2,rfl⟩ noFill_tuple_add seq_tuple_add PySem.F.slot_tuple_add PySem.F.entry_tuple_add (PySem.F.args_tuple_add_2 _ _)
   (tuple_addW2 t b vs.toArray ws.toArray n n2 dd dd2 sl sl2 (by simpa using hv) (by simpa using hw) (by rw[qi,qi];exact hsz)) ⟨ho,ho2,?_⟩
  rw[e]
  exact h2 hw
def sIx(n d:Nat):Option Int->Nat
 | none=>d
 | some v=>if v<0 then(v+(n:Int)).toNat else min v.toNat n
theorem sIx_none(n d:Nat):sIx n d none=d:=rfl
theorem sIx_nat(n d k:Nat):sIx n d (some (k:Int))=min k n:=by
 show(if(k:Int)<0 then((k:Int)+(n:Int)).toNat else min (k:Int).toNat n)=min k n
 rw[zq (by omega),xn]
theorem zeY(n d:Nat)(hd:d<=n)(o:Option Int):sIx n d o<=n:=by
 cases o with
 | none=>exact hd
 | some v=>
  show(if v<0 then(v+(n:Int)).toNat else min v.toNat n)<=n
  by_cases hv:v<0
  ·rw[zx hv];omega
  ·rw[zq hv];exact Nat.min_le_right _ _
theorem zae(v:Int)(n d:Nat):(if v<0 then max (v+(n:Int)) 0 else min v (n:Int))=((sIx n d (some v):Nat):Int):=by
 show(if v<0 then max (v+(n:Int)) 0 else min v (n:Int))=(((if v<0 then(v+(n:Int)).toNat else min v.toNat n):Nat):Int)
 by_cases hv:v<0
 ·simp only[zx hv];omega
 ·simp only[zq hv];omega
theorem W7(lo hi:Option Int)(n:Nat):Builtin.Slice.sliceAdjust lo hi 1 (n:Int)=(((sIx n 0 lo:Nat):Int),((sIx n n hi:Nat):Int)):=by
 have h1:¬((1:Int)<0):=by omega
 unfold Builtin.Slice.sliceAdjust
 simp only[h1,if_false]
 refine Prod.ext ?_ ?_
 ·cases lo with
  | none=>rfl
  | some v=>exact zae v n 0
 ·cases hi with
  | none=>rfl
  | some v=>exact zae v n n
theorem Wf(i j:Nat):Builtin.Slice.slicePlaces (i:Int) (j:Int) 1=j-i:=by
 unfold Builtin.Slice.slicePlaces
 have h1:(1:Int)>0:=by omega
 simp only[h1,if_true,Int.ediv_one]
 split<;>omega
theorem Qc{v:Value}{o:Option Int}{Q:Option Int->Shared->Prop}(p:IsPart v o)(h:Q o s):wpAny (model prog w) A (Builtin.Slice.slicePartIndex v) Q E s:=by
 cases p with
 | none=>exact slicePart_none h
 | int i t=>exact slicePart_int h
theorem Zk{sl:Addr}{vl vu:Value}{lo hi:Option Int}{n:Nat}{Q:Int×Int×Nat->Shared->Prop}(hs:s.heap.IsSliceOf sl vl vu .none)(pl:IsPart vl lo)(pu:IsPart vu hi)
  (h:Q (((sIx n 0 lo:Nat):Int),1,sIx n n hi-sIx n 0 lo) s):wpAny (model prog w) A (Builtin.Slice.sliceApplied (.ref sl) (pure (n:Int))) Q E s:=by
 obtain⟨os,hos,hcs,hds⟩:=id hs
 unfold Builtin.Slice.sliceApplied Builtin.Slice.sliceFields
 refine zn (zn (xJ hos hds (x:=vl) rfl (zn (xJ hos hds (x:=vu) rfl (zn (xJ hos hds (x:=.none) rfl (zP ?_)))))))
 refine zn (slicePart_none ?_)
 show wpAny _ _ (if((1:Int)==0)=true then _ else _) _ _ s
 rw[zq (by decide)]
 refine zn (Qc pl (zn (Qc pu (zn (zP ?_)))))
 show wpAny _ _ (match Builtin.Slice.sliceAdjust lo hi 1 (n:Int) with | (lo,hi)=>pure (lo,(1:Int),Builtin.Slice.slicePlaces lo hi 1)) _ _ s
 rw[W7 lo hi n]
 show wpAny _ _ (pure (((sIx n 0 lo:Nat):Int),(1:Int),Builtin.Slice.slicePlaces ((sIx n 0 lo:Nat):Int) ((sIx n n hi:Nat):Int) 1)) _ _ s
 rw[Wf]
 exact zP h
theorem zbR(xs:Array Value)(i k:Nat):((List.range k).filterMap fun(m:Nat)=>xs[((i:Int)+(m:Int)*1).toNat]?).toArray=((xs.toList.drop i).take k).toArray:=by
 have e:(fun(m:Nat)=>xs[((i:Int)+(m:Int)*1).toNat]?)=fun m=>xs[i+m]?:=by
  funext m
  have:((i:Int)+(m:Int)*1).toNat=i+m:=by omega
  rw[this]
 rw[e]
 have:=pick_run xs i k
 rw[List.filterMap_map] at this
 have e2:((fun x=>xs[x]?)∘fun x=>i+x)=fun m=>xs[i+m]?:=rfl
 rw[e2] at this
 rw[this]
theorem getItem_tuple_cut{t sl:Addr}{items:Array Value}{vl vu:Value}{lo hi:Option Int}{Q:Value->Shared->Prop}(ht:IsTup s.heap t items)(hs:s.heap.IsSliceOf sl vl vu .none)(pl:IsPart vl lo)(pu:IsPart vu hi)
  (hw:¬(sIx items.size 0 lo=0/\sIx items.size items.size hi=items.size))
  (h:Q (.ref s.heap.objs.size) { s with heap:=s.heap.push { cls:=.type "tuple",data:=.seq ((items.toList.drop (sIx items.size 0 lo)).take (sIx items.size items.size hi-sIx items.size 0 lo)).toArray } })
  (hsz:items.size<=sizeLine):wpAny (model prog w) A (getItem (.ref t) (.ref sl)) Q E s:=by
 have htake:sizeOk (.seq ((items.toList.drop (sIx items.size 0 lo)).take (sIx items.size items.size hi-sIx items.size 0 lo)).toArray):=by
  show((items.toList.drop (sIx items.size 0 lo)).take (sIx items.size items.size hi-sIx items.size 0 lo)).toArray.size<=sizeLine
  rw[qi,qT,ya,ZK]
  omega
 have hj:sIx items.size items.size hi<=items.size:=zeY _ _ (zG _) hi
 obtain⟨os,hos,hcs,hds⟩:=id hs
 have hTs:s.TypeIs (.ref sl) "slice" :=⟨os,hos,hcs⟩
 unfold getItem
 try with_reducible refine y6 ?_
 first| refine zn (zP ?_) | skip
 refine zn (wpAny_sequenceKey ht.typeIs (by decide) ?_)
 refine zn (Zb (name:=Str.ofString "__getitem__") ht.typeIs W6
  (ww W6 ht.typeIs entry_tuple_getitem ?_ (args_tuple_getitem _ _)))
 show wpAny _ _ (Builtin.Tuple.tupleItemsOf (.ref t) >>= _) _ _ s
 refine zn (tupleItemsOf_ ht ?_)
 refine zn (wpAny_typeOf hTs ?_)
 rw[zx (by decide)]
 refine zn (Zk hs pl pu ?_)
 have hno:¬((((sIx items.size 0 lo:Nat):Int)==0&&(1:Int)==1&&(sIx items.size items.size hi-sIx items.size 0 lo)==items.size)=true):=by
  intro q
  rw[jk,jk] at q
  have q1:((sIx items.size 0 lo:Nat):Int)=0:=eq_of_beq q.1.1
  have q2:sIx items.size items.size hi-sIx items.size 0 lo=items.size:=eq_of_beq q.2
  exact hw ⟨by omega,by omega⟩
 show wpAny _ _ (if(((sIx items.size 0 lo:Nat):Int)==0&&(1:Int)==1&&(sIx items.size items.size hi-sIx items.size 0 lo)==items.size)=true then _ else _) _ _ s
 rw[zq hno,zbR]
 first
  | exact zn (m:=Builtin.Tuple.tupleExact _) (xZ (zP ⟨_,rfl,zP h⟩) htake)
  | exact zn (m:=Builtin.Tuple.tupleExact _) (xZ (zn (zP (zP ⟨_,rfl,zP h⟩))) htake)
  | exact zn (zn (m:=Builtin.Tuple.tupleExact _) (xZ (zP (zP ⟨_,rfl,zP h⟩)) htake))
  | exact zn (zn (m:=Builtin.Tuple.tupleExact _) (xZ (zP ⟨_,rfl,zP h⟩) htake))
end
end HT
namespace L2
open PySem PySem.Spec PyProof.Rows
abbrev TO:=St->Hp->(Option Int->Hp->Prop)->Prop
def PO(X:Cx)(e:Option Expr)(t:TO):Prop:=
 ∀(pins:List (Addr×Obj)) (s:Shared) (σ:St) (H:Hp) (Q:Option Int->Hp->Prop),Inv X pins σ H s->t σ H Q ->
  wpAny (model X.prog X.w) X.A (evalPart e X.env) (fun u s'=>∃o H',Inv X pins σ H' s'/\IsPart u o/\Q o H') X.xe s
def zc3:TO:=fun _ H Q=>Q none H
def zfX(t:TE):TO:=fun σ H Q=>t σ H fun x H1=>IsI x H1 fun i H1=>Q (some i) H1
theorem Wx{ns:List Int}:∀{us:List Value},Vals (ns.map V.int) us->IntsAre us ns:=by
 induction ns with
 | nil=>intro us r;rw[yu] at r;cases r;exact .nil
 | cons n ns ih=>
  intro us r
  rw[jJ] at r
  cases r with
  | cons r1 r2=>
   obtain⟨t,e⟩:=r1
   subst e
   exact .cons n t (ih r2)
section
variable{X:Cx}{e:Expr}{te:TE}{lo hi:Option Expr}{tl th:TO}{pos p2:Pos}
theorem x9:PO X none zc3:=by
 intro pins s σ H Q I h
 rw[evalPart_none]
 exact zP ⟨none,H,I,.none,h⟩
theorem xA(h:PE X e te):PO X (some e) (zfX te):=by
 intro pins s σ H Q I hw
 rw[evalPart_some]
 refine thn (h pins s σ H _ I hw) fun u s1 ⟨x,H1,I1,r1,q1⟩=>?_
 obtain⟨i,rfl,q⟩:=q1
 obtain⟨t,rfl⟩:=r1
 exact⟨some i,H1,I1,.int i t,q⟩
def SlR(X:Cx)(r:V->Option Int->Option Int->Hp->VK->Prop):Prop:=
 ∀(pins:List (Addr×Obj)) (s:Shared) (σ:St) (H:Hp) (x:V) (v vl vu:Value) (lo hi:Option Int) (sl:Addr) (Q:VK),Inv X pins σ H s->RelV x v->s.heap.IsSliceOf sl vl vu .none->IsPart vl lo->IsPart vu hi->r x lo hi H Q ->
  ∃T id,typeLookup (.type T) "__getitem__" = pure (some (.builtin id))/\s.TypeIs v T/\wpAny (model X.prog X.w) X.A (getItem v (.ref sl)) (EP X pins σ Q) X.xe s
theorem SlR.or{r r':V->Option Int->Option Int->Hp->VK->Prop}(h:SlR X r)(h':SlR X r'):SlR X (fun x lo hi H Q=>r x lo hi H Q\/r' x lo hi H Q):=by
 intro pins s σ H x v vl vu lo hi sl Q I rx hs pl pu q
 rcases q with q | q
 ·exact h pins s σ H x v vl vu lo hi sl Q I rx hs pl pu q
 ·exact h' pins s σ H x v vl vu lo hi sl Q I rx hs pl pu q
def tSl(r:V->Option Int->Option Int->Hp->VK->Prop)(te:TE)(tl th:TO):TE:=fun σ H Q=>te σ H fun x H1=>tl σ H1 fun l H2=>th σ H2 fun u H3=>r x l u H3 Q
theorem xj{r:V->Option Int->Option Int->Hp->VK->Prop}(hr:SlR X r)(he:PE X e te)(hl:PO X lo tl)(hu:PO X hi th):PE X (.Subscript e (.Slice lo hi none p2) pos) (tSl r te tl th):=by
 intro pins s σ H Q I h
 refine Subscript_ (thn (he pins s σ H _ I h) fun v s1 ⟨x,H1,I1,r1,q1⟩=>?_)
 refine wpAny_Slice (thn (hl pins s1 σ H1 _ I1 q1) fun vl s2 ⟨l,H2,I2,pl,q2⟩=>thn (hu pins s2 σ H2 _ I2 q2) fun vu s3 ⟨u,H3,I3,pu,q3⟩=>?_)
 rw[evalPart_none]
 refine zP ?_
 have I4:Inv X pins σ H3 { s3 with heap:=s3.heap.push { cls:=.type "slice",data:=.fields #[vl,vu,.none] } }:=I3.kept (t':=s3.toks) fun b ob q=>qA _ q
 obtain⟨T,id,hT,ht,hg⟩:=hr pins { s3 with heap:=s3.heap.push { cls:=.type "slice",data:=.fields #[vl,vu,.none] } } σ H3 x v vl vu l u s3.heap.objs.size Q I4 r1 (Heap.IsSliceOf.new ..) pl pu q3
 show wpAny (model X.prog X.w) X.A (subscriptTail e (.Slice lo hi none p2) v (.ref s3.heap.objs.size)) (EP X pins σ Q) X.xe { s3 with heap:=s3.heap.push { cls:=.type "slice",data:=.fields #[vl,vu,.none] } }
 exact tail_any (ops:=[.ref s3.heap.objs.size,v]) ht hT hg (by with_unfolding_all rfl)
def jN(xs:List V)(lo hi:Option Int):List V:=(xs.drop (HT.sIx xs.length 0 lo)).take (HT.sIx xs.length xs.length hi-HT.sIx xs.length 0 lo)
theorem ZF(xs:List V)(lo hi:Option Int):(jN xs lo hi).length<=xs.length:=by
 unfold jN
 rw[qT,ya]
 omega
inductive zgk(K:PySem.W.Frag)(x:V)(lo:Option Int)(hi:Option Int)(H:Hp)(Q:VK):Prop
 | mk (a xs:_) (_:x=.ref a) (_:SqT K H a xs) (_:¬(HT.sIx xs.length 0 lo=0/\HT.sIx xs.length xs.length hi=xs.length)) (_:∀p,H p=none->Q (.ref p) (upd H p (.tup (jN xs lo hi)))):zgk K x lo hi H Q
theorem Qd:SlR X (zgk X.K):=by
 intro pins s σ H x v vl vu lo hi sl Q I rx hs pl pu h
 obtain⟨a,xs,rfl,hx,hw,q⟩:=h
 cases rx
 obtain⟨its,r,ht,hz⟩:=I.tuple hx
 have hlen:its.toArray.size=xs.length:=by rw[qi];exact r.length.symm
 refine⟨"tuple",_,W6.lookup,ht.typeIs,?_⟩
 refine HT.getItem_tuple_cut ht hs pl pu (by rw[hlen];exact hw) ?_ (by rw[hlen];exact hz)
 rw[hlen]
 refine⟨.ref s.heap.objs.size,_,I.laid (t':=s.toks) (o:=.tup (jN xs lo hi)) (fun b ob q=>qA _ q) (zG _) ?_,rfl,q _ (I.hok.fresh (zG _))⟩
 exact⟨jj (ZF xs lo hi) hz,_,(r.drop (HT.sIx xs.length 0 lo)).take (HT.sIx xs.length xs.length hi-HT.sIx xs.length 0 lo),⟨QM _ _,_,qC _ rfl,rfl⟩⟩
inductive zey(K:PySem.W.Frag)(x:V)(y:V)(H:Hp)(Q:VK):Prop
 | mk (a b xs ys:_) (_:x=.ref a) (_:y=.ref b) (_:SqT K H a xs) (_:SqT K H b ys) (_:xs≠[]) (_:xs.length+ys.length<=sizeLine) (_:(ys=[]->Q (.ref a) H)) (_:(ys≠[]->∀p,H p=none->Q (.ref p) (upd H p (.tup (xs++ys))))):zey K x y H Q
theorem Vals.nil_iff{xs:List V}{us:List Value}(r:Vals xs us):us=[]↔xs=[]:=by
 cases r with
 | nil=>simp
 | cons _ _=>simp
theorem yM:OpR X (binaryOp .Add) (zey X.K):=by
 intro pins s σ H x y v u Q I rx ry h
 obtain⟨a,b,xs,ys,rfl,rfl,ha,hb,hx,hz,q1,q2⟩:=h
 cases rx
 cases ry
 obtain⟨its,r1,p1,_⟩:=I.tuple ha
 obtain⟨its2,r2,p2,_⟩:=I.tuple hb
 refine HT.cat_tup p1 p2 (fun z=>hx (r1.nil_iff.mp z)) (fun z=>⟨.ref a,H,I,rfl,q1 (r2.nil_iff.mp z)⟩) (fun z=>?_) (by rw[<- r1.length,<- r2.length];exact hz)
 refine⟨.ref s.heap.objs.size,_,I.laid (t':=s.toks) (o:=.tup (xs++ys)) (fun b ob q=>qA _ q) (zG _) ?_,rfl,q2 (fun w=>z (r2.nil_iff.mpr w)) _ (I.hok.fresh (zG _))⟩
 exact⟨by rw[zW];exact hz,_,r1.append r2,⟨QM _ _,_,qC _ rfl,rfl⟩⟩
end
def ixN(n:Nat)(i:Int):Option Nat:=if 0<=i then(if i<n then some i.toNat else none) else if -(n:Int)<=i then some (i+n).toNat else none
def atI{α:Type}(xs:List α)(i:Int):Option α:=(ixN xs.length i).bind fun j=>xs[j]?
theorem ZZ{n:Nat}{i:Int}{j:Nat}(h:ixN n i=some j):seqIndex? i n=some j/\j<n/\ -(n:Int)<=i/\i<n:=by
 unfold ixN at h
 by_cases h0:0<=i
 ·rw[zx h0] at h
  by_cases h1:i<n
  ·rw[zx h1] at h
   have e:i.toNat=j:=jK h
   exact⟨by rw[seqIndex_of h0 h1,e],by omega,by omega,h1⟩
  ·rw[zq h1] at h;cases h
 ·rw[zq h0] at h
  by_cases h1:-(n:Int)<=i
  ·rw[zx h1] at h
   have e:(i+n).toNat=j:=jK h
   exact⟨by rw[seqIndex_neg (by omega) h1,e],by omega,h1,by omega⟩
  ·rw[zq h1] at h;cases h
theorem Xl{α:Type}{xs:List α}{i:Int}{v:α}(h:atI xs i=some v):∃j,seqIndex? i xs.length=some j/\xs[j]? =some v/\j<xs.length/\ -(xs.length:Int)<=i/\i<xs.length:=by
 unfold atI at h
 cases e:ixN xs.length i with
 | none=>rw[e] at h;cases h
 | some j=>
  rw[e] at h
  obtain⟨h1,h2,h3,h4⟩:=ZZ e
  exact⟨j,h1,h,h2,h3,h4⟩
theorem zT{α:Type}{xs:List α}{j:Nat}{v:α}(h:xs[j]? =some v):atI xs (j:Int)=some v:=by
 have hj:j<xs.length:=(zQ.mp h).1
 have e:ixN xs.length (j:Int)=some j:=by
  unfold ixN
  rw[zx (by omega),zx (by omega)];simp
 unfold atI;rw[e];exact h
theorem zcK{α:Type}(xs:List α)(v:α):atI (xs++[v]) (-1)=some v:=by
 have hl:(xs++[v]).length=xs.length+1:=by simp
 have e:ixN (xs++[v]).length (-1)=some xs.length:=by
  unfold ixN
  rw[hl,zq (by decide),zx (by omega)]
  congr 1
  omega
 unfold atI
 rw[e]
 show(xs++[v])[xs.length]? =some v
 simp
def zd8(b:Expr):Prop:=∀o i,subscripted b false o i=operate [o,i] (getItem o i)
def IxR(X:Cx)(r:R2):Prop:=
 ∀(value slice:Expr) (pins:List (Addr×Obj)) (s:Shared) (σ:St) (H:Hp) (x y:V) (v u:Value) (Q:VK),Inv X pins σ H s->RelV x v->RelV y u->r x y H Q ->
  subscripted slice false v u=operate [v,u] (getItem v u)->wpAny (model X.prog X.w) X.A (subscriptTail value slice v u) (EP X pins σ Q) X.xe s
def MtR(X:Cx)(id:String)(r:V->List V->Hp->VK->Prop):Prop:=
 ∀(pins:List (Addr×Obj)) (s:Shared) (σ:St) (H:Hp) (x:V) (xs:List V) (v:Value) (us:List Value) (Q:VK),Inv X pins σ H s->RelV x v->Vals xs us->r x xs H Q ->
  wpAny (model X.prog X.w) X.A (call (.builtin id) (v::us)) (EP X pins σ Q) X.xe s
section
variable{X:Cx}{a b:Expr}{ta tb:TE}{pos:Pos}
theorem IxR.or{r r':R2}(h:IxR X r)(h':IxR X r'):IxR X (fun x y H Q=>r x y H Q\/r' x y H Q):=by
 intro value slice pins s σ H x y v u Q I rx ry q hs
 rcases q with q | q
 ·exact h value slice pins s σ H x y v u Q I rx ry q hs
 ·exact h' value slice pins s σ H x y v u Q I rx ry q hs
theorem MtR.or{id:String}{r r':V->List V->Hp->VK->Prop}(h:MtR X id r)(h':MtR X id r'):MtR X id (fun x xs H Q=>r x xs H Q\/r' x xs H Q):=by
 intro pins s σ H x xs v us Q I rx rs q
 rcases q with q | q
 ·exact h pins s σ H x xs v us Q I rx rs q
 ·exact h' pins s σ H x xs v us Q I rx rs q
theorem zr{r:R2}(hr:IxR X r)(ha:PE X a ta)(hb:PE X b tb)(hs:zd8 b):PE X (.Subscript a b pos) (tOp r ta tb):=by
 intro pins s σ H Q I h
 exact Subscript_ (zfO ha hb I h fun v u s2 x y H2 I2 rx ry q=>hr a b pins s2 σ H2 x y v u Q I2 rx ry q (hs _ _))
inductive ze2(K:PySem.W.Frag)(x:V)(y:V)(H:Hp)(Q:VK):Prop
 | mk (p xs i v:_) (_:x=.ref p) (_:y=.int i) (_:SqL K H p xs) (_:atI xs i=some v) (_:Q v H):ze2 K x y H Q
inductive ze1(K:PySem.W.Frag)(x:V)(y:V)(H:Hp)(Q:VK):Prop
 | mk (p xs i v:_) (_:x=.ref p) (_:y=.int i) (_:SqT K H p xs) (_:atI xs i=some v) (_:Q v H):ze1 K x y H Q
inductive zgn(x:V)(y:V)(H:Hp)(Q:VK):Prop
 | mk (z i c:_) (_:x=.str z) (_:y=.int i) (_:z.length<=sizeLine) (_:atI z.cps.toList i=some c) (_:Q (.str ⟨#[c]⟩) H):zgn  x y H Q
theorem zJ:IxR X (ze2 X.K):=by
 intro value slice pins s σ H x y v u Q I rx ry h hs
 obtain⟨p,xs,i,z,rfl,rfl,hq,he,q⟩:=h
 cases rx
 obtain⟨t,rfl⟩:=ry
 obtain⟨its,r,pl,hz⟩:=I.list hq
 obtain⟨j,h1,h2,h3,h4,h5⟩:=Xl he
 obtain⟨w,ew,rw'⟩:=r.get h2
 have hl:=r.length
 have hn:=Qj
 have fin:EP X pins σ Q w s:=⟨z,H,I,rw',q⟩
 by_cases h0:0<=i
 ·have hj:i.toNat=j:=by
   rw[seqIndex_of h0 h5] at h1
   exact jK h1
  exact item_listR pl.isList h0 (by omega) (by rw[hj];simpa using ew) fin hs
 ·have hj:(i+(its.toArray.size:Int)).toNat=j:=by
   rw[seqIndex_neg (by omega) h4] at h1
   rw[qi,<- hl]
   exact jK h1
  exact subscriptTail_builtinR (x:=w) pl.isList.typeIs slot_list_getitem.lookup
   (wpAny_getItem_list_neg (Q:=fun r s'=>r=w/\EP X pins σ Q r s') pl.isList (by omega) (by rw[qi]<;>omega) (by omega) (by rw[hj];simpa using ew) ⟨rfl,fin⟩) hs
theorem zM:IxR X (ze1 X.K):=by
 intro value slice pins s σ H x y v u Q I rx ry h hs
 obtain⟨p,xs,i,z,rfl,rfl,hq,he,q⟩:=h
 cases rx
 obtain⟨t,rfl⟩:=ry
 obtain⟨its,r,pl,hz⟩:=I.tuple hq
 obtain⟨j,h1,h2,h3,h4,h5⟩:=Xl he
 obtain⟨w,ew,rw'⟩:=r.get h2
 have hl:=r.length
 have hn:=Qj
 have fin:EP X pins σ Q w s:=⟨z,H,I,rw',q⟩
 exact subscriptTail_builtinR (x:=w) pl.typeIs slot_tuple_getitem.lookup
  (getItem_tuple (j:=j) (Q:=fun r s'=>r=w/\EP X pins σ Q r s') pl (by omega) (by omega) (by rw[qi,<- hl];exact h1) (by simpa using ew) ⟨rfl,fin⟩) hs
theorem zfz:IxR X zgn:=by
 intro value slice pins s σ H x y v u Q I rx ry h hs
 obtain⟨z,i,c,rfl,rfl,hz,he,q⟩:=h
 obtain⟨t,rfl⟩:=rx
 obtain⟨t',rfl⟩:=ry
 obtain⟨j,h1,h2,h3,h4,h5⟩:=Xl he
 have hl:z.cps.toList.length=z.length:=by simp[Str.length]
 rw[hl] at h1 h4 h5
 have hn:=Qj
 exact tail_any (typeIs_str s z t) slot_str_getitem.lookup (getItem_str (c:=c) (by
  have e1:decide (i< -(2^63:Int))=false:=jS (by omega)
  have e2:decide (i≥2^63)=false:=jS (by omega)
  rw[e1,e2,Bool.or_false]) (by rw[h1];simpa using h2) ⟨.str ⟨#[c]⟩,H,I.tok _,⟨_,rfl⟩,q⟩) hs
theorem Wt(its:List Value)(n j:Nat)(u:Value):Obj.mapSeq (·.setIfInBounds j u) { cls:=.type "list",data:=.seq its.toArray n }={ cls:=.type "list",data:=.seq (its.set j u).toArray n }:=by
 simp[Obj.mapSeq]
theorem Inv.lst{pins:List (Addr×Obj)}{σ:St}{H:Hp}{s:Shared}{p:Addr}{xs:List V}(I:Inv X pins σ H s)(h:H p=some (.lst xs)) :
  ∃(its:List Value) (n:Nat),Vals xs its/\s.heap.get? p=some { cls:=.type "list",data:=.seq its.toArray n }/\xs.length<=sizeLine:=by
 obtain⟨z,its,n,r,e⟩:=I.hok p _ h
 exact⟨its,n,r,e,z⟩
theorem Inv.lstUpd{pins:List (Addr×Obj)}{σ:St}{H:Hp}{s:Shared}{p:Addr}{xs ys:List V}{its its':List Value}{n n':Nat}{f:Obj->Obj}(I:Inv X pins σ H s)(h:H p=some (.lst xs))
  (ho:s.heap.get? p=some { cls:=.type "list",data:=.seq its.toArray n }) (hf:f { cls:=.type "list",data:=.seq its.toArray n }={ cls:=.type "list",data:=.seq its'.toArray n' }) (r:Vals ys its') (hz:ys.length<=sizeLine) (t:Nat) :
  Inv X pins σ (upd H p (.lst ys)) { s with heap:=s.heap.update p f,toks:=t }:=by
 have e:(s.heap.update p f).get? p=some { cls:=.type "list",data:=.seq its'.toArray n' }:=by
  rw[QX f ho (by rw[hf]<;>rfl),hf]
 refine I.write (x:=p) (e:=p) (by rw[h];trivial) (.inl rfl) (fun b u hb q=>(WY _ _ (qz hb)).trans q) ⟨_,e⟩ ?_
 exact⟨hz,its',n',r,e⟩
inductive zew(o:V)(i:V)(v:V)(H:Hp)(Q:Hp->Prop):Prop
 | mk (p xs k j:_) (_:o=.ref p) (_:i=.int k) (_:H p=some (.lst xs)) (_:ixN xs.length k=some j) (_:Q (upd H p (.lst (xs.set j v)))):zew  o i v H Q
theorem xh:zgX X zew:=by
 intro pins s σ H o i v ov iv u Q I ro ri rv h
 obtain⟨p,xs,k,j,rfl,rfl,hp,hj,q⟩:=h
 cases ro
 obtain⟨t,rfl⟩:=ri
 obtain⟨its,n,r,ho,hz⟩:=I.lst hp
 obtain⟨h1,h2,h3,h4⟩:=ZZ hj
 have hl:=r.length
 have hn:=Qj
 have I':Inv X pins σ (upd H p (.lst (xs.set j v))) { s with heap:=s.heap.update p (Obj.mapSeq (·.setIfInBounds j u)) }:=
  I.lstUpd hp ho (Wt its n j u) (r.set rv j) (by rw[w8];exact hz) s.toks
 by_cases h0:0<=k
 ·have hk:k.toNat=j:=by
   rw[seqIndex_of h0 h4] at h1
   exact jK h1
  exact PySem.W.ki_setAt ho h0 (by omega) (by rw[qi,<- hl];exact h4) (by rw[hk];exact⟨_,I',q⟩)
 ·have hk:(k+(its.toArray.size:Int)).toNat=j:=by
   rw[seqIndex_neg (by omega) h3] at h1
   rw[qi,<- hl]
   exact jK h1
  exact PySem.W.ki_setBack ho (by omega) (by rw[qi,<- hl];exact h3) (by omega) (by rw[hk];exact⟨_,I',q⟩)
theorem JX(lo hi:Option Int)(n:Nat):(sliceBounds lo hi none n).1=((HT.sIx n 0 lo:Nat):Int)/\(sliceBounds lo hi none n).2.1=((HT.sIx n n hi:Nat):Int)/\(sliceBounds lo hi none n).2.2=1:=by
 refine⟨?_,?_,rfl⟩
 ·cases lo with
  | none=>simp[sliceBounds,HT.sIx]
  | some i=>
   simp only[sliceBounds,HT.sIx,Option.getD_none,show(1:Int)>0 by decide,if_true]
   by_cases h:i<0
   ·simp only[h,if_true]<;>omega
   ·simp only[h,if_false]<;>omega
 ·cases hi with
  | none=>simp[sliceBounds,HT.sIx]
  | some i=>
   simp only[sliceBounds,HT.sIx,Option.getD_none,show(1:Int)>0 by decide,if_true]
   by_cases h:i<0
   ·simp only[h,if_true]<;>omega
   ·simp only[h,if_false]<;>omega
theorem Q8(its:List Value)(lo hi:Option Int):slicePick its.toArray lo hi none=((its.drop (HT.sIx its.length 0 lo)).take (HT.sIx its.length its.length hi-HT.sIx its.length 0 lo)).toArray:=by
 obtain⟨h1,h2,h3⟩:=JX lo hi its.toArray.size
 unfold slicePick
 rw[h1,h2,h3]
 simp only[sliceRange_one,pick_run,qi]<;>rfl
inductive zgl(K:PySem.W.Frag)(x:V)(lo:Option Int)(hi:Option Int)(H:Hp)(Q:VK):Prop
 | mk (a xs:_) (_:x=.ref a) (_:SqL K H a xs) (_:∀p,H p=none->Q (.ref p) (upd H p (.lst (jN xs lo hi)))):zgl K x lo hi H Q
theorem ZX:SlR X (zgl X.K):=by
 intro pins s σ H x v vl vu lo hi sl Q I rx hs pl pu h
 obtain⟨a,xs,rfl,hx,q⟩:=h
 cases rx
 obtain⟨its,r,ht,hz⟩:=I.list hx
 have hlen:=r.length
 refine⟨"list",_,slot_list_getitem.lookup,ht.isList.typeIs,?_⟩
 refine wpAny_getItem_list_slice ht.isList hs pl pu .none (by simp) ?_ (by rw[qi]<;>omega)
 rw[Q8,<- hlen]
 refine⟨.ref s.heap.objs.size,_,I.laid (t':=s.toks) (o:=.lst (jN xs lo hi)) (fun b ob q=>qA _ q) (zG _) ?_,rfl,q _ (I.hok.fresh (zG _))⟩
 exact⟨jj (ZF xs lo hi) hz,_,0,(r.drop (HT.sIx xs.length 0 lo)).take (HT.sIx xs.length xs.length hi-HT.sIx xs.length 0 lo),qC _ rfl⟩
def jQ:V->Bool
 | .non=>true
 | .bl _=>true
 | .int _=>true
 | .str _=>true
 | _=>false
def eqV:V->V->Bool
 | .non,.non=>true
 | .bl a,.bl b=>a==b
 | .bl a,.int b=>(if a then 1 else 0)==b
 | .int a,.bl b=>a==(if b then 1 else 0)
 | .int a,.int b=>a==b
 | .str a,.str b=>a==b
 | _,_=>false
theorem Wz{A:Around}{s:Shared}{y x:V}{u v:Value}(ry:RelV y u)(rx:RelV x v)(fy:jQ y=true)(fx:jQ x=true):SeqAt.EqAt A s u v (eqV y x):=by
 cases y with
 | non=>
  cases ry
  cases x with
  | non=>cases rx;exact WI _
  | bl b=>cases rx;exact SeqAt.EqAt.none_bool b
  | int b=>obtain⟨t,rfl⟩:=rx;exact SeqAt.EqAt.none_int b t
  | str b=>obtain⟨t,rfl⟩:=rx;exact SeqAt.EqAt.none_str b t
  | _=>exact absurd (show false=true from fx) qm
 | bl a=>
  cases ry
  cases x with
  | non=>cases rx;exact SeqAt.EqAt.bool_none a
  | bl b=>cases rx;exact SeqAt.EqAt.bool_bool a b
  | int b=>obtain⟨t,rfl⟩:=rx;exact SeqAt.EqAt.bool_int a b t
  | str b=>obtain⟨t,rfl⟩:=rx;exact SeqAt.EqAt.bool_str a b t
  | _=>exact absurd (show false=true from fx) qm
 | int a=>
  obtain⟨t',rfl⟩:=ry
  cases x with
  | non=>cases rx;exact SeqAt.EqAt.int_none a t'
  | bl b=>cases rx;exact SeqAt.EqAt.int_bool a t' b
  | int b=>obtain⟨t,rfl⟩:=rx;exact SeqAt.EqAt.int_int a t' b t
  | str b=>obtain⟨t,rfl⟩:=rx;exact SeqAt.EqAt.int_str a t' b t
  | _=>exact absurd (show false=true from fx) qm
 | str a=>
  obtain⟨t',rfl⟩:=ry
  cases x with
  | non=>cases rx;exact SeqAt.EqAt.str_none a t'
  | bl b=>cases rx;exact SeqAt.EqAt.str_bool a t' b
  | int b=>obtain⟨t,rfl⟩:=rx;exact SeqAt.EqAt.str_int a t' b t
  | str b=>obtain⟨t,rfl⟩:=rx;exact SeqAt.EqAt.str_str a t' b t
  | _=>exact absurd (show false=true from fx) qm
 | _=>exact absurd (show false=true from fy) qm
def eqU(x:V)(u:Value):Bool:=match u with
 | .none=>eqV .non x
 | .bool b=>eqV (.bl b) x
 | .int i _=>eqV (.int i) x
 | .str z _=>eqV (.str z) x
 | _=>false
theorem zcx{x y:V}{u:Value}(r:RelV y u)(f:jQ y=true):eqU x u=eqV y x:=by
 cases y with
 | non=>cases r;rfl
 | bl b=>cases r;rfl
 | int i=>obtain⟨t,rfl⟩:=r;rfl
 | str z=>obtain⟨t,rfl⟩:=r;rfl
 | _=>exact absurd (show false=true from f) qm
theorem y4{x:V}:∀{xs:List V} {us:List Value},Vals xs us->xs.all jQ=true->us.any (eqU x)=xs.any fun y=>eqV y x
 | _,_,.nil,_=>rfl
 | y::xs,u::us,.cons r t,f=>by
  rw[List.all_cons,jk] at f
  rw[w4,w4,zcx r f.1,y4 t f.2]
theorem we{A:Around}{s:Shared}{x:V}{v:Value}(rx:RelV x v)(fx:jQ x=true):∀{xs:List V} {us:List Value},Vals xs us->xs.all jQ=true->∀u∈us,SeqAt.EqAt A s u v (eqU x u)
 | _,_,.nil,_=>fun u hu=>by cases hu
 | y::xs,u::us,.cons r t,f=>fun u' hu=>by
  rw[List.all_cons,jk] at f
  rcases zS.mp hu with rfl | hu
  ·rw[zcx r f.1];exact Wz r rx f.1 fx
  ·exact we rx fx t f.2 u' hu
def inV(x:V)(xs:List V):Bool:=xs.any fun y=>eqV y x
inductive rIn(K:PySem.W.Frag)(neg:Bool)(x:V)(y:V)(H:Hp)(Q:VK):Prop
 | mk (p xs:_) (_:y=.ref p) (_:(SqL K H p xs\/SqT K H p xs)) (_:jQ x=true) (_:xs.all jQ=true) (_:Q (.bl (if neg then !inV x xs else inV x xs)) H):rIn K neg x y H Q
theorem wD:OpR X (compareOp .In) (rIn X.K false):=by
 intro pins s σ H x y v u Q I rx ry h
 obtain⟨p,xs,rfl,hq,fx,fs,q⟩:=h
 cases ry
 rcases hq with hq | hq
 ·obtain⟨its,r,pl,hz⟩:=I.list hq
  refine SeqAt.in_listAt (eqU x) pl.isList (fun w hw=>we rx fx r fs w (by simpa using hw)) ⟨.bl _,H,I,rfl,?_⟩
  rw[show its.toArray.any (eqU x)=its.any (eqU x) by simp,y4 r fs]
  exact q
 ·obtain⟨its,r,pl,hz⟩:=I.tuple hq
  refine SeqAt.in_tupleAt (eqU x) pl (fun w hw=>we rx fx r fs w (by simpa using hw)) ⟨.bl _,H,I,rfl,?_⟩
  rw[show its.toArray.any (eqU x)=its.any (eqU x) by simp,y4 r fs]
  exact q
theorem yK:OpR X (compareOp .NotIn) (rIn X.K true):=by
 intro pins s σ H x y v u Q I rx ry h
 obtain⟨p,xs,rfl,hq,fx,fs,q⟩:=h
 cases ry
 rcases hq with hq | hq
 ·obtain⟨its,r,pl,hz⟩:=I.list hq
  refine SeqAt.notIn_listAt (eqU x) pl.isList (fun w hw=>we rx fx r fs w (by simpa using hw)) ⟨.bl _,H,I,rfl,?_⟩
  rw[show its.toArray.any (eqU x)=its.any (eqU x) by simp,y4 r fs]
  exact q
 ·obtain⟨its,r,pl,hz⟩:=I.tuple hq
  refine SeqAt.notIn_tupleAt (eqU x) pl (fun w hw=>we rx fx r fs w (by simpa using hw)) ⟨.bl _,H,I,rfl,?_⟩
  rw[show its.toArray.any (eqU x)=its.any (eqU x) by simp,y4 r fs]
  exact q
inductive x6(K:PySem.W.Frag)(xs:List V)(H:Hp)(Q:VK):Prop
 | mk (p ys:_) (_:xs=[.ref p]) (_:(SqL K H p ys\/SqT K H p ys)) (_:Q (.int ys.length) H):x6 K xs H Q
theorem zw:CallR X (.builtin "len") (x6 X.K):=by
 intro pins s σ H xs us Q I r h
 obtain⟨p,ys,rfl,hq,q⟩:=h
 obtain⟨u,rfl,rx⟩:=vM r
 cases rx
 have hn:=Qj
 rcases hq with hq | hq
 ·obtain⟨its,r',pl,hz⟩:=I.list hq
  have hlen:=r'.length
  exact Calls.call_len_list pl.isList (by simp only[qi]<;>omega) ⟨.int ys.length,H,I.tok _,⟨s.toks+1,by rw[qi,hlen]⟩,q⟩
 ·obtain⟨its,r',pl,hz⟩:=I.tuple hq
  have hlen:=r'.length
  exact len_tuple pl (by simp only[qi]<;>omega) ⟨.int ys.length,H,I.tok _,⟨s.toks+1,by rw[qi,hlen]⟩,q⟩
theorem CallR.or{f:Value}{r r':List V->Hp->VK->Prop}(h:CallR X f r)(h':CallR X f r'):CallR X f (fun xs H Q=>r xs H Q\/r' xs H Q):=by
 intro pins s σ H xs us Q I rs q
 rcases q with q | q
 ·exact h pins s σ H xs us Q I rs q
 ·exact h' pins s σ H xs us Q I rs q
inductive wz(K:PySem.W.Frag)(xs:List V)(H:Hp)(Q:VK):Prop
 | mk (p ys:_) (_:xs=[.ref p]) (_:(SqL K H p ys\/SqT K H p ys)) (_:∀l,H l=none->Q (.ref l) (upd H l (.lst ys))):wz K xs H Q
theorem yW:CallR X (.type "list") (wz X.K):=by
 intro pins s σ H xs us Q I r h
 obtain⟨p,ys,rfl,hq,q⟩:=h
 obtain⟨u,rfl,rx⟩:=vM r
 cases rx
 have fin:∀(its:List Value),Vals ys its->ys.length<=sizeLine->∀(h':Heap) (c':Nat),(∀b o',s.heap.get? b=some o'->h'.get? b=some o') ->
   h'.get? s.heap.objs.size=some { cls:=.type "list",dict:=none,data:=.seq its.toArray c',slots:=#[] }->EP X pins σ Q (.ref s.heap.objs.size) { s with heap:=h' }:=fun its r' hz h' c' kp e=>
  ⟨.ref s.heap.objs.size,_,I.laid (t':=s.toks) kp (zG _) (show ObjOk X.prog X.w _ h' _ (.lst ys) from ⟨hz,its,c',r',e⟩),rfl,q _ (I.hok.fresh (zG _))⟩
 rcases hq with hq | hq
 ·obtain⟨its,r',pl,hz⟩:=I.list hq
  have hlen:=r'.length
  obtain⟨o,ho,hc,n,hd⟩:=pl.isList
  exact call_list_seq p (.inl rfl) ho hc hd (fun h' c' kp e=>fin its r' hz h' c' kp e) (by simp only[qi]<;>omega)
 ·obtain⟨its,r',pl,hz⟩:=I.tuple hq
  have hlen:=r'.length
  obtain⟨o,ho,hc,n,hd⟩:=pl
  exact call_list_seq p (.inr rfl) ho hc hd (fun h' c' kp e=>fin its r' hz h' c' kp e) (by simp only[qi]<;>omega)
inductive vQ(K:PySem.W.Frag)(xs:List V)(H:Hp)(Q:VK):Prop
 | mk (p ys:_) (_:xs=[.ref p]) (_:((SqL K H p ys/\∀l,H l=none->Q (.ref l) (upd H l (.tup ys)))\/(SqT K H p ys/\Q (.ref p) H))):vQ K xs H Q
theorem jY:CallR X (.type "tuple") (vQ X.K):=by
 intro pins s σ H xs us Q I r h
 obtain⟨p,ys,rfl,h⟩:=h
 obtain⟨u,rfl,rx⟩:=vM r
 cases rx
 rcases h with ⟨hq,q⟩ | ⟨hq,q⟩
 ·obtain⟨its,r',pl,hz⟩:=I.list hq
  have hlen:=r'.length
  refine call_tuple_list pl.isList (fun h' kp=>?_) (by simp only[qi]<;>omega)
  have I1:Inv X pins σ H { s with heap:=h' }:=I.kept (t':=s.toks) kp
  have I2:Inv X pins σ (upd H h'.objs.size (.tup ys)) { s with heap:=h'.push { cls:=.type "tuple",data:=.seq its.toArray } }:=
   I1.laid (t':=s.toks) (fun b o e=>qA _ e) (zG _) (show ObjOk X.prog X.w _ _ _ (.tup ys) from ⟨hz,its,r',⟨QM _ _,_,qC _ rfl,rfl⟩⟩)
  exact⟨.ref h'.objs.size,_,I2,rfl,q _ (I1.hok.fresh (zG _))⟩
 ·obtain⟨its,r',pl,hz⟩:=I.tuple hq
  exact call_tuple_same pl ⟨.ref p,H,I,rfl,q⟩
def tyV(K:PySem.W.Frag)(T:String)(x:V)(H:Hp):Prop:=match x with
 | .str _=>T = "str"
 | .int _=>T = "int"
 | .ref p=>(T = "list" /\ ∃xs,SqL K H p xs)\/(T = "tuple" /\ ∃o,K.lookup p=some o/\o.cls=.type "tuple" /\ o.dict=none) \/
   (T = "dict" /\ ((∃kvs,H p=some (.dK kvs))\/∃kvs,H p=some (.dT kvs)))\/(T = "set" /\ ∃S n,H p=some (.set S n))
 | _=>False
theorem zbf{pins:List (Addr×Obj)}{σ:St}{H:Hp}{s:Shared}{T:String}{x:V}{v:Value}(I:Inv X pins σ H s)(r:RelV x v)(ty:tyV X.K T x H) :
  s.TypeIs v T/\∀a,v=.ref a->∃ob,s.heap.get? a=some ob/\ob.dict=none:=by
 cases x with
 | str z=>
  obtain⟨t,rfl⟩:=r
  cases(show T = "str" from ty)
  exact⟨typeIs_str s z t,fun _ e=>nomatch e⟩
 | int i=>
  obtain⟨t,rfl⟩:=r
  cases(show T = "int" from ty)
  exact⟨typeIs_int s i t,fun _ e=>nomatch e⟩
 | ref p=>
  cases r
  rcases ty with ⟨rfl,xs,hq⟩ | ⟨rfl,o,hk,hc,hd⟩ | ⟨rfl,hk⟩ | ⟨rfl,S,n,hk⟩
  ·obtain⟨its,_,pl,_⟩:=I.list hq
   refine⟨pl.isList.typeIs,fun a e=>?_⟩
   cases e
   obtain⟨o,n,e,c,hd,_⟩:=pl
   exact⟨o,e,hd⟩
  ·refine⟨⟨o,I.kIn p o hk,hc⟩,fun a e=>?_⟩
   cases e
   exact⟨o,I.kIn _ o hk,hd⟩
  ·have z:∃o,s.heap.get? p=some o/\o.ExactDict:=by
    rcases hk with ⟨kvs,hk⟩ | ⟨kvs,hk⟩
    ·obtain⟨_,_,_,_,o,_,_,e,ex,_⟩:=I.hok p _ hk
     exact⟨o,e,ex⟩
    ·obtain⟨_,_,_,_,o,_,_,e,ex,_⟩:=I.hok p _ hk
     exact⟨o,e,ex⟩
   obtain⟨o,e,ex⟩:=z
   refine⟨⟨o,e,ex.1⟩,fun a e2=>?_⟩
   cases e2
   exact⟨o,e,ex.2.1⟩
  ·obtain⟨o,_,_,_,e,ex,_⟩:=I.hok p _ hk
   refine⟨⟨o,e,ex.1⟩,fun a e2=>?_⟩
   cases e2
   exact⟨o,e,ex.2.1⟩
 | _=>exact False.elim ty
def zhh(K:PySem.W.Frag)(T:String)(r:V->List V->Hp->VK->Prop)(to:TE):TE:=fun σ H Q=>to σ H fun x H1=>tyV K T x H1/\r x [] H1 Q
def tBM(K:PySem.W.Frag)(T:String)(r:V->List V->Hp->VK->Prop)(to:TE)(t:TA):TE:=fun σ H Q=>to σ H fun x H1=>tyV K T x H1/\t σ H1 fun xs H2=>r x xs H2 Q
variable{o e:Expr}{es:List Expr}{to:TE}{t:TA}{name:Str}{apos cpos:Pos}{T id:String}{r:V->List V->Hp->VK->Prop}
theorem zff(pa:PlainAttrs T)(slot:Slot T name id)(hty:typeOf (.builtin id)=pure (.type "method_descriptor"))(hm:MtR X id r)(ho:PE X o to)
  (hbase:attributeBase o name X.env (eval o X.env)=eval o X.env:=by rfl) (hline:(apos.endLine==cpos.line)=true:=by rfl):PE X (.Call (.Attribute o name apos) [] [] cpos) (zhh X.K T r to):=by
 intro pins s σ H Q I h
 refine wpAny_Call_method0_late hbase hline (thn (ho pins s σ H _ I h) fun v s1 ⟨x,H1,I1,r1,ty,q1⟩=>?_)
 obtain⟨h1,h2⟩:=zbf I1 r1 ty
 exact⟨T,id,pa,slot,hty,h1,h2,VY rfl (PySem.evalArgs_none (hm pins s1 σ H1 x [] v [] Q I1 r1 .nil q1))⟩
theorem qZ(pa:PlainAttrs T)(slot:Slot T name id)(hty:typeOf (.builtin id)=pure (.type "method_descriptor"))(hm:MtR X id r)(ho:PE X o to)(ha:PA X (e::es) t)
  (hbase:attributeBase o name X.env (eval o X.env)=eval o X.env:=by rfl)
  (hfew:((backTo cpos (starEach (e::es) X.env)).all (fun x=>!x.1)&&(backToKw cpos (keywordEach [] X.env)).all (fun x=>x.1.isSome)
   && decide ((e::es).length+([]:List Keyword).length+(if([]:List Keyword).isEmpty then 0 else 1)<30))=true:=by rfl)
  (hline:(apos.endLine==cpos.line)=true:=by rfl) (hs:starEach (e::es) X.env=(false,eval e X.env)::starEach es X.env:=by rfl) (hplain:(backTo cpos (starEach es X.env)).any (·.1)=false:=by rfl) :
  PE X (.Call (.Attribute o name apos) (e::es) [] cpos) (tBM X.K T r to t):=by
 intro pins s σ H Q I h
 refine wpAny_Call_method_late hbase hfew hline rfl (thn (ho pins s σ H _ I h) fun v s1 ⟨x,H1,I1,r1,ty,q1⟩=>?_)
 obtain⟨h1,h2⟩:=zbf I1 r1 ty
 refine⟨T,id,pa,slot,hty,h1,h2,?_⟩
 have hA:=ha cpos pins s1 σ H1 _ I1 q1
 rw[hs] at hA ⊢
 refine VY (by show(false||(backTo cpos (starEach es X.env)).any (·.1))=false;rw[hplain]<;>rfl) (XF ?_)
 exact thn hA fun us s2 ⟨vs,H2,I2,r2,q2⟩=>hm pins s2 σ H2 x vs v us Q I2 r1 r2 q2
end
def MtM(X:Cx)(id:String)(r:V->List V->Hp->VK->Prop):Prop:=
 ∀(pins:List (Addr×Obj)) (s:Shared) (σ:St) (H:Hp) (x:V) (xs:List V) (v:Value) (us:List Value) (Q:VK),Inv X pins σ H s->RelV x v->Vals xs us->r x xs H Q ->
  wpAny (model X.prog X.w) X.A (call (.builtin id) (v::us)) (EP X pins σ Q) X.xe s
theorem Vals.one:∀{x:V} {us:List Value},Vals [x] us->∃u,us=[u]/\RelV x u
 | _,_,.cons r .nil=>⟨_,rfl,r⟩
theorem Vals.two:∀{x y:V} {us:List Value},Vals [x,y] us->∃u v,us=[u,v]/\RelV x u/\RelV y v
 | _,_,_,.cons r (.cons q .nil)=>⟨_,_,rfl,r,q⟩
theorem Vals.zero:∀{us:List Value},Vals [] us->us=[]
 | _,.nil=>rfl
theorem Vals.dropLast{xs:List V}{us:List Value}(h:Vals xs us):Vals xs.dropLast us.dropLast:=by
 induction h with
 | nil=>exact .nil
 | cons r t ih=>
  cases t with
  | nil=>exact .nil
  | cons q t'=>exact .cons r ih
theorem Vals.eraseIdx:∀{xs:List V} {us:List Value} (i:Nat),Vals xs us->Vals (xs.eraseIdx i) (us.eraseIdx i)
 | _,_,_,.nil=>.nil
 | _,_,0,.cons _ t=>t
 | _,_,i+1,.cons r t=>.cons r (Vals.eraseIdx i t)
theorem Vals.reverse{xs:List V}{us:List Value}(h:Vals xs us):Vals xs.reverse us.reverse:=by
 induction h with
 | nil=>exact .nil
 | cons r t ih=>rw[XA,XA];exact Vals.append ih (.cons r .nil)
theorem Vals.rep{xs:List V}{us:List Value}(h:Vals xs us):∀k:Nat,Vals (List.replicate k xs).flatten (List.replicate k us).flatten
 | 0=>.nil
 | k+1=>by
  rw[QU,QU,Xz,Xz]
  exact Vals.append h (Vals.rep h k)
theorem Jv{α:Type}:∀(l:List α) (i:Nat),(l.eraseIdx i).length<=l.length
 | [],_=>zG _
 | _::_,0=>vL _
 | _::r,i+1=>Nat.succ_le_succ (Jv r i)
theorem JC(its:List Value):∀(k:Nat) (acc:List Value),
  List.foldl (fun x1 x2=>x1++x2) acc.toArray (List.replicate k its.toArray)=(acc++(List.replicate k its).flatten).toArray
 | 0,acc=>by simp
 | k+1,acc=>by
  have e:acc.toArray++its.toArray=(acc++its).toArray:=by simp
  have e2:(acc++its)++(List.replicate k its).flatten=acc++(List.replicate (k+1) its).flatten:=by
   rw[QU,Xz,jm]
  rw[<- e2,<- JC its k (acc++its),<- e,QU,Xu]
section
variable{X:Cx}{pins:List (Addr×Obj)}{σ:St}{H:Hp}{s:Shared}{l b:Addr}{xs ys zs:List V}
theorem Inv.lset{its its':List Value}{n:Nat}{f:Array Value->Array Value}{t':Nat}(I:Inv X pins σ H s)(hH:H l=some (.lst xs))
  (e:s.heap.get? l=some { cls:=.type "list",data:=.seq its.toArray n }) (hf:f its.toArray=its'.toArray) (hv:Vals ys its') (hz:ys.length<=sizeLine) :
  Inv X pins σ (upd H l (.lst ys)) { s with heap:=s.heap.update l (Obj.mapSeq f),toks:=t' }:=by
 have q:=PySem.IsL.update e f
 rw[hf] at q
 refine I.write (x:=l) (e:=l) (by rw[hH];exact trivial) (.inl rfl) (fun b' u hb hu=>(WY s.heap (Obj.mapSeq f) (qz hb)).trans hu) ⟨_,q⟩ ?_
 exact⟨hz,its',_,hv,q⟩
theorem Inv.lnew{its:List Value}{t':Nat}(I:Inv X pins σ H s)(hv:Vals ys its)(hz:ys.length<=sizeLine) :
  Inv X pins σ (upd H s.heap.objs.size (.lst ys)) { s with heap:=s.heap.push { cls:=.type "list",data:=.seq its.toArray },toks:=t' }:=
 I.laid (fun _ _ q=>qA _ q) (zG _) ⟨hz,its,0,hv,qC _ rfl⟩
theorem Inv.fresh(I:Inv X pins σ H s):H s.heap.objs.size=none:=I.hok.fresh (zG _)
theorem Inv.lstM(I:Inv X pins σ H s)(hH:H l=some (.lst xs)):xs.length<=sizeLine/\∃(its:List Value) (n:Nat),Vals xs its/\xs.length=its.length/\s.heap.get? l=some { cls:=.type "list",data:=.seq its.toArray n }:=by
 obtain⟨z,its,n,r,e⟩:=I.hok l _ hH
 exact⟨z,its,n,r,r.length,e⟩
theorem Vq{n:Nat}(h:n<=sizeLine):Builtin.List.listTooLong n=false:=by
 unfold Builtin.List.listTooLong
 exact jS (by omega)
end
section
variable{X:Cx}
inductive YJ(x:V)(vs:List V)(H:Hp)(Q:VK):Prop
 | mk (l xs y:_) (_:x=.ref l) (_:vs=[y]) (_:H l=some (.lst xs)) (_:xs.length<sizeLine) (_:Q .non (upd H l (.lst (xs++[y])))):YJ  x vs H Q
theorem zV:MtM X "list.append" YJ:=by
 intro pins s σ H x vs v us Q I rx rv h
 obtain⟨l,xs,y,rfl,rfl,hH,hz,q⟩:=h
 cases rx
 obtain⟨u,rfl,ru⟩:=rv.one
 obtain⟨z,its,n,r,hl,e⟩:=I.lstM hH
 refine call_meets F.slot_list_append ⟨_,e,rfl⟩ F.entry_list_append (F.args_list_append_2 _ _) (PySem.list_append l its.toArray n u (by rw[qi];omega)) ⟨e,?_⟩
 refine⟨.non,_,I.lset (its':=its++[u]) hH e (by simp) (r.append (.cons ru .nil)) ?_,rfl,q⟩
 rw[zW,List.length_singleton]
 omega
inductive YI(x:V)(vs:List V)(H:Hp)(Q:VK):Prop
 | mk (l b xs zs:_) (_:x=.ref l) (_:vs=[.ref b]) (_:H l=some (.lst xs)) (_:H b=some (.lst zs)) (_:xs.length+zs.length<=sizeLine) (_:Q .non (upd H l (.lst (xs++zs)))):YI  x vs H Q
theorem zaJ:MtM X "list.extend" YI:=by
 intro pins s σ H x vs v us Q I rx rv h
 obtain⟨l,b,xs,zs,rfl,rfl,hH,hB,hz,q⟩:=h
 cases rx
 obtain⟨u,rfl,ru⟩:=rv.one
 cases ru
 obtain⟨z,its,n,r,hl,e⟩:=I.lstM hH
 obtain⟨z2,its2,n2,r2,hl2,e2⟩:=I.lstM hB
 have hsz:its.toArray.size+its2.toArray.size<=sizeLine:=by rw[qi,qi];omega
 have hlong:¬(!its.toArray.isEmpty&&Builtin.List.listTooLong (its.toArray.size+its2.toArray.size))=true:=by
  rw[Vq hsz,WG]
  exact qm
 refine call_meets F.slot_list_extend ⟨_,e,rfl⟩ F.entry_list_extend (F.args_list_extend_2 _ _)
  (AutoSeq1.list_extend_list_list_0 l its.toArray n b its2.toArray n2 hlong (by rw[qi];omega) (by omega)) ⟨e,e2,?_⟩
 refine⟨.non,_,I.lset (its':=its++its2) hH e (by simp) (r.append r2) ?_,rfl,q⟩
 rw[zW]
 omega
inductive zbP(x:V)(vs:List V)(H:Hp)(Q:VK):Prop
 | mk (l xs i k y:_) (_:x=.ref l) (_:vs=[.int i]) (_:H l=some (.lst xs)) (_:-(2^63)<=i) (_:i<2^63) (_:seqIndex? i xs.length=some k) (_:xs[k]? =some y) (_:Q y (upd H l (.lst (xs.eraseIdx k)))):zbP  x vs H Q
theorem Vu:MtM X "list.pop" zbP:=by
 intro pins s σ H x vs v us Q I rx rv h
 obtain⟨l,xs,i,k,y,rfl,rfl,hH,h1,h2,hk,hy,q⟩:=h
 cases rx
 obtain⟨u,rfl,ru⟩:=rv.one
 obtain⟨t,rfl⟩:=ru
 obtain⟨z,its,n,r,hl,e⟩:=I.lstM hH
 obtain⟨w,hw,rw'⟩:=r.get hy
 refine call_meets F.slot_list_pop ⟨_,e,rfl⟩ F.entry_list_pop (F.args_list_pop_2 _ _)
  (MeetsSeq.list_pop_at l its.toArray n i t k w (fitsIndex_both h1 h2) (by rw[qi,<- hl];exact hk) (by rw[<- JQ];exact hw) (by rw[qi];omega)) ⟨e,?_⟩
 refine⟨y,_,I.lset (its':=its.eraseIdx k) hH e ?_ (r.eraseIdx k) ?_,rw',q⟩
 ·show its.toArray.eraseIdxIfInBounds k=(its.eraseIdx k).toArray
  rw[List.eraseIdxIfInBounds_toArray]
 ·have:=Jv xs k
  omega
inductive Vj(x:V)(vs:List V)(H:Hp)(Q:VK):Prop
 | mk (l xs:_) (_:x=.ref l) (_:vs=[]) (_:H l=some (.lst xs)) (_:Q .non (upd H l (.lst xs.reverse))):Vj  x vs H Q
theorem Wq:MtM X "list.reverse" Vj:=by
 intro pins s σ H x vs v us Q I rx rv h
 obtain⟨l,xs,rfl,rfl,hH,q⟩:=h
 cases rx
 have hus:=rv.zero
 subst hus
 obtain⟨z,its,n,r,hl,e⟩:=I.lstM hH
 refine call_meets F.slot_list_reverse ⟨_,e,rfl⟩ F.entry_list_reverse (F.args_list_reverse_1 _) (AutoSeq1.list_reverse_list_0 l its.toArray n (by rw[qi];omega)) ⟨e,?_⟩
 refine⟨.non,_,I.lset (its':=its.reverse) hH e (by simp) r.reverse ?_,rfl,q⟩
 rw[QT]
 omega
inductive ze3(x:V)(y:V)(H:Hp)(Q:VK):Prop
 | mk (l b xs zs:_) (_:x=.ref l) (_:y=.ref b) (_:H l=some (.lst xs)) (_:H b=some (.lst zs)) (_:xs.length+zs.length<=sizeLine) (_:∀p,H p=none->Q (.ref p) (upd H p (.lst (xs++zs)))):ze3  x y H Q
theorem Zp:OpR X (binaryOp .Add) ze3:=by
 intro pins s σ H x y v u Q I rx ry h
 obtain⟨l,b,xs,zs,rfl,rfl,hH,hB,hz,q⟩:=h
 cases rx
 cases ry
 obtain⟨z,its,n,r,hl,e⟩:=I.lstM hH
 obtain⟨z2,its2,n2,r2,hl2,e2⟩:=I.lstM hB
 refine PySem.P.add_list e e2 ?_ (by rw[qi,qi];omega)
 have ea:its.toArray++its2.toArray=(its++its2).toArray:=by simp
 rw[ea]
 exact⟨.ref _,_,I.lnew (t':=s.toks) (r.append r2) (by rw[zW];omega),rfl,q _ I.fresh⟩
inductive zgm(x:V)(y:V)(H:Hp)(Q:VK):Prop
 | mk (l k xs:_) (_:x=.ref l) (_:y=.int k) (_:H l=some (.lst xs)) (_:-(2^63)<=k) (_:k<2^63) (_:xs.length*k.toNat<=sizeLine) (_:∀p,H p=none->Q (.ref p) (upd H p (.lst (List.replicate k.toNat xs).flatten))):zgm  x y H Q
theorem zdH{α:Type}(xs:List α)(k:Nat):(List.replicate k xs).flatten.length=k*xs.length:=by
 induction k with
 | zero=>simp
 | succ k ih=>rw[QU,Xz,zW,ih,Nat.succ_mul,Nat.add_comm]
theorem zfg:OpR X (binaryOp .Mult) zgm:=by
 intro pins s σ H x y v u Q I rx ry h
 obtain⟨l,k,xs,rfl,rfl,hH,h1,h2,hz,q⟩:=h
 cases rx
 obtain⟨t,rfl⟩:=ry
 obtain⟨z,its,n,r,hl,e⟩:=I.lstM hH
 have hlen:its.toArray.size*k.toNat<=sizeLine:=by rw[qi,<- hl];exact hz
 have hcap:¬its.toArray.size*k.toNat>(2^63-1)/8:=by
  have:(sizeLine:Nat)<=(2^63-1)/8:=by decide
  omega
 have hfit:¬(!Builtin.List.listFitsIndex k)=true:=by
  rw[fitsIndex_both h1 h2]
  exact qm
 have hlong:¬Builtin.List.listTooLong (its.toArray.size*k.toNat)=true:=by
  rw[Vq hlen]
  exact qm
 have hnew:List.foldl (fun x1 x2=>x1++x2) #[] (List.replicate (if its.toArray.isEmpty=true then 0 else k.toNat) its.toArray)=(List.replicate k.toNat its).flatten.toArray:=by
  have f0:∀m:Nat,List.foldl (fun x1 x2=>x1++x2) #[] (List.replicate m its.toArray)=(List.replicate m its).flatten.toArray:=fun m=>by
   have:=JC its m []
   rw[Xt] at this
   exact this
  rw[f0]
  cases its with
  | nil=>simp
  | cons a r'=>rw[zq (by simp)]
 refine wpAny_binaryOp_repeat_ref (T:= "list") (U:= "int") (by decide) ⟨_,e,rfl⟩ (fun s'=>typeIs_int s' k t) noFill_list_mul F.fills_int_mul F.slot_int_rmul repeat_list F.slot_int_index.lookup
  (call_meets F.slot_int_rmul (typeIs_int s k t) F.entry_int_rmul (F.args_int_rmul_2 _ _) (int___rmul___int_list k t l its.toArray n)
   ⟨e,rfl,⟨_,e,rfl⟩,call_meets F.slot_list_mul ⟨_,e,rfl⟩ F.entry_list_mul (F.args_list_mul_2 _ _) (AutoListH.list___mul___list_int_3 l its.toArray n k t hfit hcap hlong) ⟨e,?_⟩⟩)
 rw[hnew]
 exact⟨.ref _,_,I.lnew (t':=s.toks) (r.rep k.toNat) (by rw[zdH,Nat.mul_comm];exact hz),rfl,q _ I.fresh⟩
end
section
variable{prog:Program}{w:World}{A:Around}{E:Value->Shared->Prop}{s:Shared}
end
section
variable{X:Cx}
end
end L2
namespace Att
open PySem PySem.W PySem.Calls PyProof.Rows
theorem ZS{P:Params}{h:Heap}:∀(ns:List Int) (vs:List Value),WellAll P h vs (ns.map WData.int)->IntsAre vs ns:=by
 intro ns
 induction ns with
 | nil=>
  intro vs w
  rw[yu] at w
  cases w
  exact .nil
 | cons n ns ih=>
  intro vs w
  rw[jJ] at w
  cases w with
  | cons a b=>
   cases a
   exact .cons _ _ (ih _ b)
theorem zaC{l:OpenLaw}{n:Nat}(hn:l.most=some n){P:Params}{h:Heap}{args:List WData}{vals:List Value}
  (hpre:l.row.toRowW.claim.pre args=true) (hwl:WellAll P h vals args) :
  ∃a vs ns,vals=[Value.ref a]/\args=[WData.list (ns.map WData.int)]/\h.get? a=some { cls:=.type "list",data:=.seq vs.toArray }/\IntsAre vs ns/\ns.length<=n:=by
 have hsh:WShape.hasAll [] args [.list .int]=true:=(pre_splitW hpre).1
 have hc:l.pre.holds [] { args:=args }=true:=(pre_splitW hpre).2
 obtain⟨d,r,rfl,h1,h2⟩:=hasAllW_cons hsh
 obtain rfl:=hasAllW_nil h2
 obtain⟨xs,rfl,h3⟩:=hasW_list h1
 obtain⟨ns,rfl⟩:=items_int h3
 have hlen:ns.length<=n:=by
  unfold OpenLaw.pre at hc
  have h4:(WTm.not (.lt (.lit (.int (n:Int))) (.len (.arg 0)))).holds [] { args:=[.list (ns.map .int)] }=true:=by
   have h4:=(holds_andW hc).1
   rw[hn] at h4
   exact h4
  have h5:=condW_of h4 (w_not (w_lt w_lit (w_len_list (w_arg rfl))))
  rw[zp] at h5
  refine Nat.le_of_not_lt fun q=>?_
  have q':(n:Int)<((ns.length:Nat):Int):=by omega
  first
   | (rw[qv q'] at h5;exact absurd h5 (by decide))
   | (simp at h5;omega)
 cases hwl with
 | cons w1 w2=>
  cases w2
  cases w1 with
  | list ho hall=>exact⟨_,_,ns,rfl,rfl,ho,ZS ns _ hall,hlen⟩
theorem zaD(l:OpenLaw)(args:List WData):l.row.toRowW.claim.post args (.bool true) args=true:=
 postW_of (r:=l.row.toRowW) (X:=(true==true))
  (show WShape.has [] (.bool true) .bool=true by first| rfl | decide | simp[WShape.has,WShape.arms,WShape.armsAll])
  (show(WTm.eq .res (.lit (.bool true))).value [] { args:=args,res:=some (.bool true),after:=args }=some (.bool (true==true)) from w_eq_bool (w_res rfl) w_lit) rfl
theorem attach_call{l:OpenLaw}{n:Nat}{q:Program}{loose:List Str}{XP:(Str->Option Value)->Heap->Prop}{YP:World->Heap->Prop}{d:DefRec}
  (hn:l.most=some n) (hdf:d.params.defaults=[])
  (call:∀(w:World) (s₀ s₁:Shared) (mg mb:Str->Option Value) (fa:Addr) (o:Obj) (pm cd doc:Value) (a:Addr) (vs:List Value) (ns:List Int),
   Ground q loose [] XP w s₀ mg mb s₁.heap->YP w s₁.heap ->
   s₁.heap.get? fa=some o->o.data=.func (docDef d.name d.params d.body d.scope pm cd doc)->s₁.heap.CodeRec cd d.name->mg d.name=some (.ref fa) ->
   s₁.heap.get? a=some { cls:=.type "list",data:=.seq vs.toArray }->IntsAre vs ns->ns.length<=n->s₁.gens=#[] ->
   codeAny (model l.prog w) callerA (.call (.ref fa) ⟨[.ref a],[]⟩) (fun r s'=>r=.ok (.ret (.bool true))/\OldK s₁.heap s'.heap/\s'.os=s₁.os/\AllBare s'.gens) s₁) :
  WalkO q loose XP YP l.row.toRowW d [] (fun f vs=>PySem.call f vs):=by
 intro w s₀ s₁ mg mb G Y fa o pm cd doc dV kV ho hd hcd hD hmg hg args vals as hpre hlay hrd hwl hlo
 obtain rfl:dV=.none:=Dflts.none hD hdf
 obtain rfl:kV=.none:=Dflts.noKw hD
 obtain⟨a,vs,ns,rfl,rfl,hobj,hints,hlen⟩:=zaC hn hpre hwl
 refine enter_call (codeAny_mono (call w s₀ s₁ mg mb fa o pm cd doc a vs ns G Y ho (fd_plain hd) hcd hmg hobj hints hlen hg) fun r s' hq=>?_)
 obtain⟨rfl,h2,h3,h4⟩:=hq
 exact⟨.inl ⟨.bool true,.bool true,[],rfl,fun _=>rfl,.bool true,zaD l _,fun _=>⟨List.Pairwise.nil,fun _ hm=>(nomatch hm)⟩⟩,h2,h3,h4⟩
section
variable{prog:Program}{w:World}{A:Around}{E:Value->Shared->Prop}{s:Shared}{K:Frag}
def ledger(h:Heap)(L d:Addr):List (Addr×Obj):=(List.range h.objs.size).filterMap fun a=>if a=L\/a=d then none else(h.get? a).map fun o=>(a,o)
end
end Att
namespace L2
open PySem PySem.Spec PyProof.Rows
theorem Ja:∀{vs:List Value} {ns:List Int},IntsAre vs ns->Vals (ns.map V.int) vs
 | _,_,.nil=>.nil
 | _,_,.cons n t h=>.cons ⟨t,rfl⟩ (Ja h)
def zd9(H:Hp):Prop:=∀b,H b=none\/∃o xs,H b=some (.frz o (.lst xs))
theorem VC{P:Program}{w:World}{K:PySem.W.Frag}{mg mb:Str->Option Value}{CX:CXT}{k:Nat}{fa a:Addr}{fd:FuncData}{x:Str}{sp:Sp}{s₁:Shared}{vs:List Value}{ns:List Int}
  (KX:K.In s₁.heap) (hns:s₁.heap.Ns mainGlobals mg) (hb:s₁.heap.Ns builtinsNs mb) (hbb:∀x:Str,x ≠ "__name__" -> mb x=bootBuiltins x) (hlim:s₁.heap.NoLimit) (hg:s₁.gens=#[])
  (ha:s₁.heap.get? a=some { cls:=.type "list",data:=.seq vs.toArray }) (hi:IntsAre vs ns) (hl:ns.length<=sizeLine) (hr:Room k callerA)
  (F:∀base:Heap,K.In base->base.Ns mainGlobals mg->FnOk P w K mg base CX k fa fd [x] sp) (hbind:∀(s:Shared) (u:Value),BindsTo s fd ⟨[u],[]⟩ [(x,u)])
  (hsp:∀H:Hp,zd9 H->SqL K H a (ns.map V.int)->sp [.ref a] H (fun v _=>v=.bl true) fun _ _ _=>False)
  (hCX:∀H e s',CX [] H s₁ (fun _ _ _=>False) e s'->False) :
  codeAny (model P w) callerA (.call (.ref fa) ⟨[.ref a],[]⟩) (fun r s'=>r=.ok (.ret (.bool true))/\OldK s₁.heap s'.heap/\s'.os=s₁.os/\AllBare s'.gens) s₁:=by
 have rv:=Ja hi
 have lenV:=hi.length
 have core:∀H:Hp,zd9 H->SqL K H a (ns.map V.int)->HOk P w H s₁.heap->(∀b,H b≠none->b=a)->(H a≠none->K.lookup a=none) ->
   codeAny (model P w) callerA (.call (.ref fa) ⟨[.ref a],[]⟩) (fun r s'=>r=.ok (.ret (.bool true))/\OldK s₁.heap s'.heap/\s'.os=s₁.os/\AllBare s'.gens) s₁:=by
  intro H hO hS hok hA hK
  have base_of:∀{b:Addr} {o:Obj},s₁.heap.get? b=some o->H b=none->(Xd s₁.heap H).get? b=some o:=fun e n=>zco e n
  have noA:∀{b:Addr} {o:Obj} {es:Array DictEntry} {ep:Nat},s₁.heap.get? b=some o->o.data=.dict es ep->H b=none:=fun {b o es ep} e d=>by
   cases q:H b with
   | none=>rfl
   | some u=>
    have e':b=a:=hA b (by rw[q];simp)
    subst e'
    rw[ha] at e;cases e
    have d':Data.seq vs.toArray _=Data.dict es ep:=d
    cases d'
  have nsK:∀{b:Addr} {m:Str->Option Value},s₁.heap.Ns b m->(Xd s₁.heap H).Ns b m:=fun {b m} ⟨o,es,ep,e,d,r⟩=>⟨o,es,ep,base_of e (noA e d),d,r⟩
  have hKb:K.In (Xd s₁.heap H):=fun b o e=>base_of (KX b o e) (by
   cases q:H b with
   | none=>rfl
   | some u=>
    have e':b=a:=hA b (by rw[q];simp)
    subst e'
    rw[hK (by rw[q];simp)] at e;cases e)
  have hM:Mod K mg (Xd s₁.heap H):=⟨hKb,nsK hns,⟨mb,nsK hb,hbb⟩,let ⟨mc,h1,h2⟩:=hlim;⟨mc,nsK h1,h2⟩⟩
  have e0:Env0 P w K mg (Xd s₁.heap H) callerA [] s₁ H:=⟨rfl,hM,fun b o e=>zdD e,yr (zaR _ _),trivial,fun b hb=>absurd (show b∈([]:List Addr) from hb) (by simp),hok,.of_eq hg⟩
  refine codeAny_mono ((F _ hKb (nsK hns)).run callerA [] s₁ H ⟨[.ref a],[]⟩ [.ref a] [.ref a] _ _ hr e0 (hbind s₁ (.ref a)) (.cons rfl .nil) (hsp H hO hS)) fun r s' h=>?_
  cases r with
  | error e=>exact(hCX H e s' h).elim
  | ok fl=>
   cases fl with
   | next=>exact False.elim h
   | brk=>exact False.elim h
   | cont=>exact False.elim h
   | ret u=>
    obtain⟨v,H',os,bare,un,hok',r',q⟩:=h
    have q':v=.bl true:=q
    subst q'
    obtain rfl:u=Value.bool true:=r'
    refine⟨rfl,OldK.of_keep fun b o e=>?_,os,bare⟩
    cases q:H b with
    | none=>exact un.keep b o e q (by intro z;exact absurd (show b∈([]:List Addr) from z) (by simp)) (by simp)
    | some u=>
     rcases hO b with z | ⟨ob,xs,z⟩
     ·rw[q] at z;cases z
     ·have z2:=un.frzs b ob _ z
      obtain⟨e1,_⟩:=hok b _ z
      obtain⟨e2,_⟩:=hok' b _ z2
      rw[e] at e1;cases e1
      exact e2
 cases hk:K.lookup a with
 | some o=>
  have e:=KX a o hk
  rw[ha] at e
  cases e
  refine core (fun _=>none) (fun _=>.inl rfl) (.inr ⟨_,vs.toArray,_,hk,rfl,rfl,rfl,by rw[qi,lenV];exact hl,by simpa using rv⟩) (fun b u z=>by have z':(none:Option HO)=some u:=z;cases z') (fun b z=>absurd rfl z) fun z=>absurd rfl z
 | none=>
  refine core (fun b=>if b=a then some (.frz { cls:=.type "list",data:=.seq vs.toArray } (.lst (ns.map V.int))) else none) (fun b=>?_) (.inl (.inr ⟨{ cls:=.type "list",data:=.seq vs.toArray },zx rfl⟩)) (fun b u z=>?_) (fun b z=>?_) fun _=>hk
  ·by_cases hb:b=a
   ·exact .inr ⟨_,_,zx hb⟩
   ·exact .inl (zq hb)
  ·by_cases hb:b=a
   ·have z':=(zx hb).symm.trans z
    cases z'
    subst hb
    exact⟨ha,by rw[zp];exact hl,vs,_,rv,ha⟩
   ·have z':=(zq hb).symm.trans z
    cases z'
  ·by_cases hb:b=a
   ·exact hb
   ·exact absurd (zq hb) z
abbrev KOf{K:PySem.W.Frag}{h:Heap}(_:K.In h):PySem.W.Frag:=K
theorem walk_of{l:PySem.W.OpenLaw}{n k:Nat}{q:Program}{loose:List Str}{XP:(Str->Option Value)->Heap->Prop}{YP:World->Heap->Prop}{d:DefRec}{K:Params->PySem.W.Frag}{CX:World->CXT}{sp:World->Sp}{x:Str}
  (hn:l.most=some n) (hn2:n<=sizeLine) (hdf:d.params.defaults=[]) (hr:Room k callerA)
  (hY:∀(w:World) (h:Heap),YP w h->(K w.params).In h)
  (F:∀(w:World) (mg:Str->Option Value) (fa:Addr) (h:Heap),(K w.params).In h->h.Ns mainGlobals mg->mg d.name=some (.ref fa) ->
   ∃fd:FuncData,(∀(s:Shared) (u:Value),BindsTo s fd ⟨[u],[]⟩ [(x,u)]) /\
    ∀base:Heap,(K w.params).In base->base.Ns mainGlobals mg->FnOk l.prog w (K w.params) mg base (CX w) k fa fd [x] (sp w))
  (hsp:∀(w:World) (H:Hp) (a:Addr) (ns:List Int),ns.length<=n->zd9 H->SqL (K w.params) H a (ns.map V.int)->sp w [.ref a] H (fun v _=>v=.bl true) fun _ _ _=>False)
  (hCX:∀(w:World) (H:Hp) (s:Shared) (e:Value) (s':Shared),CX w [] H s (fun _ _ _=>False) e s'->False) :
  PySem.W.WalkO q loose XP YP l.row.toRowW d [] (fun f vs=>PySem.call f vs):=by
 refine Att.attach_call hn hdf fun w s₀ s₁ mg mb fa o pm cd doc a vs ns G Y ho hd hcd hmg hobj hints hlen hg=>?_
 have KX:=hY w _ Y
 obtain⟨fd,hb,hF⟩:=F w mg fa _ KX G.T.g hmg
 exact VC KX G.T.g G.T.b G.T.builtins G.T.nolimit hg hobj hints (jj hlen hn2) hr hF hb (fun H hO hS=>hsp w H a ns hlen hO hS) fun H e s'=>hCX w H s₁ e s'
def yT(s:Stmt):Arguments:=match s with
 | .FunctionDef _ a _ _ _ _ _ _ _ _=>a
 | _=>{ posonlyargs:=[],args:=[],vararg:=none,kwonlyargs:=[],kw_defaults:=[],kwarg:=none,defaults:=[] }
def vb(s:Stmt):List Stmt:=match s with
 | .FunctionDef _ _ b _ _ _ _ _ _ _=>b
 | _=>[]
def zu(s:Stmt):Scope:=match s with
 | .FunctionDef _ _ _ _ _ _ sc _ _ _=>sc
 | _=>{ kind:=.function,names:=[],isGenerator:=false,isCoroutine:=false }
abbrev CX0:CXT:=fun _ _ _ _ _ _=>False
abbrev E0:XK:=fun _ _ _=>False
theorem zgs{X:Cx}:W8 CX0 X E0:=fun _ _ _ _ _ _ _ h=>h.elim
structure Fun(K:PySem.W.Frag)(x qual:Str)(st:Stmt)(f:Addr)(fd:FuncData):Prop where
 ex:∃(oc:Value) (od:Option Addr) (kV doc pm:Value) (an:Option Addr) (cdv ct:Value) (osl:Array (Option Value)),
  fd=PySem.W.fnOf x qual (yT st) (vb st) (zu st) .none kV doc pm an cdv ct/\K.lookup f=some ⟨oc,od,.func fd,osl⟩/\PySem.W.codeIn K cdv qual=true
 kp:PySem.W.keepIn K (.ref f)=true
section
variable{P:Program}{w:World}{K:PySem.W.Frag}{mg:Str->Option Value}{base:Heap}
theorem Fun.ok{x qual:Str}{st:Stmt}{f:Addr}{fd:FuncData}{N ps:List Str}{k:Nat}{sp:Sp}(F:Fun K x qual st f fd)(S:zK N ps (zu st))(len:∀vs H Q E,sp vs H Q E->vs.length=ps.length)
  (hbody:∀(cdv:Value) (A:Around) (outer:List Env) (s:Shared) (H:Hp) (vs:List V) (Q:VK) (E:XK),Room k (A.deeper (envOfC qual (zu st) s.heap.objs.size f cdv))->sp vs H Q E ->
   ∃t,PSs (VP CX0 P w K mg base N qual (zu st) f cdv A outer s H E).nox (vb st) t/\t { nx:=fun _ H'=>Q .non H',rt:=Q } (ZB N vs) H):FnOk P w K mg base CX0 (k+1) f fd ps sp:=by
 obtain⟨oc,od,kV,doc,pm,an,cdv,ct,osl,rfl,lk,hcd⟩:=F.ex
 refine zgP lk hcd S len fun A outer s H vs Q E hr hsp=>?_
 obtain⟨t,h,q⟩:=hbody cdv A outer s H vs Q E hr hsp
 exact⟨t,h.nox,q⟩
theorem Fun.binds{x qual:Str}{st:Stmt}{f:Addr}{fd:FuncData}{ps:List Str}(F:Fun K x qual st f fd)
  (h:∀(kV doc pm:Value) (an:Option Addr) (cdv ct:Value) (us:List Value),us.length=ps.length->bindArgs (PySem.W.fnOf x qual (yT st) (vb st) (zu st) .none kV doc pm an cdv ct) ⟨us,[]⟩=pure (ps.zip us)):Binds K fd ps []:=by
 obtain⟨oc,od,kV,doc,pm,an,cdv,ct,osl,rfl,lk,hcd⟩:=F.ex
 exact .all (h kV doc pm an cdv ct)
end
theorem Qp{A:Around}{k:Nat}(hr:Room k A):A.units+1<cLine:=XB (Nat.add_le_add_left (by decide:1<=64) _) hr.units
theorem zaB{n:Nat}(h:n<=1000):n<sizeLine:=XB h (by decide)
section
variable{X:Cx}
theorem pv(i:Nat){x:Str}{pos:Pos}(hN:X.N[i]? =some x:=by rfl)(hv:Vis X.env.scope x:=by first| exact Or.inl rfl | exact Or.inr (Or.inl rfl) | exact Or.inr (Or.inr rfl))(hd:(x==("__debug__" : Str))=false:=by decide)
  (hcd:(x==("__classdict__" : Str))=false:=by decide):PE X (.Name x pos) (zeP i):=zfb hN hv hd hcd
end
theorem jD{c A B:Prop}[Decidable c](h1:c->A)(h2:¬c->B):if c then A else B:=by
 by_cases h:c
 ·rw[zx h]
  exact h1 h
 ·rw[zq h]
  exact h2 h
def Same(H H':Hp):Prop:=∀b o,H b=some o->H' b=some o
theorem Same.refl(H:Hp):Same H H:=fun _ _ h=>h
theorem Same.trans{H H1 H2:Hp}(a:Same H H1)(b:Same H1 H2):Same H H2:=fun c o h=>b c o (a c o h)
theorem Same.free{H H':Hp}(e:Same H H'){l:Addr}(h:H' l=Option.none):H l=Option.none:=by
 cases q:H l with
 | none=>rfl
 | some o=>
  rw[e l o q] at h
  cases h
theorem Same.seq{K:PySem.W.Frag}{H H':Hp}{a:Addr}{xs:List V}(e:Same H H')(h:SqL K H a xs):SqL K H' a xs:=by
 rcases h with(h | ⟨o,h⟩) | h
 ·exact .inl (.inl (e _ _ h))
 ·exact .inl (.inr ⟨o,e _ _ h⟩)
 ·exact .inr h
end L2
namespace L2
inductive Ex1{α1:Sort _}(P:α1->Prop):Prop
 | mk (a1:α1) (h:P a1):Ex1 P
inductive Ex2{α1:Sort _}{α2:Sort _}(P:α1->α2->Prop):Prop
 | mk (a1:α1) (a2:α2) (h:P a1 a2):Ex2 P
inductive Ex3{α1:Sort _}{α2:Sort _}{α3:Sort _}(P:α1->α2->α3->Prop):Prop
 | mk (a1:α1) (a2:α2) (a3:α3) (h:P a1 a2 a3):Ex3 P
inductive Ex4{α1:Sort _}{α2:Sort _}{α3:Sort _}{α4:Sort _}(P:α1->α2->α3->α4->Prop):Prop
 | mk (a1:α1) (a2:α2) (a3:α3) (a4:α4) (h:P a1 a2 a3 a4):Ex4 P
inductive Ex5{α1:Sort _}{α2:Sort _}{α3:Sort _}{α4:Sort _}{α5:Sort _}(P:α1->α2->α3->α4->α5->Prop):Prop
 | mk (a1:α1) (a2:α2) (a3:α3) (a4:α4) (a5:α5) (h:P a1 a2 a3 a4 a5):Ex5 P
inductive Ex6{α1:Sort _}{α2:Sort _}{α3:Sort _}{α4:Sort _}{α5:Sort _}{α6:Sort _}(P:α1->α2->α3->α4->α5->α6->Prop):Prop
 | mk (a1:α1) (a2:α2) (a3:α3) (a4:α4) (a5:α5) (a6:α6) (h:P a1 a2 a3 a4 a5 a6):Ex6 P
inductive zg3{α1:Sort _}{α2:Sort _}{α3:Sort _}{α4:Sort _}{α5:Sort _}{α6:Sort _}{α7:Sort _}{α8:Sort _}{α9:Sort _}{α10:Sort _}{α11:Sort _}(P:α1->α2->α3->α4->α5->α6->α7->α8->α9->α10->α11->Prop):Prop
 | mk (a1:α1) (a2:α2) (a3:α3) (a4:α4) (a5:α5) (a6:α6) (a7:α7) (a8:α8) (a9:α9) (a10:α10) (a11:α11) (h:P a1 a2 a3 a4 a5 a6 a7 a8 a9 a10 a11):zg3 P
inductive An2(A1 A2:Prop):Prop
 | mk (h1:A1) (h2:A2):An2 A1 A2
inductive An3(A1 A2 A3:Prop):Prop
 | mk (h1:A1) (h2:A2) (h3:A3):An3 A1 A2 A3
inductive An4(A1 A2 A3 A4:Prop):Prop
 | mk (h1:A1) (h2:A2) (h3:A3) (h4:A4):An4 A1 A2 A3 A4
inductive An5(A1 A2 A3 A4 A5:Prop):Prop
 | mk (h1:A1) (h2:A2) (h3:A3) (h4:A4) (h5:A5):An5 A1 A2 A3 A4 A5
inductive An6(A1 A2 A3 A4 A5 A6:Prop):Prop
 | mk (h1:A1) (h2:A2) (h3:A3) (h4:A4) (h5:A5) (h6:A6):An6 A1 A2 A3 A4 A5 A6
inductive An7(A1 A2 A3 A4 A5 A6 A7:Prop):Prop
 | mk (h1:A1) (h2:A2) (h3:A3) (h4:A4) (h5:A5) (h6:A6) (h7:A7):An7 A1 A2 A3 A4 A5 A6 A7
inductive An8(A1 A2 A3 A4 A5 A6 A7 A8:Prop):Prop
 | mk (h1:A1) (h2:A2) (h3:A3) (h4:A4) (h5:A5) (h6:A6) (h7:A7) (h8:A8):An8 A1 A2 A3 A4 A5 A6 A7 A8
inductive An9(A1 A2 A3 A4 A5 A6 A7 A8 A9:Prop):Prop
 | mk (h1:A1) (h2:A2) (h3:A3) (h4:A4) (h5:A5) (h6:A6) (h7:A7) (h8:A8) (h9:A9):An9 A1 A2 A3 A4 A5 A6 A7 A8 A9
inductive zg5(A1 A2 A3 A4 A5 A6 A7 A8 A9 A10:Prop):Prop
 | mk (h1:A1) (h2:A2) (h3:A3) (h4:A4) (h5:A5) (h6:A6) (h7:A7) (h8:A8) (h9:A9) (h10:A10):zg5 A1 A2 A3 A4 A5 A6 A7 A8 A9 A10
theorem zgH{α:Type _}{us:List α}(h:us.length=1):∃a0,us=[a0]:=
 match us,h with
 | [a0],_=>⟨a0,rfl⟩
theorem zgG{α:Type _}{us:List α}(h:us.length=2):∃a0 a1,us=[a0,a1]:=
 match us,h with
 | [a0,a1],_=>⟨a0,a1,rfl⟩
theorem zgF{α:Type _}{us:List α}(h:us.length=3):∃a0 a1 a2,us=[a0,a1,a2]:=
 match us,h with
 | [a0,a1,a2],_=>⟨a0,a1,a2,rfl⟩
theorem zgE{α:Type _}{us:List α}(h:us.length=4):∃a0 a1 a2 a3,us=[a0,a1,a2,a3]:=
 match us,h with
 | [a0,a1,a2,a3],_=>⟨a0,a1,a2,a3,rfl⟩
theorem zgD{α:Type _}{us:List α}(h:us.length=5):∃a0 a1 a2 a3 a4,us=[a0,a1,a2,a3,a4]:=
 match us,h with
 | [a0,a1,a2,a3,a4],_=>⟨a0,a1,a2,a3,a4,rfl⟩
theorem zgC{α:Type _}{us:List α}(h:us.length=6):∃a0 a1 a2 a3 a4 a5,us=[a0,a1,a2,a3,a4,a5]:=
 match us,h with
 | [a0,a1,a2,a3,a4,a5],_=>⟨a0,a1,a2,a3,a4,a5,rfl⟩
end L2
set_option maxHeartbeats 4000000
namespace L2
open PySem PySem.Spec PyProof.Rows
def jv(cs:List (Str×Addr)):List (Str×NameKind)->List (Str×Addr)->List (Str×Addr)
 | [],acc=>acc
 | (n,k)::r,acc=>jv cs r (if(k==NameKind.free)=true then(n,(cs.lookup n).getD 0)::acc else acc)
theorem zcF{env:Env}(names:List (Str×NameKind)):∀(acc:List (Str×Addr)),(∀y∈names,y.2=NameKind.free->∃c,env.cells.lookup y.1=some c) ->
  (forIn names acc fun(x:Str×NameKind) (cs:List (Str×Addr))=>
   (if(x.2==NameKind.free)=true then(cellOf env x.1 >>= fun a=>(pure (ForInStep.yield ((x.1,a)::cs)):Sem (ForInStep (List (Str×Addr))))) else pure (ForInStep.yield cs)))=(pure (jv env.cells names acc):Sem (List (Str×Addr))):=by
 induction names with
 | nil=>intro acc _;rfl
 | cons y r ih=>
  intro acc h
  obtain⟨n,k⟩:=y
  rw[Xr]
  by_cases hk:(k==NameKind.free)=true
  ·obtain⟨c,hc⟩:=h (n,k) qP (by simpa using hk)
   have e1:cellOf env n=pure c:=by
    unfold cellOf
    rw[show env.cells.lookup n=some c from hc]
   simp only[hk,if_true,e1,pure_bind]
   rw[ih _ fun z hz=>h z (qV _ hz)]
   show _=pure (jv env.cells r (if(k==NameKind.free)=true then(n,(env.cells.lookup n).getD 0)::acc else acc))
   rw[zx hk,show env.cells.lookup n=some c from hc]
   all_goals rfl
  ·simp only[hk,pure_bind]
   simp only[WP,if_false,pure_bind]
   rw[ih _ fun z hz=>h z (qV _ hz)]
   show _=pure (jv env.cells r (if(k==NameKind.free)=true then(n,(env.cells.lookup n).getD 0)::acc else acc))
   rw[zq hk]
theorem zad{env:Env}{scope:Scope}(h:∀y∈scope.names,y.2=NameKind.free->∃c,env.cells.lookup y.1=some c):closureFor scope env=pure (jv env.cells scope.names []):=by
 have e:=zcF (env:=env) scope.names [] h
 unfold closureFor
 refine Eq.trans ?_ (Eq.trans (congrArg (fun m=>m >>= fun cs=>(pure cs:Sem (List (Str×Addr)))) e) ?_)
 ·rfl
 ·simp
theorem vH{cs:List (Str×Addr)}{x:Str}:∀(names:List (Str×NameKind)) (acc:List (Str×Addr)),(jv cs names acc).lookup x=(if(names.any fun y=>y.2==NameKind.free&&x==y.1)=true then some ((cs.lookup x).getD 0) else acc.lookup x)
 | [],acc=>by simp[jv]
 | (n,k)::r,acc=>by
  unfold jv
  rw[vH r]
  by_cases hr:(r.any fun y=>y.2==NameKind.free&&x==y.1)=true
  ·rw[zx hr,zx (by rw[w4,hr,Bool.or_true])]
  ·rw[zq hr]
   by_cases hk:(k==NameKind.free)=true
   ·rw[zx hk]
    by_cases hx:(x==n)=true
    ·rw[zx (by rw[w4];simp only[hk,hx,Bool.and_self,Bool.true_or])]
     have e:x=n:=by simpa using hx
     subst e
     simp[jE]
    ·rw[zq (by rw[w4];simp only[hk,hx,WG,Xo];exact hr)]
     have hx':(x==n)=false:=by simpa using hx
     simp[jE,hx']
   ·rw[zq hk,zq (by rw[w4];simp only[hk,Bool.false_and,Xo];exact hr)]
abbrev qR(X:Cx)(N':List Str)(scope:Scope)(C:Addr)(s:Shared)(H:Hp)(ex:List Addr):Cx where
 prog:=X.prog
 w:=X.w
 K:=X.K
 mg:=X.mg
 base:=X.base
 A:=X.A
 N:=N'
 s₀:=s
 H₀:=H
 env:=compEnvC scope (jv X.env.cells scope.names []) C X.env
 outer:=X.stack
 stack:=X.stack
 ex:=ex
 fn:=fun _=>false
 calm:=X.calm
 pn:=[]
 xe:=fun _ _=>False
abbrev ZV(ifs:List Expr)(env:Env):Sem Bool:=
 forIn ifs true fun(c:Expr) (r:Bool)=>if r=true then(isTrue c env (eval c env) >>= fun ok=>(pure (ForInStep.yield ok):Sem (ForInStep Bool))) else pure (ForInStep.yield r)
theorem VW{prog:Program}{w:World}{A:Around}{R:Result->Shared->Prop}{s:Shared}{elt tg iter:Expr}{ifs:List Expr}{scope:Scope}{pos:Pos}{it acc:Value}{env:Env}(J:Nat->Shared->Prop)
  (turn:∀n s,J n s->wpAny (model prog w) A (pyNext it) (fun r s1=>match r with
   | none=>R (.ok .next) s1
   | some v=>wpAny (model prog w) A (letOwnedTupleGo tg it v) (fun _ s2=>wpAny (model prog w) A (assign tg env v) (fun _ s3=>
     wpAny (model prog w) A (ZV ifs env) (fun ok s4=>
      if ok=true then wpAny (model prog w) A (eval elt env) (fun x s5=>
       wpAny (model prog w) A (call (.builtin "list.append") [acc,x]) (fun _ s6=>∃m,m<n/\J m s6) (fun _ _=>False) s5) (fun _ _=>False) s4
      else ∃m,m<n/\J m s4) (fun _ _=>False) s3) (fun _ _=>False) s2) (fun _ _=>False) s1) (fun _ _=>False) s)
  (n:Nat) (h:J n s):codeAny (model prog w) A (.compLoop (.ListComp elt [⟨tg,iter,ifs,0⟩] scope pos) 0 it acc env) R s:=by
 have no:∀{α:Type} {t:Sem α} {Q:α->Shared->Prop} {E:Value->Shared->Prop} {s:Shared},wpAny (model prog w) A t Q (fun _ _=>False) s->wpAny (model prog w) A t Q E s:=fun x=>xp x (fun _ _ q=>q) fun _ _ q=>q.elim
 refine codeAny_loop rfl J (fun k u hJ=>?_) n h
 show wpAny _ A ((compTurn (.ListComp elt [⟨tg,iter,ifs,0⟩] scope pos) 0 it acc env).onRaise (fun x=>do noteFrame x env;theTreesLotGoes x)) _ _ u
 refine wpAny_noted ?_
 rw[compTurn_list]
 refine zn (Zx (zn (no (xp (turn k u hJ) (fun r s1 h1=>?_) fun _ _ q=>q))))
 cases r with
 | none=>exact zP h1
 | some v=>
  refine zn (no (xp h1 (fun _ s2 h2=>zn (no (xp h2 (fun _ s3 h3=>zn (no (xp h3 (fun ok s4 h4=>?_) fun _ _ q=>q))) fun _ _ q=>q))) fun _ _ q=>q))
  cases ok with
  | false=>exact zP ⟨rfl,h4⟩
  | true=>
   have h4':wpAny (model prog w) A (eval elt env) (fun x s5=>wpAny (model prog w) A (call (.builtin "list.append") [acc,x]) (fun _ s6=>∃m,m<k/\J m s6) (fun _ _=>False) s5) (fun _ _=>False) s4:=h4
   refine zn (zn (no (xp h4' (fun x s5 h5=>zn (no (xp h5 (fun _ s6 h6=>zP (zP ⟨rfl,h6⟩)) fun _ _ q=>q))) fun _ _ q=>q)))
def PF(X:Cx)(ifs:List Expr)(t:TT):Prop:=
 ∀(pins:List (Addr×Obj)) (s:Shared) (σ:St) (H:Hp) (Q:Bool->Hp->Prop),Inv X pins σ H s->t σ H Q->wpAny (model X.prog X.w) X.A (ZV ifs X.env) (TP X pins σ Q) X.xe s
def zgR:TT:=fun _ H Q=>Q true H
theorem jF{X:Cx}:PF X [] zgR:=fun pins s σ H Q I h=>zP ⟨H,I,h⟩
theorem vg{X:Cx}{c:Expr}{t:TT}(hc:PT X c t):PF X [c] t:=by
 intro pins s σ H Q I h
 unfold ZV
 simp only[Xr,WF,if_true]
 refine zn (zn (thn (hc pins s σ H Q I h) fun ok s1 q=>zP (zP q)))
theorem YZ{P:Program}{w:World}{H:Hp}{h h':Heap}{C:Addr}(x:HOk P w H h)(hn:H C=none)(k:∀b o,b≠C->h.get? b=some o->h'.get? b=some o):HOk P w H h':=fun b u e=>by
 refine(x b u e).stay (fun c v hc q=>k c v ?_ q) (fun _ q=>q) fun _ _ q=>q
 rcases hc with z | z
 ·rw[z];exact zj e hn
 ·exact zj z hn
theorem Jz{P:Program}{w:World}{H:Hp}{h:Heap}{a:Addr}{o:HO}(x:HOk P w H h)(hn:H a=none)(new:ObjOk P w (upd H a o) h a o):HOk P w (upd H a o) h:=fun b u e=>by
 by_cases hb:b=a
 ·subst hb;rw[zb] at e;cases e;exact new
 ·rw[zi hb] at e
  exact(x b u e).stay (fun c v _ q=>q) (fun c q=>by rw[zi (zj q hn)];exact q) fun c xs q=>by rw[zi (zj q hn)];exact q
theorem XY{fs ex:List Addr}{H H':Hp}{h h':Heap}{a:Addr}{o:HO}(u:Un fs ex H H' h h')(ha:a∈ex)(hn:H a=none):Un fs ex H (upd H' a o) h h' where
 keep:=u.keep
 slot:=u.slot
 free:=fun b ob q n hx=>by
  have hb:b≠a:=fun z=>hx (by rw[z];exact ha)
  rw[zi hb];exact u.free b ob q n hx
 there:=u.there
 tups:=fun b xs q=>by rw[zi (zj q hn)];exact u.tups b xs q
 frzs:=fun b ob v q=>by rw[zi (zj q hn)];exact u.frzs b ob v q
 tbls:=fun b ps q=>by rw[zi (zj q hn)];exact u.tbls b ps q
theorem zbe{fs ex:List Addr}{H H':Hp}{h h1 h2:Heap}{C:Addr}(u:Un fs ex H H' h h1)(hC:h.objs.size<=C)(k:∀b o,b≠C->h1.get? b=some o->h2.get? b=some o):Un fs ex H H' h h2 where
 keep:=fun b o q n hb hx=>k b o (qq (jU (zO q) hC)) (u.keep b o q n hb hx)
 slot:=fun b o q n hb hx=>let ⟨sl,e⟩:=u.slot b o q n hb hx;⟨sl,k b _ (qq (jU (zO q) hC)) e⟩
 free:=u.free
 there:=fun b o q hx=>let ⟨o',e⟩:=u.there b o q hx;⟨o',k b _ (qq (jU (zO q) hC)) e⟩
 tups:=u.tups
 frzs:=u.frzs
 tbls:=u.tbls
def QD(sn on:List (Str×NameKind))(N fr:List Str)(js:List Nat):Bool:=
 sn.all (fun y=>y.2 != .cell&&(y.2 != .local||sn.lookup y.1==some .local)&&(y.2 != .free||(on.lookup y.1==some .cell||on.lookup y.1==some .free)))&&fr.length==js.length
  && (fr.zip js).all fun p=>sn.lookup p.1==some .free&&N[p.2]? ==some p.1
structure zeJ(sn on:List (Str×NameKind))(N fr:List Str)(js:List Nat):Prop where
 cell:∀y∈sn,y.2≠NameKind.cell
 loc:∀y∈sn,y.2=NameKind.local->sn.lookup y.1=some .local
 free:∀y∈sn,y.2=NameKind.free->on.lookup y.1=some .cell\/on.lookup y.1=some .free
 len:fr.length=js.length
 fr:∀(k:Nat) (x:Str),fr[k]? =some x->sn.lookup x=some .free/\∃j:Nat,js[k]? =some j/\N[j]? =some x
theorem zcI{sn on:List (Str×NameKind)}{N fr:List Str}{js:List Nat}(h:QD sn on N fr js=true):zeJ sn on N fr js:=by
 unfold QD at h
 rw[jk,jk,xM,xM] at h
 obtain⟨⟨h1,h2⟩,h3⟩:=h
 have h2':fr.length=js.length:=by simpa using h2
 refine⟨fun y hy=>?_,fun y hy e=>?_,fun y hy e=>?_,h2',fun k x e=>?_⟩
 ·have:=h1 y hy
  simp only[jk,bne_iff_ne] at this
  exact this.1.1
 ·have:=h1 y hy
  simp only[jk,QO,bne_iff_ne,jZ] at this
  exact this.1.2.resolve_left fun z=>z e
 ·have:=h1 y hy
  simp only[jk,QO,bne_iff_ne,jZ] at this
  exact this.2.resolve_left fun z=>z e
 ·have hk:k<fr.length:=(zQ.mp e).1
  have hj:k<js.length:=by omega
  have hm:(x,js[k])∈fr.zip js:=by
   refine qG (i:=k) ?_
   rw[W3]
   exact⟨e,by simp[hj]⟩
  have:=h3 _ hm
  simp only[jk,jZ] at this
  exact⟨this.1,js[k],by simp[hj],this.2⟩
def upS(n:Nat)(js:List Nat)(σ:St):St:=List.replicate n none++js.map fun j=>(σ[j]?).join
def tLC(wi:TI)(n:Nat)(js:List Nat)(g:TG)(tf:TT)(te:TE):TE:=fun σ H Q=>wi σ H fun J H1=>
 ∃W:Nat->Nat->List V->Hp->Prop,(∃m,W 0 m [] H1)/\∀i m ys H2,W i m ys H2 ->
  (J.stop i H2/\ys.length<=sizeLine/\∀D,H2 D=none->Q (.ref D) (upd H2 D (.lst ys))) \/
  (J.go i H2/\∃N:List V->Hp->Prop,(∀zs H',N zs H'->∃m',m'<m/\W (i+1) m' zs H')/\∀x H3,J.yld i H2 x H3->g x (upS n js σ) H3 fun σ4 H4=>σ4.drop n=(upS n js σ).drop n/\tf σ4 H4 fun b H5=>
   if b=true then te σ4 H5 fun y H6=>ys.length<sizeLine/\N (ys++[y]) H6 else N ys H5)
theorem vV{env:Env}{x:Str}{k':NameKind}:∀{names:List (Str×NameKind)},(names.map fun(n,k)=>if(k==NameKind.free&&env.scope.kind==.function&&env.kindOf n==some .cell) then(n,NameKind.cell) else(n,k)).lookup x=some k' ->
  ∃k,names.lookup x=some k/\(k'=k\/(k=.free/\k'=.cell))
 | [],h=>by simp at h
 | (n,k)::r,h=>by
  by_cases hx:(x==n)=true
  ·refine⟨k,by simp[jE,hx],?_⟩
   have h:List.lookup x ((if(k==NameKind.free&&env.scope.kind==.function&&env.kindOf n==some .cell)=true then(n,NameKind.cell) else(n,k))::_)=some k':=h
   by_cases hc:(k==NameKind.free&&env.scope.kind==.function&&env.kindOf n==some .cell)=true
   ·rw[zx hc,jE,hx] at h
    simp only[jk,jZ] at hc
    exact .inr ⟨hc.1.1,(jK h).symm⟩
   ·rw[zq hc,jE,hx] at h
    exact .inl (jK h).symm
  ·have hx':(x==n)=false:=by simpa using hx
   have h:List.lookup x ((if(k==NameKind.free&&env.scope.kind==.function&&env.kindOf n==some .cell)=true then(n,NameKind.cell) else(n,k))::_)=some k':=h
   have h2:(r.map fun(n,k)=>if(k==NameKind.free&&env.scope.kind==.function&&env.kindOf n==some .cell) then(n,NameKind.cell) else(n,k)).lookup x=some k':=by
    by_cases hc:(k==NameKind.free&&env.scope.kind==.function&&env.kindOf n==some .cell)=true
    ·rw[zx hc,jE,hx'] at h;exact h
    ·rw[zq hc,jE,hx'] at h;exact h
   obtain⟨k0,e,z⟩:=vV h2
   exact⟨k0,by rw[jE,hx'];exact e,z⟩
theorem yh{env:Env}{x:Str}:∀{names:List (Str×NameKind)},names.lookup x=some .free->∃k',(names.map fun(n,k)=>if(k==NameKind.free&&env.scope.kind==.function&&env.kindOf n==some .cell) then(n,NameKind.cell) else(n,k)).lookup x=some k'/\(k'=.cell\/k'=.free)
 | [],h=>by simp at h
 | (n,k)::r,h=>by
  by_cases hx:(x==n)=true
  ·rw[jE,hx] at h
   cases(jK h)
   show ∃k',List.lookup x ((if(NameKind.free==NameKind.free&&env.scope.kind==.function&&env.kindOf n==some .cell)=true then(n,NameKind.cell) else(n,NameKind.free))::_)=some k'/\_
   by_cases hc:(NameKind.free==NameKind.free&&env.scope.kind==.function&&env.kindOf n==some .cell)=true
   ·rw[zx hc];exact⟨.cell,by simp[jE,hx],.inl rfl⟩
   ·rw[zq hc];exact⟨.free,by simp[jE,hx],.inr rfl⟩
  ·have hx':(x==n)=false:=by simpa using hx
   rw[jE,hx'] at h
   obtain⟨k',e,z⟩:=yh (env:=env) (names:=r) h
   refine⟨k',?_,z⟩
   show List.lookup x ((if(k==NameKind.free&&env.scope.kind==.function&&env.kindOf n==some .cell)=true then(n,NameKind.cell) else(n,k))::_)=some k'
   by_cases hc:(k==NameKind.free&&env.scope.kind==.function&&env.kindOf n==some .cell)=true
   ·rw[zx hc,jE,hx'];exact e
   ·rw[zq hc,jE,hx'];exact e
theorem qF{cs:List (Str×Addr)}{names:List (Str×NameKind)}{x:Str}{c:Addr}(h:(jv cs names []).lookup x=some c)(hf:∀y∈names,y.2=NameKind.free->∃c,cs.lookup y.1=some c):cs.lookup x=some c:=by
 rw[vH] at h
 by_cases hr:(names.any fun y=>y.2==NameKind.free&&x==y.1)=true
 ·rw[zx hr] at h
  obtain⟨y,hy,e⟩:=vO.mp hr
  simp only[jk,jZ] at e
  obtain⟨c',e'⟩:=hf y hy e.1
  rw[<- e.2] at e'
  rw[e'] at h ⊢
  exact h
 ·rw[zq hr] at h
  cases h
theorem wN{cs:List (Str×Addr)}{names:List (Str×NameKind)}{x:Str}(h:names.lookup x=some .free):(jv cs names []).lookup x=some ((cs.lookup x).getD 0):=by
 rw[vH,zx]
 exact vO.mpr ⟨(x,.free),yc h,by simp⟩
theorem yE{n:Nat}{js:List Nat}{σ:St}{i:Nat}{v:V}(h:(upS n js σ)[i]? =some (some v)):n<=i/\((upS n js σ).drop n)[i-n]? =some (some v)/\∃j:Nat,js[i-n]? =some j/\σ[j]? =some (some v):=by
 unfold upS at h ⊢
 by_cases hi:i<n
 ·rw[xt (by simpa using hi),List.getElem?_replicate] at h
  split at h<;>cases h
 ·have e:(List.replicate n (none:Option V)++js.map fun j=>(σ[j]?).join).drop n=js.map fun j=>(σ[j]?).join:=by
   rw[List.drop_append_of_le_length (by simp)];simp
  rw[xu (by simpa using hi),ZL] at h
  refine⟨by omega,by rw[e];exact h,?_⟩
  rw[qJ] at h
  cases ej:js[i-n]? with
  | none=>rw[ej] at h;cases h
  | some j=>
   rw[ej] at h
   have h:(σ[j]?).join=some v:=jK h
   refine⟨j,rfl,?_⟩
   cases eo:σ[j]? with
   | none=>rw[eo] at h;cases h
   | some o=>rw[eo] at h;exact congrArg some h
theorem Ye{n:Nat}{js:List Nat}{σ:St}:(upS n js σ).length=n+js.length:=by unfold upS;simp
section
variable{X:Cx}{elt tg iter:Expr}{ifs:List Expr}{scope:Scope}{pos:Pos}{wi:TI}{g:TG}{tf:TT}{te:TE}
theorem za5{pins:List (Addr×Obj)}{σ:St}{H:Hp}{s:Shared}{fp:List Addr}(own fr:List Str)(js:List Nat)(I:Inv X pins σ H s)(B:zeJ scope.names X.env.scope.names X.N fr js)(hk:scope.kind=.function)
  (f2:∀b∈fp,x8 X pins H b) (fl:∀b∈fp,b<s.heap.objs.size) {D C:Addr} (hD:D=s.heap.objs.size) {h3 h1:Heap} (e3:h3=s.heap.push { cls:=.type "list",dict:=none,data:=.seq ([]:List Value).toArray }) (hC:C=h3.objs.size)
  {m:Str->Option Value} (hns:h1.Ns C m) (k4:∀b o,h3.get? b=some o->h1.get? b=some o) {t4:Nat} :
  Inv (qR X (own++fr) scope C { s with heap:=h3 } H (D::fp)) [] (upS own.length js σ) H { s with heap:=h1,toks:=t4 }:=by
 have k3:∀b o,s.heap.get? b=some o->h3.get? b=some o:=fun b o e=>by rw[e3];exact qA _ e
 have I3:Inv X pins σ H { s with heap:=h3 }:=I.kept (t':=s.toks) k3
 have hz:h3.objs.size=s.heap.objs.size+1:=by rw[e3,xf]
 have hasF:∀y∈scope.names,y.2=NameKind.free->∃c,X.env.cells.lookup y.1=some c:=fun y hy e=>I.ok.has y.1 (B.free y hy e)
 have cellLt:∀x c,X.env.cells.lookup x=some c->c<s.heap.objs.size:=fun x c e=>by
  obtain⟨v,q⟩:=I.cell x c e
  exact q.lt
 refine⟨⟨I.ok.mod,hk,I.ok.glob,I.ok.blt,yr hC.symm,fun x y c e1 e2=>?_,fun x hx=>?_,fun x c hf=>(nomatch hf),fun hc=>I.ok.hd hc,I.ok.frames,.inl rfl,fun b hb=>?_,I3.bs,jj I.ok.bsz I3.sz,fun b o e hb=>?_,fun b hb hf=>?_,I3.stack,I3.stkFree⟩,
  rfl,I.bare,Un.kept k4,⟨m,hns,fun i x v e1 e2 e3'=>?_⟩,fun x c e=>?_,?_,fun x c e=>?_,fun p hp=>absurd (show p∈([]:List (Addr×Obj)) from hp) (by simp),I3.hok.kept k4,?_⟩
 ·exact I.ok.inj x y c (qF e1 hasF) (qF e2 hasF)
 ·obtain⟨k,e,z⟩:∃k,scope.names.lookup x=some k/\(k=.free):=by
   rcases hx with hx | hx
   ·obtain⟨k,e,z⟩:=vV hx
    rcases z with z | z
    ·subst z;exact absurd rfl (B.cell _ (yc e))
    ·exact⟨k,e,z.1⟩
   ·obtain⟨k,e,z⟩:=vV hx
    rcases z with z | z
    ·subst z;exact⟨_,e,rfl⟩
    ·exact⟨k,e,z.1⟩
  subst z
  exact⟨_,wN e⟩
 ·rcases zS.mp hb with z | hb
  ·subst z
   refine⟨by rw[hD,hC,hz];exact qq (QG _),fun x c e=>?_⟩
   have:=cellLt x c (qF e hasF)
   rw[hD];exact qq this
  ·refine⟨by rw[hC,hz];exact qq (y9 (fl b hb)),fun x c e=>?_⟩
   exact(f2 b hb).2.2.2.2.1 x c (qF e hasF)
 ·rcases zS.mp hb with z | hb
  ·have:=zO (I.bk b o e)
   rw[z,hD] at this
   exact vv _ this
  ·rcases(f2 b hb).2.2.2.1 with z | z
   ·exact I.ok.noex b o e z
   ·exact absurd (jU (zO (I.ok.bs b o e).1) z) (vv _)
 ·have hf':=zS.mp (I.stkSub b hf)
  rcases zS.mp hb with z | hb
  ·rcases hf' with y | y
   ·have:=I.lt
    rw[<- y,z,hD] at this
    exact vv _ this
   ·exact I.nofs (a:=b) (by rw[z,hD];exact zG _) y
  ·rcases hf' with y | y
   ·exact(f2 b hb).2.1 y
   ·exact(f2 b hb).2.2.1 y
 ·obtain⟨hn,_,j,ej,es⟩:=yE e2
  have ex:fr[i-own.length]? =some x:=by rw[xu hn] at e1;exact e1
  obtain⟨hfx,j',ej',eN⟩:=B.fr _ x ex
  have:j'=j:=by rw[ej] at ej';exact(jK ej').symm
  subst this
  have hkx:=B.free _ (yc hfx) rfl
  obtain⟨m0,_,hl⟩:=I.loc
  obtain⟨u,r,l⟩:=hl j' x v eN es (by rcases hkx with z | z;exact .inr (.inl z);exact .inr (.inr z))
  refine⟨u,r,.inr ?_⟩
  rcases l with ⟨kl,_⟩ | ⟨_,c,ec,o,eo,ed⟩
  ·have kl':X.env.scope.names.lookup x=some .local:=kl
   rcases hkx with z | z
   ·exact absurd (z.symm.trans kl') (by decide)
   ·exact absurd (z.symm.trans kl') (by decide)
  ·obtain⟨k',e',z⟩:=yh (env:=X.env) hfx
   have eq:(jv X.env.cells scope.names []).lookup x=some c:=by rw[wN hfx,ec];rfl
   refine⟨?_,c,eq,o,k4 c o (k3 c o eo),ed⟩
   rcases z with z | z
   ·subst z;exact .inl e'
   ·subst z;exact .inr e'
 ·obtain⟨v,o,eo,ed⟩:=I.cell x c (qF e hasF)
  exact⟨v,o,k4 c o (k3 c o eo),ed⟩
 ·exact I3.hok.fresh (yr hC.symm)
 ·exact I.freeC x c (qF e hasF)
 ·rw[Ye,<- B.len]
  show _=(own++fr).length
  rw[zW]
inductive LcJ(Y:Cx)(D:Addr)(tn:Nat->Heap->Prop)(fp:List Addr)(pins:List (Addr×Obj))(σ:St)(W:Nat->Nat->List V->Hp->Prop)(n:Nat)(s:Shared):Prop
 | mk (i:Nat) (ys:List V) (its:List Value) (H':Hp) (z:Nat) (_:Inv Y pins σ H' s) (_:tn i s.heap) (_:∀b∈fp,H' b=none) (_:H' D=none) (_:s.heap.get? D=some { cls:=.type "list",data:=.seq its.toArray z }) (_:Vals ys its) (_:W i n ys H'):LcJ Y D tn fp pins σ W n s
inductive LcE(Y:Cx)(D:Addr)(pins:List (Addr×Obj))(σ:St)(N:List V->Hp->Prop)(s:Shared):Prop
 | mk (ys:List V) (its:List Value) (H':Hp) (z:Nat) (_:Inv Y pins σ H' s) (_:H' D=none) (_:s.heap.get? D=some { cls:=.type "list",data:=.seq its.toArray z }) (_:Vals ys its) (_:N ys H'):LcE Y D pins σ N s
theorem zdJ{Y:Cx}{D it:Addr}{fp:List Addr}{tn:Nat->Heap->Prop}{J:It}{pins:List (Addr×Obj)}{σ4:St}{Kp:St->Prop}{W:Nat->Nat->List V->Hp->Prop}{N:List V->Hp->Prop}{n:Nat}{s5:Shared}
  (hc:Y.calm=true) (hx:Y.xe=fun _ _=>False) (hg:PG Y tg g) (hf:PF Y ifs tf) (he:PE Y elt te) (T:QZ Y.prog Y.w Y.K tg J fp it tn)
  (fD:∀H':Hp,H' D=none->x8 Y pins H' D) (f2:∀b∈fp,∀H':Hp,H' b=none->x8 Y pins H' b) (nD:∀b∈fp,D≠b) (bk:∀σ9 H' s',Inv Y pins σ9 H' s'->Kp σ9->Inv Y pins σ4 H' s')
  (turn:∀i m zs H7,W i m zs H7->(J.stop i H7/\N zs H7)\/(J.go i H7/\∃N2:List V->Hp->Prop,(∀zs H',N2 zs H'->∃m',m'<m/\W (i+1) m' zs H')/\∀x H8,J.yld i H7 x H8->g x σ4 H8 fun σ9 H9=>Kp σ9/\tf σ9 H9 fun b H10=>
    if b=true then te σ9 H10 fun y H11=>zs.length<sizeLine/\N2 (zs++[y]) H11 else N2 zs H10)) (j:LcJ Y D tn fp pins σ4 W n s5) :
  wpAny (model Y.prog Y.w) Y.A (pyNext (.ref it)) (fun r s1=>match r with
   | none=>LcE Y D pins σ4 N s1
   | some v=>wpAny (model Y.prog Y.w) Y.A (letOwnedTupleGo tg (.ref it) v) (fun _ s2=>wpAny (model Y.prog Y.w) Y.A (assign tg Y.env v) (fun _ s3=>
     wpAny (model Y.prog Y.w) Y.A (ZV ifs Y.env) (fun ok s4=>
      if ok=true then wpAny (model Y.prog Y.w) Y.A (eval elt Y.env) (fun x s5=>
       wpAny (model Y.prog Y.w) Y.A (call (.builtin "list.append") [.ref D,x]) (fun _ s6=>∃m,m<n/\LcJ Y D tn fp pins σ4 W m s6) (fun _ _=>False) s5) (fun _ _=>False) s4
      else ∃m,m<n/\LcJ Y D tn fp pins σ4 W m s4) (fun _ _=>False) s3) (fun _ _=>False) s2) (fun _ _=>False) s1) (fun _ _=>False) s5:=by
 unfold PG at hg;unfold PF at hf;unfold PE at he
 rw[hx] at hg hf he
 obtain⟨i,ys,its,H5,z5,I5,st5,fr5,hD5,ho5,rv5,w5⟩:=j
 have I5':=I5.pinned (fp:=[D]) (fun b hb=>by rw[qg.mp hb];exact fD _ hD5) (fun b hb=>by rw[qg.mp hb];exact⟨_,ho5,fun v q=>nomatch q⟩)
 have mD:(D,({ cls:=.type "list",data:=.seq its.toArray z5 }:Obj))∈pins++jf [D] s5.heap:=qH _ (jO (qg.mpr rfl) ho5)
 have fp5:∀{H':Hp},(∀b∈fp,H' b=none)->∀b∈fp,x8 Y (pins++jf [D] s5.heap) H' b:=fun hn b hb=>by
  obtain⟨a1,a2,a3,a4,a5,a6⟩:=f2 b hb _ (hn b hb)
  refine⟨a1,a2,a3,a4,a5,fun p hp=>?_⟩
  rcases zY.mp hp with q | q
  ·exact a6 p (ji _ q)
  ·rcases zY.mp q with q | q
   ·exact a6 p (qH _ q)
   ·rw[qg.mp (Zr q).1];exact nD b hb
 rcases turn i n ys H5 w5 with ⟨stop,q⟩ | ⟨go,N2,hN,step⟩
 ·refine thn (T.done Y rfl rfl rfl hc i _ s5 _ H5 _ I5' (fp5 fr5) st5 stop) fun r s6 ⟨hr,I6⟩=>?_
  subst hr
  obtain⟨o6,nD6,_⟩:=I6.pin (D,_) (qH _ mD)
  exact⟨ys,its,H5,z5,I6.unpinned,nD6,o6,rv5,q⟩
 ·refine thn (T.item Y rfl rfl rfl hc i _ s5 _ H5 _ I5' (fp5 fr5) st5 go) fun r s6 ⟨u,hr,h6⟩=>?_
  subst hr
  refine thn h6 fun _ s7 ⟨x,H7,I7,r7,y7,st7,fr7⟩=>?_
  refine thn (hg _ s7 _ H7 x u _ (I7.pinned (fp5 fr7) (T.obj _ _ st7)) r7 (step x H7 y7)) fun _ s8 ⟨σ8,H8,I8,hd8,q8⟩=>?_
  refine thn (hf _ s8 σ8 H8 _ I8 q8) fun ok s9 ⟨H9,I9,q9⟩=>?_
  have mD':=qH Y.pn (ji (jf fp s7.heap) mD)
  have mF:∀b∈fp,∀o,s7.heap.get? b=some o->(b,o)∈Y.pn++((pins++jf [D] s5.heap)++jf fp s7.heap):=fun b hb o e=>qH _ (qH _ (jO hb e))
  generalize hP:(pins++jf [D] s5.heap)++jf fp s7.heap=P at I9 mD' mF he
  have weak:∀{H':Hp} {s':Shared},Inv Y P σ8 H' s'->Inv Y pins σ4 H' s':=fun {H' s'} J=>by subst hP;exact bk _ _ _ (J.unpinned).unpinned hd8
  have frB:∀{H':Hp} {s':Shared},Inv Y P σ8 H' s'->∀b∈fp,H' b=none:=fun {H' s'} J b hb=>by
   obtain⟨o,e,_⟩:=T.obj _ _ st7 b hb
   exact(J.pin (b,o) (mF b hb o e)).2.1
  cases ok with
  | false=>
   obtain⟨m',hm,w'⟩:=hN _ _ (show N2 ys H9 by simpa using q9)
   obtain⟨o9,nD9,_⟩:=I9.pin (D,_) mD'
   exact⟨m',hm,i+1,ys,its,H9,z5,weak I9,T.keep _ _ _ st7 fun b hb o e=>(I9.pin (b,o) (mF b hb o e)).1,frB I9,nD9,o9,rv5,w'⟩
  | true=>
   refine thn (he _ s9 σ8 H9 (fun y H6=>ys.length<sizeLine/\N2 (ys++[y]) H6) I9 (by simpa using q9)) fun yv s10 ⟨y,H10,I10,r10,hlt,w10⟩=>?_
   obtain⟨m',hm,w'⟩:=hN _ _ w10
   obtain⟨o10,nD10,_⟩:=I10.pin (D,_) mD'
   refine wpAny_list_append_plain (l:=D) (items:=its.toArray) (hsz:=by rw[qi,<- rv5.length];exact yw hlt) ⟨_,o10⟩ fun h11 hl11 hs11=>?_
   obtain⟨z11,e11⟩:=hl11
   obtain⟨d0,d1,d2,d3,d4,d5⟩:=fD _ nD10
   refine⟨m',hm,i+1,ys++[y],its++[yv],H10,z11,?_,T.keep _ _ _ st7 fun b hb o e=>hs11.extBut b o (qz (nD b hb)) (I10.pin (b,o) (mF b hb o e)).1,frB I10,nD10,?_,rv5.append (.cons r10 .nil),w'⟩
   ·exact(weak I10).turned (t':=s10.toks) (it:=D) (fun b o hb e=>hs11.extBut b o hb e) nD10 d1 d3 d4 d5
   ·rw[e11];simp
theorem zeI{use:Option (Value->Sem Unit)}{Qx:Value->Shared->Prop}{cp:Pos}{rest:List Comprehension}{pins:List (Addr×Obj)}{s:Shared}{σ:St}{H:Hp}{Q:VK}{Tl:It->(Nat->Nat->List V->Hp->Prop)->Prop}(own fr:List Str)(js:List Nat)(hk:scope.kind=.function)(hb:QD scope.names X.env.scope.names X.N fr js=true)(hi:PI X tg iter wi)
  (hs:∀x,foldedSetIterable iter X.env x=pure x) (I:Inv X pins σ H s) (h:wi σ H fun J H1=>∃W:Nat->Nat->List V->Hp->Prop,(∃m,W 0 m [] H1)/\Tl J W)
  (loop:∀(C D it:Addr) (fp:List Addr) (tn:Nat->Heap->Prop) (J:It) (W:Nat->Nat->List V->Hp->Prop) (H2:Hp) (s3 s4:Shared) (m0:Nat) (R:Result->Shared->Prop),(∀b∈D::fp,∀H':Hp,H' b=none->x8 (qR X (own++fr) scope C s3 H2 (D::fp)) [] H' b)->(∀b∈fp,D≠b) ->
   QZ X.prog X.w X.K tg J fp it tn->Tl J W->LcJ (qR X (own++fr) scope C s3 H2 (D::fp)) D tn fp [] (upS own.length js σ) W m0 s4 ->
   (∀s6,LcE (qR X (own++fr) scope C s3 H2 (D::fp)) D [] (upS own.length js σ) (fun ys H5=>ys.length<=sizeLine/\∀D,H5 D=none->Q (.ref D) (upd H5 D (.lst ys))) s6->R (.ok .next) s6) ->
   codeAny (model X.prog X.w) X.A (.compLoop (.ListComp elt (⟨tg,iter,ifs,0⟩::rest) scope pos) 0 (.ref it) (.ref D) (compEnvC scope (jv X.env.cells scope.names []) C X.env)) R s4)
  (fin:∀(s6:Shared) (D C:Addr) (H6:Hp) (m:Str->Option Value),s6.heap.Ns C m->(∀h7:Heap,(∀b o,b≠C->s6.heap.get? b=some o->h7.get? b=some o)->Inv X pins σ H6 { s6 with heap:=h7 })->x8 X pins H6 C->Q (.ref D) H6->compPost (model X.prog X.w) X.A X.xe use Qx (.ref D) C (.ok .next) s6) :
  wpAny (model X.prog X.w) X.A (comprehension (.ListComp elt (⟨tg,iter,ifs,0⟩::rest) scope pos) scope X.env cp (newList []) false (eval iter X.env) use) Qx X.xe s:=by
 have B:=zcI hb
 have hasF:∀y∈scope.names,y.2=NameKind.free->∃c,X.env.cells.lookup y.1=some c:=fun y hy e=>I.ok.has y.1 (B.free y hy e)
 refine wpAny_comprehension_free rfl hs (zad hasF) hk (fun y hy e=>B.loc y hy e) (thn (hi pins s σ H _ I h) fun v s1 h1=>thn h1 fun itv s2 h2=>?_)
 obtain⟨it,fp,tn,J,H2,e,I2,T,st2,f2,W,⟨m0,w0⟩,tl⟩:=h2
 subst e
 have fl:∀b∈fp,b<s2.heap.objs.size:=fun b hb=>let ⟨o,e,_⟩:=T.obj _ _ st2 b hb;zO e
 refine xZ (wpAny_newFunctionEnv B.cell (by intro y hy;simp at hy) (fun h1 hns hsb=>?_) hk)
 dsimp only at hns hsb ⊢
 generalize e3:s2.heap.push { cls:=.type "list",dict:=none,data:=.seq ([]:List Value).toArray }=h3 at hns hsb ⊢
 have k3:∀b o,s2.heap.get? b=some o->h3.get? b=some o:=fun b o e=>by rw[<- e3];exact qA _ e
 have k4:∀b o,h3.get? b=some o->h1.get? b=some o:=fun b o e=>hsb.extBut b o (qq (zO e)) (qA _ e)
 have I4:Inv (qR X (own++fr) scope h3.objs.size { s2 with heap:=h3 } H2 (s2.heap.objs.size::fp)) [] (upS own.length js σ) H2 { s2 with heap:=h1,toks:=s2.toks+([]:List (Str×Value)).length }:=
  za5 own fr js I2 B hk f2 fl rfl e3.symm rfl hns k4
 have I3:Inv X pins σ H2 { s2 with heap:=h3 }:=I2.kept (t':=s2.toks) k3
 have hz:h3.objs.size=s2.heap.objs.size+1:=by rw[<- e3,xf]
 have hDl:s2.heap.objs.size≠h3.objs.size:=by rw[hz];exact qq (QG _)
 have hacc:h1.get? s2.heap.objs.size=some { cls:=.type "list",data:=.seq ([]:List Value).toArray }:=k4 _ _ (by rw[<- e3];exact qC _ rfl)
 have fpC:=(I3.fpOk (b:=h3.objs.size) (zG _) (I3.hok.fresh (zG _))).2
 have dN:H2 s2.heap.objs.size=none:=I2.hok.fresh (zG _)
 have dO:=I2.fpOk (b:=s2.heap.objs.size) (zG _) dN
 have fD:∀b∈fp,s2.heap.objs.size≠b:=fun b hb=>xY (fl b hb)
 generalize s2.heap.objs.size=D at *
 generalize eC:h3.objs.size=C at *
 have hx:∀b,x8 X pins H2 b->∀x c,(jv X.env.cells scope.names []).lookup x=some c->c≠b:=fun b hb x c e=>hb.2.2.2.2.1 x c (qF e hasF)
 have nfs:∀b∈D::fp,b∉frs X.stack:=I4.ok.exfs
 have nC:∀b∈D::fp,b≠C:=fun b hb=>by
  rcases zS.mp hb with z | hb
  ·rw[z];exact hDl
  ·exact(I4.ok.exf b (qV _ hb)).1
 have all:∀b∈D::fp,x8 X pins H2 b:=fun b hb=>by
  rcases zS.mp hb with z | hb
  ·rw[z];exact dO
  ·exact f2 b hb
 have fpB:∀b∈D::fp,∀H':Hp,H' b=none->x8 (qR X (own++fr) scope C { s2 with heap:=h3 } H2 (D::fp)) [] H' b:=fun b hb H' hn=>
  ⟨hn,nC b hb,nfs b hb,.inl hb,fun x c e=>hx b (all b hb) x c e,fun p h=>absurd h (by simp)⟩
 have go:∀s4:Shared,s4={ s2 with heap:=h1,toks:=s2.toks+([]:List (Str×Value)).length } ->
   codeAny (model X.prog X.w) X.A (.compLoop (.ListComp elt (⟨tg,iter,ifs,0⟩::rest) scope pos) 0 (.ref it) (.ref D) (compEnvC scope (jv X.env.cells scope.names []) C X.env)) (compPost (model X.prog X.w) X.A X.xe use Qx (.ref D) C) s4:=by
  intro s4 e4
  subst e4
  refine loop C D it fp tn J W H2 _ _ m0 _ fpB fD T tl ⟨0,[],[],H2,0,I4,T.keep _ _ _ st2 fun b hb o e=>k4 b o (k3 b o e),fun b hb=>(f2 b hb).1,dN,hacc,.nil,w0⟩ fun s6 h6=>?_
  obtain⟨ys,its,H5,z5,I6,nD6,o6,rv5,hlen,q⟩:=h6
  obtain⟨m6,hn6,_⟩:=I6.loc
  have hC0:upd H5 D (.lst ys) C=none:=by rw[zi (qz hDl)];exact I6.free
  refine fin s6 D C (upd H5 D (.lst ys)) m6 hn6 (fun h7 k7=>?_) ⟨hC0,fpC⟩ (q D nD6)
  refine I3.call' (s':={ s6 with heap:=h7 }) (ch:=D::fp) I6.os (XY (zbe I6.base (yr eC) k7) qP dN) (Jz (YZ I6.hok I6.free k7) nD6 ⟨hlen,its,z5,rv5,k7 D _ hDl o6⟩) I6.bare fun b hb=>?_
  obtain⟨_,g1,_,g3,g4,g5⟩:=all b hb
  exact⟨g3,g1,g4,g5⟩
 exact codeAny_compStart_list (go _ rfl) (T.self X.A 0 _ _ _ (T.keep _ _ _ st2 fun b hb o e=>k4 b o (k3 b o e)) (go _ rfl))
theorem zbd{Y:Cx}{pins:List (Addr×Obj)}{n:Nat}{js:List Nat}{σ σ9:St}{H':Hp}{s':Shared}(hl:(upS n js σ).length=Y.N.length)(J:Inv Y pins σ9 H' s')(hd:σ9.drop n=(upS n js σ).drop n):Inv Y pins (upS n js σ) H' s':=by
 refine J.weak (hl.trans J.len.symm) fun k v e=>?_
 obtain⟨hn,e1,_⟩:=yE e
 rw[<- hd,WO] at e1
 rw[<- e1]
 congr 1
 omega
theorem YU{C D it:Addr}{fp:List Addr}{tn:Nat->Heap->Prop}{J:It}{W:Nat->Nat->List V->Hp->Prop}{H2:Hp}{s3 s4:Shared}{m0 n:Nat}{R:Result->Shared->Prop}{js:List Nat}{σ:St}{N':List Str}{N:List V->Hp->Prop}(hc:X.calm=true)
  (hg:∀C s H ex,PG (qR X N' scope C s H ex) tg g) (hf:∀C s H ex,PF (qR X N' scope C s H ex) ifs tf) (he:∀C s H ex,PE (qR X N' scope C s H ex) elt te) (fpB:∀b∈D::fp,∀H':Hp,H' b=none->x8 (qR X N' scope C s3 H2 (D::fp)) [] H' b) (fD:∀b∈fp,D≠b) (T:QZ X.prog X.w X.K tg J fp it tn)
  (turn:∀i m zs H7,W i m zs H7->(J.stop i H7/\N zs H7)\/(J.go i H7/\∃N2:List V->Hp->Prop,(∀zs H',N2 zs H'->∃m',m'<m/\W (i+1) m' zs H')/\∀x H8,J.yld i H7 x H8->g x (upS n js σ) H8 fun σ9 H9=>σ9.drop n=(upS n js σ).drop n/\tf σ9 H9 fun b H10=>
    if b=true then te σ9 H10 fun y H11=>zs.length<sizeLine/\N2 (zs++[y]) H11 else N2 zs H10))
  (j:LcJ (qR X N' scope C s3 H2 (D::fp)) D tn fp [] (upS n js σ) W m0 s4) (fin:∀s6,LcE (qR X N' scope C s3 H2 (D::fp)) D [] (upS n js σ) N s6->R (.ok .next) s6) :
  codeAny (model X.prog X.w) X.A (.compLoop (.ListComp elt [⟨tg,iter,ifs,0⟩] scope pos) 0 (.ref it) (.ref D) (compEnvC scope (jv X.env.cells scope.names []) C X.env)) R s4:=by
 have hl:=(let ⟨_,_,_,_,_,I,_,_,_,_,_,_⟩:=j;I.len:(upS n js σ).length=N'.length)
 refine VW (LcJ (qR X N' scope C s3 H2 (D::fp)) D tn fp [] (upS n js σ) W) (fun k s5 j=>xp (zdJ (Y:=qR X N' scope C s3 H2 (D::fp)) hc rfl (hg _ _ _ _) (hf _ _ _ _) (he _ _ _ _) T (fpB D qP) (fun b hb=>fpB b (qV _ hb)) fD (fun σ9 H' s' J hd=>zbd hl J hd) turn j) (fun r s6 h6=>?_) fun _ _ q=>q) m0 j
 cases r with
 | some v=>exact h6
 | none=>exact fin s6 h6
theorem zeB(own fr:List Str)(js:List Nat)(hc:X.calm=true)(hk:scope.kind=.function)(hb:QD scope.names X.env.scope.names X.N fr js=true)(hi:PI X tg iter wi)
  (hg:∀C s H ex,PG (qR X (own++fr) scope C s H ex) tg g) (hf:∀C s H ex,PF (qR X (own++fr) scope C s H ex) ifs tf) (he:∀C s H ex,PE (qR X (own++fr) scope C s H ex) elt te)
  (hs:∀x,foldedSetIterable iter X.env x=pure x:=by intro _;rfl):PE X (.ListComp elt [⟨tg,iter,ifs,0⟩] scope pos) (tLC wi own.length js g tf te):=by
 intro pins s σ H Q I h
 rw[eval_ListComp]
 exact zeI (rest:=[]) own fr js hk hb hi hs I h (fun C D it fp tn J W H2 s3 s4 m0 R a b T tl j fin=>YU hc hg hf he a b T tl j fin) fun s6 D C H6 m hn all _ q=>⟨m,hn,fun h7 hs7=>⟨.ref D,H6,all h7 fun b o hb e=>hs7.extBut b o hb e,rfl,q⟩⟩
end
section
variable{X:Cx}{pins:List (Addr×Obj)}{σ:St}{H:Hp}{s:Shared}
theorem Xb{ch:List Addr}{h':Heap}{t':Nat}{T:Addr}{ys:List V}{its:List Value}(I:Inv X pins σ H s)(hf:∀b∈ch,x8 X pins H b)(hT:s.heap.objs.size<=T)
  (k:∀b o,b∉ch->s.heap.get? b=some o->h'.get? b=some o) (hl:ys.length<=sizeLine) (rv:Vals ys its) (ht:TupX h' T its.toArray) :
  Inv X pins σ (upd H T (.tup ys)) { s with heap:=h',toks:=t' }:=by
 have hn:H T=none:=I.hok.fresh hT
 have ne:∀b o,s.heap.get? b=some o->b≠T:=fun b o e=>qq (jU (zO e) hT)
 have tr:∀b u,H b=some u->b∉ch:=fun b u e hb=>by rw[(hf b hb).1] at e;cases e
 refine I.step (g':=s.gens) (d':=s.drawn) (ch:=ch) (fun b hb=>?_) (fun b o _ _ hc e _=>k b o hc e) (fun b o _ _ hc e _=>⟨o.slots,k b o hc e⟩) (fun b o _ e n=>by rw[zi (ne b o e)];exact n) (fun b o hc e=>⟨o,k b o hc e⟩)
  (fun b xs e=>by rw[zi (zj e hn)];exact e) (fun b o u e=>by rw[zi (zj e hn)];exact e) (fun b ps e=>⟨#[],by rw[zi (zj e hn),e];simp⟩) (fun m hm=>?_) (fun b u e=>?_) I.bare
 ·obtain⟨_,g1,_,g3,g4,g5⟩:=hf b hb
  exact⟨g3,g1,g4,g5⟩
 ·obtain⟨o,es,ep,ho,r⟩:=hm
  exact⟨o,es,ep,k _ o (fun z=>(hf _ z).2.1 rfl) ho,r⟩
 ·by_cases hb:b=T
  ·subst hb
   rw[zb] at e
   cases e
   exact⟨hl,its,rv,ht⟩
  ·rw[zi hb] at e
   refine(I.hok b u e).stay (fun c v hc q=>k c v ?_ q) (fun c q=>by rw[zi (zj q hn)];exact q) fun c xs q=>by rw[zi (zj q hn)];exact q
   rcases hc with z | z
   ·rw[z];exact tr b u e
   ·exact tr c _ z
end
def Ite(K:PySem.W.Frag)(a:Addr):It:=
 ⟨fun i H=>∃xs x,SqL K H a xs/\xs[i]? =some x,fun i H x H'=>∃T y,x=.ref T/\H T=none/\H'=upd H T (.tup [.int i,y])/\∀xs,SqL K H a xs->xs[i]? =some y,fun i H=>∃xs,SqL K H a xs/\xs.length<=i⟩
theorem zaz{P:Program}{w:World}{K:PySem.W.Frag}{elts:List Expr}{kk:Nat}{pos:Pos}(a e it:Addr)(hne:e≠it) :
  QZ P w K (.Tuple elts kk pos) (Ite K a) [e,it] e (fun i h=>(∃old,IsEnum h e it i old)/\h.IsListIter it a i) where
 mem:=by simp
 obj:=fun i h st b hb=>by
  obtain⟨⟨old,he⟩,⟨o,ho,c,d⟩⟩:=st
  rcases zS.mp hb with z | z
  ·subst z;exact⟨_,he,fun v q=>nomatch q⟩
  ·rw[qg.mp z];exact⟨o,ho,fun v q=>by rw[d] at q;cases q⟩
 keep:=fun i h h' st k=>by
  obtain⟨⟨old,he⟩,hi⟩:=st
  exact⟨⟨old,k e (by simp) _ he⟩,hi.at fun o q=>k it (by simp) o q⟩
 item:=by
  intro X hP hw hK hc i pins s σ H E I hf st hg
  subst hP hw hK
  obtain⟨⟨old,he⟩,hit⟩:=st
  obtain⟨xs,x,hq,hx⟩:=hg
  obtain⟨its,rv,p,hz⟩:=I.list hq
  obtain⟨u,hu,ru⟩:=rv.get hx
  have hl:=p.isList
  have hai:a≠it:=fun z=>by
   obtain⟨o,e1,c1,_⟩:=hl
   obtain⟨o',e2,c2,_⟩:=hit
   rw[z,e2] at e1;cases e1;rw[c2] at c1;exact absurd (ZI c1) (by decide)
  have hae:e≠a:=fun z=>by
   obtain⟨o,e1,c1,_⟩:=hl
   rw[<- z,he] at e1;cases e1;exact absurd (ZI c1) (by decide)
  have D:=Draws.list (prog:=X.prog) (w:=X.w) (A:=X.A.in1) (I.ok.hd hc) it a hai its.toArray
  have hi:i<its.toArray.size:=by
   have h1:=(zQ.mp hu).1
   simpa using h1
  refine wpAny_pyNext_enum_itemD D he ⟨hit,hl⟩ hi hne (by simp[hne,hae]) fun x' h' tk hP' hout hst' hT hsz hk=>?_
  have ex:x'=u:=by
   have h2:its[i]? =some x':=by simpa using hP'
   rw[hu] at h2;exact(jK h2).symm
  subst ex
  refine⟨_,rfl,wpAny_letOwnedTupleGo_enum hout fun h2 he2 hs2=>?_⟩
  have eT:s.heap.objs.size≠e:=xY (zO he)
  have k2:∀b o,b∉[e,it]->s.heap.get? b=some o->h2.get? b=some o:=fun b o hb q=>by
   have n1:b≠e:=fun z=>hb (by simp[z])
   have n2:b≠it:=fun z=>hb (by simp[z])
   exact(hs2.2 b n1).trans (hk b o n1 n2 q)
  have it2:h2.IsListIter it a (i+1):=hst'.1.extBut hs2.extBut (qz hne)
  refine⟨.ref s.heap.objs.size,upd H s.heap.objs.size (.tup [.int i,x]),?_,rfl,⟨_,x,rfl,I.hok.fresh (zG _),rfl,fun ys hy=>by rw[I.list_inj hy hq];exact hx⟩,⟨⟨_,by simpa using he2⟩,it2⟩,fun b hb=>?_⟩
  ·refine Xb (s:=s) (h':=h2) (t':=tk+1) (its:=[.int i tk,x']) I hf (zG _) k2 (by rw[sizeLine_eq];exact(by decide:2<=16777216)) (.cons ⟨tk,rfl⟩ (.cons ru .nil)) (TupX.by ((hs2.2 _ eT).trans hT))
  ·have hb':b<s.heap.objs.size:=by
    rcases zS.mp hb with z | z
    ·rw[z];exact zO he
    ·rw[qg.mp z]
     obtain⟨o',e',_⟩:=hit
     exact zO e'
   rw[zi (qq hb')]
   exact(hf b hb).1
 done:=by
  intro X hP hw hK hc i pins s σ H E I hf st hg
  subst hP hw hK
  obtain⟨⟨old,he⟩,hit⟩:=st
  obtain⟨xs,hq,hx⟩:=hg
  obtain⟨its,rv,p,hz⟩:=I.list hq
  have hl:=p.isList
  have hai:a≠it:=fun z=>by
   obtain⟨o,e1,c1,_⟩:=hl
   obtain⟨o',e2,c2,_⟩:=hit
   rw[z,e2] at e1;cases e1;rw[c2] at c1;exact absurd (ZI c1) (by decide)
  obtain⟨f0,f1,f2,f3,f4,f5⟩:=hf it (by simp)
  have hle:its.toArray.size<=i:=by
   have:=rv.length
   simp only[qi];omega
  have hT:s.TypeIs (.ref e) "enumerate" :=⟨_,he,rfl⟩
  unfold pyNext
  refine zn (yy (Zb (name:=Str.ofString "__next__") hT XI (ww XI hT F.entry_enumerate_next ?_ (F.args_enumerate_next_1 _))))
  show wpAny _ _ (field (.ref e) 2 >>= _) _ _ _
  refine zn (xJ he rfl (x:=.ref it) rfl (zn (wpAny_nextOf_list_end (I.ok.hd hc) hit hl (by simpa using hle) fun h' x he' hx'=>?_)))
  obtain⟨o,ho,hc'⟩:=hx'
  refine zn (ZJ (T:= "StopIteration") (b:=true) ⟨o,ho,hc'⟩ isSubtype_stop ?_)
  exact zP ⟨rfl,I.turned (t':=s.toks) (fun b o hb q=>he' b o hb q) f0 f1 f3 f4 f5⟩
 self:=fun _ _ _ _ _ st h=>let ⟨⟨_,he⟩,_⟩:=st;wpAny_pyIter_enum he h
section
variable{X:Cx}
def zgM(K:PySem.W.Frag)(ta:TA):TI:=fun σ H R=>ta σ H fun vs H1=>∃a,vs=[.ref a]/\(∃xs,SqL K H1 a xs)/\R (Ite K a) H1
theorem zdi{l:Expr}{ta:TA}{p pos tp:Pos}{elts:List Expr}{kk:Nat}(hg:Gl X "enumerate")(hm:X.mg "enumerate" = none)(ha:PA X [l] ta)(hs:starEach [l] X.env=[(false,eval l X.env)]:=by rfl) :
  PI X (.Tuple elts kk tp) (.Call (.Name "enumerate" p) [l] [] pos) (zgM X.K ta):=by
 intro pins s σ H R I h
 refine Call_ (vF I hg hm boot_enumerate (QL (thn (ha pos pins s σ H _ I h) fun us s1 ⟨vs,H1,I1,r1,q1⟩=>?_) hs rfl))
 obtain⟨a,e,⟨xs,hq⟩,q⟩:=q1
 subst e
 obtain⟨u,rfl,ru⟩:=vM r1
 cases ru
 obtain⟨its,rv,pl,hz⟩:=I1.list hq
 refine call_enumerate_list pl.isList fun h' he hi hsz hk=>wpAny_pyIter_enum he ?_
 have I2:Inv X pins σ H1 { s1 with heap:=h' }:=I1.kept (t':=s1.toks) hk
 refine⟨s1.heap.objs.size+1,[s1.heap.objs.size+1,s1.heap.objs.size],_,_,H1,rfl,I2,zaz a _ _ (Nat.succ_ne_self _),⟨⟨_,he⟩,hi⟩,fun b hb=>?_,q⟩
 have hb':s1.heap.objs.size<=b:=by
  rcases zS.mp hb with z | z
  ·rw[z];exact vL _
  ·rw[qg.mp z];exact zG _
 exact I1.fpOk hb' (I1.hok.fresh hb')
theorem zct{K:PySem.W.Frag}{a:Addr}{xs:List V}{g:TG}{tb:TS}{D:XT}{σ:St}{H:Hp}(Pv:Nat->St->Hp->Prop)(h0:Pv 0 σ H)(hl:∀i σ H,i<=xs.length->Pv i σ H->SqL K H a xs)
  (hs:∀i x σ H T,xs[i]? =some x->Pv i σ H->H T=none->g (.ref T) σ (upd H T (.tup [.int i,x])) fun σ2 H2=>tb { D with nx:=Pv (i+1),ct:=Pv (i+1),bk:=D.nx } σ2 H2) (hd:∀σ H,Pv xs.length σ H->D.nx σ H) :
  ∃W:Nat->Nat->St->Hp->Prop,(∃m,W 0 m σ H)/\∀i m σ H,W i m σ H ->
   ((Ite K a).stop i H/\D.nx σ H)\/((Ite K a).go i H/\∃N:St->Hp->Prop,(∀σ' H',N σ' H'->∃m',m'<m/\W (i+1) m' σ' H')/\∀x H',(Ite K a).yld i H x H'->g x σ H' fun σ2 H2=>tb { D with nx:=N,ct:=N,bk:=D.nx } σ2 H2):=by
 refine⟨fun i m σ H=>m=xs.length-i/\i<=xs.length/\Pv i σ H,⟨xs.length,by simp,qu _,h0⟩,?_⟩
 rintro i m σ H ⟨rfl,hi,p⟩
 have q:=hl i σ H hi p
 by_cases hlt:i<xs.length
 ·refine .inr ⟨⟨xs,xs[i],q,by simp[hlt]⟩,Pv (i+1),fun σ' H' p'=>⟨xs.length-(i+1),by omega,rfl,hlt,p'⟩,fun x H' y=>?_⟩
  obtain⟨T,z,e1,hT,e2,y⟩:=y
  subst e1 e2
  exact hs i z σ H T (y xs q) p hT
 ·have e:i=xs.length:=by omega
  subst e
  exact .inl ⟨⟨xs,q,zG _⟩,hd σ H p⟩
inductive ZQ(K:PySem.W.Frag)(xs:List V)(H:Hp)(Q:VK):Prop
 | mk (p:Addr) (bs:List Bool) (_:xs=[.ref p]) (_:SqL K H p (bs.map V.bl)) (_:Q (.bl (bs.all id)) H):ZQ K xs H Q
theorem wQ(hc:X.calm=true):CallR X (.builtin "all") (ZQ X.K):=by
 intro pins s σ H xs us Q I r h
 obtain⟨p,bs,rfl,hq,q⟩:=h
 obtain⟨u,rfl,ru⟩:=vM r
 cases ru
 obtain⟨its,rv,pl,hz⟩:=I.list hq
 have hl:=pl.isList
 have hpl:p≠s.heap.objs.size:=by
  obtain⟨o,e,_⟩:=hl
  exact qq (zO e)
 refine call_all_walk (wpAny_pyIter_list hl ?_)
 refine⟨s.heap.objs.size,_,_,_,_,_,fun i=>bs.getD i true,rfl,Walks.list (prog:=X.prog) (w:=X.w) (A:=X.A.in1) (I.ok.hd hc) _ p hpl its.toArray,⟨⟨_,qC _ rfl,rfl,rfl⟩,hl.push _⟩,?_,fun h' tk hk=>?_⟩
 ·intro i v s' Q' E' hP hQ
  have hP:its.toArray[i]? =some v:=hP
  have e1:its[i]? =some v:=by simpa using hP
  have hi:i<bs.length:=by
   have h1:=(zQ.mp e1).1
   have h2:=rv.length
   rw[zp] at h2
   omega
  have e2:(bs.map V.bl)[i]? =some (.bl bs[i]):=by simp[hi]
  obtain⟨u',eu,ru⟩:=rv.get e2
  rw[e1] at eu
  cases eu
  cases ru
  have e3:bs.getD i true=bs[i]:=by simp[hi]
  have hQ2:Q' (bs.getD i true) s':=hQ
  rw[e3] at hQ2
  exact Za hQ2
 ·have k:∀b o,s.heap.get? b=some o->h'.get? b=some o:=fun b o e=>hk b o (by simp;exact qq (zO e)) (qA _ e)
  have ea:(List.range its.toArray.size).all (fun i=>bs.getD i true)=bs.all id:=by
   have hlen:its.toArray.size=bs.length:=by
    have:=rv.length
    rw[zp] at this
    simp only[qi];omega
   rw[hlen,xP,xM,xM]
   constructor
   ·intro h b hb
    obtain⟨i,hi,rfl⟩:=QW.mp hb
    have:=h i (xK.mpr hi)
    simpa [hi] using this
   ·intro h i hi
    have hi:=xK.mp hi
    have:=h bs[i] (wv hi)
    simpa [hi] using this
  exact⟨.bl (bs.all id),H,I.kept k,by rw[ea];rfl,q⟩
end
def SqK(K:PySem.W.Frag)(kd:Bool)(H:Hp)(a:Addr)(xs:List V):Prop:=match kd with
 | true=>SqL K H a xs
 | false=>SqT K H a xs
def SeqK(kd:Bool)(h:Heap)(a:Addr)(its:Array Value):Prop:=match kd with
 | true=>h.IsList a its
 | false=>h.IsTuple a its
def ItrK(kd:Bool)(h:Heap)(it a:Addr)(i:Nat):Prop:=match kd with
 | true=>h.IsListIter it a i
 | false=>h.IsTupleIter it a i
theorem SeqK.at{kd:Bool}{h h':Heap}{a:Addr}{its:Array Value}(x:SeqK kd h a its)(k:∀o,h.get? a=some o->h'.get? a=some o):SeqK kd h' a its:=by
 cases kd with
 | true=>exact Heap.IsList.at x k
 | false=>obtain⟨o,e,r⟩:=(show h.IsTuple a its from x);exact⟨o,k o e,r⟩
theorem ItrK.at{kd:Bool}{h h':Heap}{it a:Addr}{i:Nat}(x:ItrK kd h it a i)(k:∀o,h.get? it=some o->h'.get? it=some o):ItrK kd h' it a i:=by
 cases kd with
 | true=>exact Heap.IsListIter.at x k
 | false=>obtain⟨o,e,r⟩:=(show h.IsTupleIter it a i from x);exact⟨o,k o e,r⟩
theorem ItrK.obj{kd:Bool}{h:Heap}{it a:Addr}{i:Nat}(x:ItrK kd h it a i):∃o,h.get? it=some o/\(o.cls=.type "list_iterator" \/ o.cls=.type "tuple_iterator")/\∀v,o.data≠.cell v:=by
 cases kd with
 | true=>obtain⟨o,e,c,d⟩:=(show h.IsListIter it a i from x);exact⟨o,e,.inl c,fun v q=>by rw[d] at q;cases q⟩
 | false=>obtain⟨o,e,c,d⟩:=(show h.IsTupleIter it a i from x);exact⟨o,e,.inr c,fun v q=>by rw[d] at q;cases q⟩
theorem SeqK.cls{kd:Bool}{h:Heap}{a:Addr}{its:Array Value}(x:SeqK kd h a its):∃o,h.get? a=some o/\(o.cls=.type "list" \/ o.cls=.type "tuple")/\∃n,o.data=.seq its n:=by
 cases kd with
 | true=>obtain⟨o,e,c,n,d⟩:=(show h.IsList a its from x);exact⟨o,e,.inl c,n,d⟩
 | false=>obtain⟨o,e,c,n,d⟩:=(show h.IsTuple a its from x);exact⟨o,e,.inr c,n,d⟩
section
variable{prog:Program}{w:World}{A:Around}{E:Value->Shared->Prop}{s:Shared}
theorem vD{kd:Bool}{it a:Addr}{i:Nat}{its:Array Value}{x:Value}{Q:Value->Shared->Prop}(hi:ItrK kd s.heap it a i)(hl:SeqK kd s.heap a its)(hx:its[i]? =some x)
  (hQ:∀h',ItrK kd h' it a (i+1)->Heap.SameBut it s.heap h'->Q x { s with heap:=h' }):wpAny (model prog w) A (Builtin.SmallTypes.nextOf (.ref it)) Q E s:=by
 cases kd with
 | true=>exact wpAny_nextOf_list_item hi hl hx hQ
 | false=>
  have hi':s.heap.IsTupleIter it a i:=hi
  obtain⟨o,ho,hc,hd⟩:=id hi'
  obtain⟨ol,hol,_,nl,hdl⟩:=(show s.heap.IsTuple a its from hl)
  unfold Builtin.SmallTypes.nextOf;refine zn (Zb (name:=Str.ofString "__next__") hi'.typeIs XO (ww XO hi'.typeIs zcS ?_ (zcU _)))
  show wpAny _ _ (field (.ref it) 0 >>= _) _ _ _;refine zn (xJ ho hd (x:=.ref a) rfl ?_)
  show wpAny _ _ (if(Value.ref a==Value.none)=true then _ else _) _ _ _;rw[zq (show ¬((Value.ref a==Value.none)=true) from qm)]
  show wpAny _ _ (field (.ref it) 1 >>= _) _ _ _;refine zn (xJ ho hd (x:=.int i 0) rfl ?_)
  show wpAny _ _ (seqItems? (.ref a) >>= _) _ _ _;refine zn (y8 hol hdl ?_);simp only[xn,hx]
  refine zn (wpAny_setField ho hd (by simp) (zP ⟨x,rfl,zP (hQ _ (show Heap.IsTupleIter _ _ _ _ from ?_) (QS ..))⟩))
  refine⟨_,QX _ ho (WU (QR hd _)),(WM ..).trans hc,?_⟩;rw[QR hd];simp[rawInt]
theorem wF{kd:Bool}{it a:Addr}{i:Nat}{its:Array Value}{Q:Value->Shared->Prop}(hh:A.handled=none)(hi:ItrK kd s.heap it a i)(hl:SeqK kd s.heap a its)(hx:its[i]? =none)
  (hE:∀h' e,Heap.ExtBut it s.heap h'->(∃o,h'.get? e=some o/\o.cls=.type "StopIteration")->E (.ref e) { s with heap:=h' }):wpAny (model prog w) A (Builtin.SmallTypes.nextOf (.ref it)) Q E s:=by
 cases kd with
 | true=>exact wpAny_nextOf_list_end hh hi hl hx hE
 | false=>
  have hi':s.heap.IsTupleIter it a i:=hi
  obtain⟨o,ho,hc,hd⟩:=id hi'
  obtain⟨ol,hol,_,nl,hdl⟩:=(show s.heap.IsTuple a its from hl)
  unfold Builtin.SmallTypes.nextOf;refine zn (Zb (name:=Str.ofString "__next__") hi'.typeIs XO (ww XO hi'.typeIs zcS ?_ (zcU _)))
  show wpAny _ _ (field (.ref it) 0 >>= _) _ _ _;refine zn (xJ ho hd (x:=.ref a) rfl ?_)
  show wpAny _ _ (if(Value.ref a==Value.none)=true then _ else _) _ _ _;rw[zq (show ¬((Value.ref a==Value.none)=true) from qm)]
  show wpAny _ _ (field (.ref it) 1 >>= _) _ _ _;refine zn (xJ ho hd (x:=.int i 0) rfl ?_)
  show wpAny _ _ (seqItems? (.ref a) >>= _) _ _ _;refine zn (y8 hol hdl ?_);simp only[xn,hx]
  refine zn (vK (zn (wpAny_setField ho hd (by simp) ?_)));show wpAny _ _ (newExc (.type "StopIteration") [] >>= _) _ _ _
  refine zn ?_;simp only[newExc,newTuple];refine zn (xZ ?_ (by size_fits))
  refine zn (m:=firstArgMember _ _) (wpAny_of_eq (a:=Value.none) (by first| rfl | (simp only[firstArgMember];rfl)) (xZ ?_ (by size_fits)))
  simp only[raiseNew];refine zn (wpAny_handled ?_);first| rw[show A.in1.handled=none from hh] | rw[hh]
  exact zn (zP (wpAny_throw (hE _ _ (((QS ..).extBut.push _).push _) ⟨_,qC _ rfl,rfl⟩)))
structure JR(k1 k2:Bool)(h:Heap)(z TI TO i1 i2 a1 a2:Addr)(i:Nat):Prop where
 zz:IsZip h z TI TO .none
 ti:IsPair h TI (.ref i1) (.ref i2)
 to:∃a b,IsPair h TO a b
 r1:ItrK k1 h i1 a1 i
 r2:ItrK k2 h i2 a2 i
structure zag(z TI TO i1 i2:Addr):Prop where
 a:TI≠z
 b:TO≠z
 c:i1≠z
 d:i2≠z
 e:TI≠TO
 f:TI≠i1
 g:TI≠i2
 h:TO≠i1
 i:TO≠i2
 j:i1≠i2
theorem zah{k1 k2:Bool}{z TI TO i1 i2 a1 a2:Addr}{i:Nat}{xs ys:Array Value}{x y:Value}{Q:Option Value->Shared->Prop}(N:zag z TI TO i1 i2)(Z:JR k1 k2 s.heap z TI TO i1 i2 a1 a2 i)
  (l1:SeqK k1 s.heap a1 xs) (l2:SeqK k2 s.heap a2 ys) (m1:∀b∈[z,TO,i1,i2],a1≠b) (m2:∀b∈[z,TO,i1,i2],a2≠b) (hx:xs[i]? =some x) (hy:ys[i]? =some y)
  (hQ:∀h',IsZip h' z TI TO (rawInt s.heap.objs.size)->IsPair h' TI (.ref i1) (.ref i2)->(∃a b,IsPair h' TO a b)->ItrK k1 h' i1 a1 (i+1)->ItrK k2 h' i2 a2 (i+1)->IsPair h' s.heap.objs.size x y->h'.objs.size=s.heap.objs.size+1 ->
   (∀c o,c∉[z,TO,i1,i2]->s.heap.get? c=some o->h'.get? c=some o)->Q (some (.ref s.heap.objs.size)) { s with heap:=h' }):wpAny (model prog w) A (pyNext (.ref z)) Q E s:=by
 obtain⟨hz,hTI,⟨a,b,hTO⟩,h1,h2⟩:=Z
 have hT:s.TypeIs (.ref z) "zip" :=⟨_,hz,rfl⟩
 unfold pyNext;refine zn (yy (Zb (name:=Str.ofString "__next__") hT Xq (ww Xq hT F.entry_zip_next ?_ (F.args_zip_next_1 _))))
 show wpAny _ _ (field (.ref z) 2 >>= _) _ _ _;refine zn (xJ hz rfl (x:=.bool false) rfl ?_)
 show wpAny _ _ (field (.ref z) 3 >>= _) _ _ _;refine zn (xJ hz rfl (x:=.ref TI) rfl (zn (y8 hTI rfl ?_)))
 show wpAny _ _ (Builtin.SmallTypes.ownedTupleIsFree (.ref z) >>= _) _ _ _;refine zn ?_
 unfold Builtin.SmallTypes.ownedTupleIsFree;refine zn (xJ hz rfl (x:=.none) rfl (zP ?_));simp only[if_true]
 refine zn (vK (zn (xJ hz rfl (x:=.ref TO) rfl (zn (JP hz (by simp) fun g1 hz1 hs1=>?_)))))
 replace hz1:IsZip g1 z TI TO .ellipsis:=hz1
 refine zn ?_;simp only[List.zipIdx_cons,List.zipIdx_nil,Xr,WF]
 refine zn (zn (wpAny_onRaise ?_));show wpAny _ _ (Builtin.SmallTypes.nextOf (.ref i1) >>= _) _ _ _
 refine zn (vD (h1.at fun o e=>hs1.extBut _ o N.c e) (l1.at fun o e=>hs1.extBut _ o (m1 z (by simp)) e) hx fun g2 h12 hs2=>zP ?_)
 have hTO2:IsPair g2 TO a b:=hs2.extBut _ _ N.h (hs1.extBut _ _ N.b hTO)
 refine zn (y8 hTO2 rfl (zn (wpAny_updateSeq_pair hTO2 fun g3 hTO3 hs3=>?_)))
 replace hTO3:IsPair g3 TO x b:=hTO3
 refine zn (wpAny_letGo (zP ?_));refine zn (zn (wpAny_onRaise ?_));show wpAny _ _ (Builtin.SmallTypes.nextOf (.ref i2) >>= _) _ _ _
 have c23:∀c o,c∉[z,TO,i1]->s.heap.get? c=some o->g3.get? c=some o:=fun c o hc e=>hs3.extBut _ o (fun q=>hc (by simp[q])) (hs2.extBut _ o (fun q=>hc (by simp[q])) (hs1.extBut _ o (fun q=>hc (by simp[q])) e))
 refine zn (vD (h2.at fun o e=>c23 _ o (by simp[N.d,qz N.i,qz N.j]) e) (l2.at fun o e=>c23 _ o (by simp[m2 z (by simp),m2 TO (by simp),m2 i1 (by simp)]) e) hy fun g4 h24 hs4=>zP ?_)
 have hTO4:IsPair g4 TO x b:=hs4.extBut _ _ N.i hTO3
 refine zn (y8 hTO4 rfl (zn (wpAny_updateSeq_pair hTO4 fun g5 hTO5 hs5=>?_)))
 replace hTO5:IsPair g5 TO x y:=hTO5
 refine zn (wpAny_letGo (zP (zP (zn (y8 hTO5 rfl (zn (wpAny_newTuple ?_)))))))
 have zs:g5.objs.size=s.heap.objs.size:=by rw[hs5.1,hs4.1,hs3.1,hs2.1,hs1.1]
 have hz5:IsZip g5 z TI TO .ellipsis:=hs5.extBut _ _ (qz N.b) (hs4.extBut _ _ (qz N.d) (hs3.extBut _ _ (qz N.b) (hs2.extBut _ _ (qz N.c) hz1)))
 have k5:∀c o,c∉[z,TO,i1,i2]->s.heap.get? c=some o->g5.get? c=some o:=fun c o hc e=>hs5.extBut _ o (fun q=>hc (by simp[q])) (hs4.extBut _ o (fun q=>hc (by simp[q])) (c23 c o (fun q=>hc (by simp at q ⊢;rcases q with q | q | q<;>simp[q])) e))
 have r1:ItrK k1 g5 i1 a1 (i+1):=h12.at fun o e=>hs5.extBut _ o (qz N.h) (hs4.extBut _ o N.j (hs3.extBut _ o (qz N.h) e))
 have r2:ItrK k2 g5 i2 a2 (i+1):=h24.at fun o e=>hs5.extBut _ o (qz N.i) e
 have zl:z<g5.objs.size:=zO hz5
 show wpAny _ _ (Builtin.SmallTypes.ownedTupleHandOut (.ref z) (.ref g5.objs.size) >>= _) _ _ _;refine zn ?_;unfold Builtin.SmallTypes.ownedTupleHandOut
 have hz6:IsZip (g5.push { cls:=.type "tuple",data:=.seq #[x,y] }) z TI TO .ellipsis:=qA _ hz5
 refine zn (JP hz6 (by simp) fun g7 hz7 hs7=>?_)
 replace hz7:IsZip g7 z TI TO (rawInt g5.objs.size):=hz7
 refine JP hz7 (by simp) fun g8 hz8 hs8=>?_
 replace hz8:IsZip g8 z TI TO (rawInt g5.objs.size):=hz8
 have up:∀c o,c≠z->g5.get? c=some o->g8.get? c=some o:=fun c o c1 e=>hs8.extBut _ o c1 (hs7.extBut _ o c1 (qA _ e))
 have hT8:IsPair g8 g5.objs.size x y:=hs8.extBut _ _ (xY zl) (hs7.extBut _ _ (xY zl) (qC _ rfl))
 have z8:g8.objs.size=g5.objs.size+1:=by rw[hs8.1,hs7.1,xf]
 rw[zs] at hz8 hT8 z8
 refine zP ⟨_,rfl,zP ?_⟩;show Q (some (.ref g5.objs.size)) _;rw[zs]
 exact hQ g8 hz8 (up _ _ N.a (k5 _ _ (by simp[N.a,N.e,N.f,N.g]) hTI)) ⟨_,_,up _ _ N.b hTO5⟩ (r1.at fun o e=>up _ o N.c e) (r2.at fun o e=>up _ o N.d e) hT8 z8 fun c o hc e=>up c o (fun q=>hc (by simp[q])) (k5 c o hc e)
theorem zba{k1 k2:Bool}{z TI TO i1 i2 a1 a2:Addr}{i:Nat}{xs ys:Array Value}{Q:Option Value->Shared->Prop}(hh:A.handled=none)(N:zag z TI TO i1 i2)(Z:JR k1 k2 s.heap z TI TO i1 i2 a1 a2 i)
  (l1:SeqK k1 s.heap a1 xs) (l2:SeqK k2 s.heap a2 ys) (m1:∀b∈[z,TO,i1,i2],a1≠b) (m2:∀b∈[z,TO,i1,i2],a2≠b) (hend:xs[i]? =none\/ys[i]? =none)
  (hQ:∀h',(∀c o,c∉[z,TO,i1,i2]->s.heap.get? c=some o->h'.get? c=some o)->Q none { s with heap:=h' }):wpAny (model prog w) A (pyNext (.ref z)) Q E s:=by
 obtain⟨hz,hTI,⟨a,b,hTO⟩,h1,h2⟩:=Z
 have hT:s.TypeIs (.ref z) "zip" :=⟨_,hz,rfl⟩
 unfold pyNext;refine zn (yy (Zb (name:=Str.ofString "__next__") hT Xq (ww Xq hT F.entry_zip_next ?_ (F.args_zip_next_1 _))))
 show wpAny _ _ (field (.ref z) 2 >>= _) _ _ _;refine zn (xJ hz rfl (x:=.bool false) rfl ?_)
 show wpAny _ _ (field (.ref z) 3 >>= _) _ _ _;refine zn (xJ hz rfl (x:=.ref TI) rfl (zn (y8 hTI rfl ?_)))
 show wpAny _ _ (Builtin.SmallTypes.ownedTupleIsFree (.ref z) >>= _) _ _ _;refine zn ?_
 unfold Builtin.SmallTypes.ownedTupleIsFree;refine zn (xJ hz rfl (x:=.none) rfl (zP ?_));simp only[if_true]
 refine zn (vK (zn (xJ hz rfl (x:=.ref TO) rfl (zn (JP hz (by simp) fun g1 hz1 hs1=>?_)))))
 replace hz1:IsZip g1 z TI TO .ellipsis:=hz1
 refine zn ?_;simp only[List.zipIdx_cons,List.zipIdx_nil,Xr,WF]
 refine zn (zn (wpAny_onRaise ?_));show wpAny _ _ (Builtin.SmallTypes.nextOf (.ref i1) >>= _) _ _ _
 cases hx:xs[i]? with
 | none=>
  refine zn (wF hh (h1.at fun o e=>hs1.extBut _ o N.c e) (l1.at fun o e=>hs1.extBut _ o (m1 z (by simp)) e) hx fun g2 e hs2 he=>?_)
  obtain⟨oe,hoe,hce⟩:=he
  have hz2:IsZip g2 z TI TO .ellipsis:=hs2 _ _ (qz N.c) hz1
  have hez:e≠z:=fun q=>by subst q;rw[hz2] at hoe;cases hoe;exact absurd (ZI hce) (by decide)
  refine JP hz2 (by simp) fun g3 hz3 hs3=>?_
  refine zn (ZJ (T:= "StopIteration") (b:=true) ⟨oe,hs3.extBut _ _ hez hoe,hce⟩ isSubtype_stop (zP (hQ _ fun c o hc q=>?_)))
  exact hs3.extBut _ o (fun q=>hc (by simp[q])) (hs2 _ o (fun q=>hc (by simp[q])) (hs1.extBut _ o (fun q=>hc (by simp[q])) q))
 | some x=>
  have hy:ys[i]? =none:=by rcases hend with q | q;rw[hx] at q;cases q;exact q
  refine zn (vD (h1.at fun o e=>hs1.extBut _ o N.c e) (l1.at fun o e=>hs1.extBut _ o (m1 z (by simp)) e) hx fun g2 h12 hs2=>zP ?_)
  have hTO2:IsPair g2 TO a b:=hs2.extBut _ _ N.h (hs1.extBut _ _ N.b hTO)
  refine zn (y8 hTO2 rfl (zn (wpAny_updateSeq_pair hTO2 fun g3 hTO3 hs3=>?_)))
  have c23:∀c o,c∉[z,TO,i1]->s.heap.get? c=some o->g3.get? c=some o:=fun c o hc e=>hs3.extBut _ o (fun q=>hc (by simp[q])) (hs2.extBut _ o (fun q=>hc (by simp[q])) (hs1.extBut _ o (fun q=>hc (by simp[q])) e))
  refine zn (wpAny_letGo (zP ?_));refine zn (zn (wpAny_onRaise ?_));show wpAny _ _ (Builtin.SmallTypes.nextOf (.ref i2) >>= _) _ _ _
  refine zn (wF hh (h2.at fun o e=>c23 _ o (by simp[N.d,qz N.i,qz N.j]) e) (l2.at fun o e=>c23 _ o (by simp[m2 z (by simp),m2 TO (by simp),m2 i1 (by simp)]) e) hy fun g4 e hs4 he=>?_)
  obtain⟨oe,hoe,hce⟩:=he
  have hz4:IsZip g4 z TI TO .ellipsis:=hs4 _ _ (qz N.d) (hs3.extBut _ _ (qz N.b) (hs2.extBut _ _ (qz N.c) hz1))
  have hez:e≠z:=fun q=>by subst q;rw[hz4] at hoe;cases hoe;exact absurd (ZI hce) (by decide)
  refine JP hz4 (by simp) fun g5 hz5 hs5=>?_
  refine zn (ZJ (T:= "StopIteration") (b:=true) ⟨oe,hs5.extBut _ _ hez hoe,hce⟩ isSubtype_stop (zP (hQ _ fun c o hc q=>?_)))
  exact hs5.extBut _ o (fun q=>hc (by simp[q])) (hs4 _ o (fun q=>hc (by simp[q])) (c23 c o (fun q=>hc (by simp at q ⊢;rcases q with q | q | q<;>simp[q])) q))
abbrev zh(h:Heap)(o1 o2:Obj):Heap:=((((h.push o1).push o2).push { cls:=.type "tuple",data:=.seq #[.ref h.objs.size,.ref (h.push o1).objs.size] }).push { cls:=.type "tuple",data:=.seq #[.none,.none] }).push
 { cls:=.type "zip",data:=.fields #[.none,.bool false,.bool false,.ref ((h.push o1).push o2).objs.size,.ref (((h.push o1).push o2).push { cls:=.type "tuple",data:=.seq #[.ref h.objs.size,.ref (h.push o1).objs.size] }).objs.size] }
theorem zfT{k1 k2:Bool}{a1 a2:Addr}{h:Heap}{o1 o2:Obj}(p1:∀g:Heap,g.get? h.objs.size=some o1->ItrK k1 g h.objs.size a1 0)(p2:∀(g:Heap) (n:Addr),g.get? n=some o2->ItrK k2 g n a2 0)(f1:o1.isFreed=false)(f2:o2.isFreed=false) :
  JR k1 k2 (zh h o1 o2) (h.objs.size+4) (h.objs.size+2) (h.objs.size+3) h.objs.size (h.objs.size+1) a1 a2 0/\(∀c o,h.get? c=some o->(zh h o1 o2).get? c=some o)/\(zh h o1 o2).objs.size=h.objs.size+5:=by
 have z1:(h.push o1).objs.size=h.objs.size+1:=xf ..
 have z2:((h.push o1).push o2).objs.size=h.objs.size+2:=by rw[xf,z1]
 have z3:(((h.push o1).push o2).push { cls:=.type "tuple",data:=.seq #[.ref h.objs.size,.ref (h.push o1).objs.size] }).objs.size=h.objs.size+3:=by rw[xf,z2]
 have z4:((((h.push o1).push o2).push { cls:=.type "tuple",data:=.seq #[.ref h.objs.size,.ref (h.push o1).objs.size] }).push { cls:=.type "tuple",data:=.seq #[.none,.none] }).objs.size=h.objs.size+4:=by rw[xf,z3]
 have q5:(zh h o1 o2).get? (h.objs.size+4)=some _:=z4▸qC _ rfl
 have q4:(zh h o1 o2).get? (h.objs.size+3)=some _:=z3▸qA _ (qC _ rfl)
 have q3:(zh h o1 o2).get? (h.objs.size+2)=some _:=z2▸qA _ (qA _ (qC _ rfl))
 have q2:(zh h o1 o2).get? (h.objs.size+1)=some o2:=z1▸qA _ (qA _ (qA _ (qC _ f2)))
 have q1:(zh h o1 o2).get? h.objs.size=some o1:=qA _ (qA _ (qA _ (qA _ (qC _ f1))))
 rw[z2,z3] at q5
 rw[z1] at q3
 exact⟨⟨q5,q3,⟨_,_,q4⟩,p1 _ q1,p2 _ _ q2⟩,fun c o e=>qA _ (qA _ (qA _ (qA _ (qA _ e)))),by rw[xf,z4]⟩
theorem za9{k1 k2:Bool}{a1 a2:Addr}{xs ys:Array Value} :
  PySem.Meets (Builtin.«zip.__new__» ⟨[.type "zip",.ref a1,.ref a2],[]⟩) (fun _ R s=>SeqK k1 s.heap a1 xs/\SeqK k2 s.heap a2 ys /\
   ∀h',JR k1 k2 h' (s.heap.objs.size+4) (s.heap.objs.size+2) (s.heap.objs.size+3) s.heap.objs.size (s.heap.objs.size+1) a1 a2 0->(∀c o,s.heap.get? c=some o->h'.get? c=some o)->h'.objs.size=s.heap.objs.size+5->R (.ok (.ret (.ref (s.heap.objs.size+4)))) { s with heap:=h' }):=
 .of_wp fun prog w A R s hq=>by
  obtain⟨hp,g,d,tk,os⟩:=s
  obtain⟨hl1,hl2,hr⟩:=hq
  have hsub:=sub_zip
  have fin:∀{o1 o2:Obj},(∀g:Heap,g.get? hp.objs.size=some o1->ItrK k1 g hp.objs.size a1 0)->(∀(g:Heap) (n:Addr),g.get? n=some o2->ItrK k2 g n a2 0)->o1.isFreed=false->o2.isFreed=false ->
    R (.ok (.ret (.ref ((((hp.push o1).push o2).push { cls:=.type "tuple",data:=.seq #[.ref hp.objs.size,.ref (hp.push o1).objs.size] }).push { cls:=.type "tuple",data:=.seq #[.none,.none] }).objs.size))) ⟨zh hp o1 o2,g,d,tk,os⟩:=fun {o1 o2} p1 p2 f1 f2=>by
   obtain⟨A,B,C⟩:=zfT p1 p2 f1 f2
   have e:((((hp.push o1).push o2).push { cls:=.type "tuple",data:=.seq #[.ref hp.objs.size,.ref (hp.push o1).objs.size] }).push { cls:=.type "tuple",data:=.seq #[.none,.none] }).objs.size=hp.objs.size+4:=by
    rw[xf,xf,xf,xf]
   rw[e]
   exact hr _ A B C
  cases k1 with
  | true=>
   have L1:Heap.IsList (Shared.heap ⟨hp,g,d,tk,os⟩) a1 xs:=hl1
   cases k2 with
   | true=>
    have L2:Heap.IsList (Shared.heap ⟨hp.push { cls:=.type "list_iterator",data:=.fields #[.ref a1,.int 0 0] },g,d,tk,os⟩) a2 ys:=Heap.IsList.push hl2 _
    wp_walk using wpAny_pyIter_list L1,wpAny_pyIter_list L2
    exact⟨_,rfl,fin (fun g e=>⟨_,e,rfl,rfl⟩) (fun g n e=>⟨_,e,rfl,rfl⟩) rfl rfl⟩
   | false=>
    have L2:Heap.IsTuple (Shared.heap ⟨hp.push { cls:=.type "list_iterator",data:=.fields #[.ref a1,.int 0 0] },g,d,tk,os⟩) a2 ys:=Heap.IsTuple.push hl2 _
    wp_walk using wpAny_pyIter_list L1,wpAny_pyIter_tuple L2
    exact⟨_,rfl,fin (fun g e=>⟨_,e,rfl,rfl⟩) (fun g n e=>⟨_,e,rfl,rfl⟩) rfl rfl⟩
  | false=>
   have L1:Heap.IsTuple (Shared.heap ⟨hp,g,d,tk,os⟩) a1 xs:=hl1
   cases k2 with
   | true=>
    have L2:Heap.IsList (Shared.heap ⟨hp.push { cls:=.type "tuple_iterator",data:=.fields #[.ref a1,.int 0 0] },g,d,tk,os⟩) a2 ys:=Heap.IsList.push hl2 _
    wp_walk using wpAny_pyIter_tuple L1,wpAny_pyIter_list L2
    exact⟨_,rfl,fin (fun g e=>⟨_,e,rfl,rfl⟩) (fun g n e=>⟨_,e,rfl,rfl⟩) rfl rfl⟩
   | false=>
    have L2:Heap.IsTuple (Shared.heap ⟨hp.push { cls:=.type "tuple_iterator",data:=.fields #[.ref a1,.int 0 0] },g,d,tk,os⟩) a2 ys:=Heap.IsTuple.push hl2 _
    wp_walk using wpAny_pyIter_tuple L1,wpAny_pyIter_tuple L2
    exact⟨_,rfl,fin (fun g e=>⟨_,e,rfl,rfl⟩) (fun g n e=>⟨_,e,rfl,rfl⟩) rfl rfl⟩
theorem za1{k1 k2:Bool}{a1 a2:Addr}{xs ys:Array Value}{Q:Value->Shared->Prop}(h1:SeqK k1 s.heap a1 xs)(h2:SeqK k2 s.heap a2 ys)
  (h:∀h',JR k1 k2 h' (s.heap.objs.size+4) (s.heap.objs.size+2) (s.heap.objs.size+3) s.heap.objs.size (s.heap.objs.size+1) a1 a2 0->(∀c o,s.heap.get? c=some o->h'.get? c=some o)->h'.objs.size=s.heap.objs.size+5 ->
   Q (.ref (s.heap.objs.size+4)) { s with heap:=h' }):wpAny (model prog w) A (call (.type "zip") [.ref a1,.ref a2]) Q E s:=by
 refine callType_new F.called_zip (by decide) (F.typeCall_zip_2 _ _) (F.newCall_zip_2 _ _) (fun obj=>F.args_object_init_3 obj _ _) F.entry_zip_new (za9 (k1:=k1) (k2:=k2) (xs:=xs) (ys:=ys)) ⟨h1,h2,fun h' Z k z=>?_⟩
 exact⟨⟨_,Z.zz,rfl⟩,h h' Z k z⟩
end
theorem Inv.seqK{X:Cx}{pins:List (Addr×Obj)}{σ:St}{H:Hp}{s:Shared}{kd:Bool}{a:Addr}{xs:List V}(I:Inv X pins σ H s)(h:SqK X.K kd H a xs):∃its:List Value,Vals xs its/\SeqK kd s.heap a its.toArray/\xs.length<=sizeLine:=by
 cases kd with
 | true=>obtain⟨its,r,p,z⟩:=I.list h;exact⟨its,r,p.isList,z⟩
 | false=>obtain⟨its,r,p,z⟩:=I.tuple h;exact⟨its,r,p,z⟩
theorem Inv.seqK_inj{X:Cx}{pins:List (Addr×Obj)}{σ:St}{H:Hp}{s:Shared}{kd:Bool}{a:Addr}{xs ys:List V}(I:Inv X pins σ H s)(h:SqK X.K kd H a xs)(h':SqK X.K kd H a ys):xs=ys:=by
 cases kd with
 | true=>exact I.list_inj h h'
 | false=>exact I.tuple_inj h h'
theorem SqK.ne_fp{X:Cx}{pins:List (Addr×Obj)}{σ:St}{H:Hp}{s:Shared}{kd:Bool}{a b:Addr}{xs:List V}(I:Inv X pins σ H s)(h:SqK X.K kd H a xs)(f:x8 X pins H b):a≠b:=fun z=>by
 have kk:∀o,X.K.lookup a=some o->False:=fun o e=>by
  have e':=I.mod.kin a o e
  rcases f.2.2.2.1 with q | q
  ·exact I.ok.noex a o e' (by rw[z];exact q)
  ·have:=zO (I.ok.bs a o e').1
   rw[z] at this
   exact vv _ (jU this q)
 cases kd with
 | true=>
  rcases(show SqL X.K H a xs from h) with(q | ⟨o,q⟩) | ⟨o,_,_,q,_⟩
  ·rw[z,f.1] at q;cases q
  ·rw[z,f.1] at q;cases q
  ·exact kk o q
 | false=>
  rcases(show SqT X.K H a xs from h) with(q | ⟨o,q⟩) | ⟨o,_,_,q,_⟩
  ·rw[z,f.1] at q;cases q
  ·rw[z,f.1] at q;cases q
  ·exact kk o q
def Itz(K:PySem.W.Frag)(k1 k2:Bool)(a1 a2:Addr):It:=
 ⟨fun i H=>∃xs ys x y,SqK K k1 H a1 xs/\SqK K k2 H a2 ys/\xs[i]? =some x/\ys[i]? =some y,
  fun i H x H'=>∃T u v,x=.ref T/\H T=none/\H'=upd H T (.tup [u,v])/\(∀xs,SqK K k1 H a1 xs->xs[i]? =some u)/\∀ys,SqK K k2 H a2 ys->ys[i]? =some v,
  fun i H=>∃xs ys,SqK K k1 H a1 xs/\SqK K k2 H a2 ys/\(xs.length<=i\/ys.length<=i)⟩
theorem zbg{P:Program}{w:World}{K:PySem.W.Frag}{elts:List Expr}{kk:Nat}{pos:Pos}{k1 k2:Bool}{a1 a2 z TI TO i1 i2:Addr}(N:zag z TI TO i1 i2) :
  QZ P w K (.Tuple elts kk pos) (Itz K k1 k2 a1 a2) [z,TI,TO,i1,i2] z (fun i h=>JR k1 k2 h z TI TO i1 i2 a1 a2 i) where
 mem:=by simp
 obj:=fun i h Z b hb=>by
  obtain⟨a,b',q⟩:=Z.to
  have e1:=Z.r1.obj
  have e2:=Z.r2.obj
  simp only[zS,xL,or_false] at hb
  rcases hb with r | r | r | r | r
  ·subst r;exact⟨_,Z.zz,fun v q=>nomatch q⟩
  ·subst r;exact⟨_,Z.ti,fun v q=>nomatch q⟩
  ·subst r;exact⟨_,q,fun v q=>nomatch q⟩
  ·subst r;obtain⟨o,e,_,d⟩:=e1;exact⟨o,e,d⟩
  ·subst r;obtain⟨o,e,_,d⟩:=e2;exact⟨o,e,d⟩
 keep:=fun i h h' Z k=>by
  obtain⟨a,b',q⟩:=Z.to
  exact⟨k _ (by simp) _ Z.zz,k _ (by simp) _ Z.ti,⟨a,b',k _ (by simp) _ q⟩,Z.r1.at fun o e=>k _ (by simp) o e,Z.r2.at fun o e=>k _ (by simp) o e⟩
 item:=by
  intro X hP hw hK hc i pins s σ H E I hf Z hg
  subst hP hw hK
  obtain⟨xs,ys,x,y,hq1,hq2,hx,hy⟩:=hg
  obtain⟨its1,rv1,p1,hz1⟩:=I.seqK hq1
  obtain⟨its2,rv2,p2,hz2⟩:=I.seqK hq2
  obtain⟨u1,hu1,ru1⟩:=rv1.get hx
  obtain⟨u2,hu2,ru2⟩:=rv2.get hy
  have sub:∀b∈[z,TO,i1,i2],b∈[z,TI,TO,i1,i2]:=fun b hb=>by
   simp only[zS,xL,or_false] at hb ⊢
   rcases hb with r | r | r | r<;>simp[r]
  refine zah N Z p1 p2 (fun b hb=>hq1.ne_fp I (hf b (sub b hb))) (fun b hb=>hq2.ne_fp I (hf b (sub b hb))) (by simpa using hu1) (by simpa using hu2) fun h1 zz ti to r1 r2 hT hsz hk=>?_
  refine⟨_,rfl,wpAny_letOwnedTupleGo_zip zz fun h2 zz2 hs2=>?_⟩
  have zl:z<s.heap.objs.size:=zO Z.zz
  obtain⟨ta,tb,to⟩:=to
  refine⟨.ref s.heap.objs.size,upd H s.heap.objs.size (.tup [x,y]),?_,rfl,⟨_,x,y,rfl,I.hok.fresh (zG _),rfl,fun xs' h'=>by rw[I.seqK_inj h' hq1];exact hx,fun ys' h'=>by rw[I.seqK_inj h' hq2];exact hy⟩,
   ⟨zz2,hs2.extBut _ _ N.a ti,⟨ta,tb,hs2.extBut _ _ N.b to⟩,r1.at fun o e=>hs2.extBut _ o N.c e,r2.at fun o e=>hs2.extBut _ o N.d e⟩,fun b hb=>?_⟩
  ·exact Xb (s:=s) (h':=h2) (t':=s.toks) (ch:=[z,TO,i1,i2]) (its:=[u1,u2]) I (fun b hb=>hf b (sub b hb)) (zG _) (fun b o hb e=>hs2.extBut _ o (fun q=>hb (by simp[q])) (hk b o hb e)) (by rw[sizeLine_eq];exact(by decide:2<=16777216)) (.cons ru1 (.cons ru2 .nil))
    (TupX.by (hs2.extBut _ _ (xY zl) hT))
  ·have hb':b<s.heap.objs.size:=by
    have e1:=Z.r1.obj
    have e2:=Z.r2.obj
    obtain⟨a,b',q⟩:=Z.to
    simp only[zS,xL,or_false] at hb
    rcases hb with r | r | r | r | r
    ·subst r;exact zl
    ·subst r;exact zO Z.ti
    ·subst r;exact zO q
    ·subst r;obtain⟨o,e,_⟩:=e1;exact zO e
    ·subst r;obtain⟨o,e,_⟩:=e2;exact zO e
   rw[zi (qq hb')]
   exact(hf b hb).1
 done:=by
  intro X hP hw hK hc i pins s σ H E I hf Z hg
  subst hP hw hK
  obtain⟨xs,ys,hq1,hq2,hle⟩:=hg
  obtain⟨its1,rv1,p1,hz1⟩:=I.seqK hq1
  obtain⟨its2,rv2,p2,hz2⟩:=I.seqK hq2
  have sub:∀b∈[z,TO,i1,i2],b∈[z,TI,TO,i1,i2]:=fun b hb=>by
   simp only[zS,xL,or_false] at hb ⊢
   rcases hb with r | r | r | r<;>simp[r]
  have tr:∀b u,H b=some u->b∉[z,TO,i1,i2]:=fun b u e hb=>by rw[(hf b (sub b hb)).1] at e;cases e
  refine zba (I.ok.hd hc) N Z p1 p2 (fun b hb=>hq1.ne_fp I (hf b (sub b hb))) (fun b hb=>hq2.ne_fp I (hf b (sub b hb))) ?_ fun h' hk=>⟨rfl,?_⟩
  ·have l1:=rv1.length
   have l2:=rv2.length
   rcases hle with q | q
   ·exact .inl (by simp;omega)
   ·exact .inr (by simp;omega)
  ·refine I.step (g':=s.gens) (d':=s.drawn) (t':=s.toks) (ch:=[z,TO,i1,i2]) (fun b hb=>?_) (fun b o _ _ hc e _=>hk b o hc e) (fun b o _ _ hc e _=>⟨o.slots,hk b o hc e⟩) (fun _ _ _ _ n=>n) (fun b o hc e=>⟨o,hk b o hc e⟩)
    (fun _ _ e=>e) (fun _ _ _ e=>e) (fun b ps e=>⟨#[],by rw[e];simp⟩) (fun m hm=>?_) (fun b u e=>?_) I.bare
   ·obtain⟨_,g1,_,g3,g4,g5⟩:=hf b (sub b hb)
    exact⟨g3,g1,g4,g5⟩
   ·obtain⟨o,es,ep,ho,r⟩:=hm
    exact⟨o,es,ep,hk _ o (fun z=>(hf _ (sub _ z)).2.1 rfl) ho,r⟩
   ·refine(I.hok b u e).stay (fun c v hc q=>hk c v ?_ q) (fun _ q=>q) fun _ _ q=>q
    rcases hc with z | z
    ·rw[z];exact tr b u e
    ·exact tr c _ z
 self:=fun _ _ _ _ _ Z h=>wpAny_pyIter_zip Z.zz h
section
variable{X:Cx}
def zhm(K:PySem.W.Frag)(ta:TA):TI:=fun σ H R=>ta σ H fun vs H1=>∃k1 k2 a1 a2,vs=[.ref a1,.ref a2]/\(∃xs,SqK K k1 H1 a1 xs)/\(∃ys,SqK K k2 H1 a2 ys)/\R (Itz K k1 k2 a1 a2) H1
theorem Wi{l m:Expr}{ta:TA}{p pos tp:Pos}{elts:List Expr}{kk:Nat}(hg:Gl X "zip")(hm:X.mg "zip" = none)(ha:PA X [l,m] ta)(hs:starEach [l,m] X.env=[(false,eval l X.env),(false,eval m X.env)]:=by rfl)(hs2:starEach [m] X.env=[(false,eval m X.env)]:=by rfl) :
  PI X (.Tuple elts kk tp) (.Call (.Name "zip" p) [l,m] [] pos) (zhm X.K ta):=by
 intro pins s σ H R I h
 refine Call_ (vF I hg hm boot_zip (QL (thn (ha pos pins s σ H _ I h) fun us s1 ⟨vs,H1,I1,r1,q1⟩=>?_) (by rw[hs,hs2]) (by rw[hs2];rfl)))
 obtain⟨k1,k2,a1,a2,e,⟨xs,hq1⟩,⟨ys,hq2⟩,q⟩:=q1
 subst e
 obtain⟨u,u',rfl,ru,ru'⟩:=ZA r1
 cases ru
 cases ru'
 obtain⟨its1,rv1,p1,hz1⟩:=I1.seqK hq1
 obtain⟨its2,rv2,p2,hz2⟩:=I1.seqK hq2
 refine za1 p1 p2 fun h' Z hk hsz=>wpAny_pyIter_zip Z.zz ?_
 have I2:Inv X pins σ H1 { s1 with heap:=h' }:=I1.kept (t':=s1.toks) hk
 have N:zag (s1.heap.objs.size+4) (s1.heap.objs.size+2) (s1.heap.objs.size+3) s1.heap.objs.size (s1.heap.objs.size+1):=by
  constructor<;>(intro e;have e':(_:Nat)=_:=e;omega)
 refine⟨s1.heap.objs.size+4,_,_,_,H1,rfl,I2,zbg N,Z,fun b hb=>?_,q⟩
 have hb':s1.heap.objs.size<=b:=by
  simp only[zS,xL,or_false] at hb
  rcases hb with r | r | r | r | r<;>(rw[r];first| exact Nat.le_add_right _ _ | exact zG _)
 exact I1.fpOk hb' (I1.hok.fresh hb')
end
def TyN(K:PySem.W.Frag)(H:Hp)(x:V)(T:String):Prop:=match x with
 | .non=>T = "NoneType"
 | .bl _=>T = "bool"
 | .int _=>T = "int"
 | .str _=>T = "str"
 | .ref a=>(T = "list" /\ ∃xs,SqL K H a xs)\/(T = "tuple" /\ ∃xs,SqT K H a xs)
 | _=>False
def j5(T C:String):Bool:=T==C||(T == "bool" && C == "int")
def ZU:List String:=["NoneType", "bool", "int", "str", "list", "tuple"]
def yV:List String:=["bool", "int", "str", "list", "tuple", "dict"]
theorem YW{K:PySem.W.Frag}:∀T∈ZU,∀C∈yV,PySem.W.kitOne K (.type T) (.type C)=some (j5 T C):=by
 intro T hT C hC
 simp only[ZU,yV,zS,xL,or_false] at hT hC
 rcases hT with rfl | rfl | rfl | rfl | rfl | rfl<;>rcases hC with rfl | rfl | rfl | rfl | rfl | rfl<;>kernel_rfl
theorem VD{K:PySem.W.Frag}{T:String}(hT:T∈ZU):∀{Cs:List String},(∀C∈Cs,C∈yV)->PySem.W.kitAny K (.type T) (Cs.map Value.type)=some (Cs.any fun C=>j5 T C)
 | [],_=>rfl
 | C::r,h=>by
  have ih:=VD (K:=K) hT (Cs:=r) fun C' hC=>h C' (qV _ hC)
  show(match PySem.W.kitOne K (.type T) (.type C) with | some true=>some true | some false=>PySem.W.kitAny K (.type T) (r.map Value.type) | none=>none)=_
  rw[YW T hT C (h C qP),w4]
  cases j5 T C with
  | true=>rfl
  | false=>rw[ih];rfl
theorem TyN.mem{K:PySem.W.Frag}{H:Hp}{x:V}{T:String}(h:TyN K H x T):T∈ZU:=by
 cases x with
 | non=>cases(show T=_ from h);decide
 | bl _=>cases(show T=_ from h);decide
 | int _=>cases(show T=_ from h);decide
 | str _=>cases(show T=_ from h);decide
 | ref a=>rcases(show _\/_ from h) with ⟨e,_⟩ | ⟨e,_⟩<;>(subst e;decide)
 | _=>exact(show False from h).elim
section
variable{X:Cx}{pins:List (Addr×Obj)}{σ:St}{H:Hp}{s:Shared}
theorem YV{x:V}{u:Value}{T:String}(I:Inv X pins σ H s)(rx:RelV x u)(ty:TyN X.K H x T):∃P:Heap->Prop,P s.heap/\PySem.W.KitX X.K u (.type T) P/\u≠.builtin "__main__.__loader__#opaque" :=by
 cases x with
 | non=>cases(show u=Value.none from rx);cases(show T=_ from ty);exact⟨_,True.intro,PySem.W.kitx_none,fun z=>nomatch z⟩
 | bl y=>cases(show u=Value.bool y from rx);cases(show T=_ from ty);exact⟨_,True.intro,PySem.W.kitx_bool,fun z=>nomatch z⟩
 | int i=>obtain⟨t,q⟩:=(show ∃t,u=Value.int i t from rx);cases q;cases(show T=_ from ty);exact⟨_,True.intro,PySem.W.kitx_int,fun z=>nomatch z⟩
 | str y=>obtain⟨t,q⟩:=(show ∃t,u=Value.str y t from rx);cases q;cases(show T=_ from ty);exact⟨_,True.intro,PySem.W.kitx_str,fun z=>nomatch z⟩
 | ref a=>
  cases(show u=Value.ref a from rx)
  rcases(show _\/_ from ty) with ⟨e,xs,hx⟩ | ⟨e,xs,hx⟩
  ·subst e
   obtain⟨its,r,⟨o,n,e1,e2,_⟩,_⟩:=I.list hx
   exact⟨_,⟨o,e1,e2⟩,PySem.W.kitx_list,fun z=>nomatch z⟩
  ·subst e
   obtain⟨its,r,⟨o,e1,e2,_⟩,_⟩:=I.tuple hx
   exact⟨_,⟨o,e1,e2⟩,PySem.W.kitx_tuple,fun z=>nomatch z⟩
 | _=>exact(show False from ty).elim
end
section
variable{X:Cx}
theorem Yc:∀{Cs:List String} {us:List Value},Vals (Cs.map V.ty) us->us=Cs.map Value.type
 | [],us,r=>by cases r;rfl
 | C::r,us,h=>by
  cases h with
  | cons h1 h2=>rw[Yc h2,show _=Value.type C from h1];rfl
inductive Q2(K:PySem.W.Frag)(xs:List V)(H:Hp)(Q:VK):Prop
 | mk (x T C:_) (_:xs=[x,.ty C]) (_:TyN K H x T) (_:C∈yV) (_:Q (.bl (j5 T C)) H):Q2 K xs H Q
theorem qS:CallR X (.builtin "isinstance") (Q2 X.K):=by
 intro pins s σ H xs us Q I r h
 obtain⟨x,T,C,rfl,ty,hC,q⟩:=h
 obtain⟨u,w',rfl,ru,rw'⟩:=ZA r
 cases(show w'=Value.type C from rw')
 obtain⟨P,hP,Z,hn⟩:=YV I ru ty
 exact PySem.W.kia_one Z I.kIn hP (YW T ty.mem C hC) hn fun tk=>⟨.bl _,H,I.tok tk,rfl,q⟩
inductive ZO(K:PySem.W.Frag)(xs:List V)(H:Hp)(Q:VK):Prop
 | mk (x:V) (T:String) (p:Addr) (Cs:List String) (_:xs=[x,.ref p]) (_:TyN K H x T) (_:H p=some (.tup (Cs.map V.ty))) (_:(∀C∈Cs,C∈yV)) (_:Q (.bl (Cs.any fun C=>j5 T C)) H):ZO K xs H Q
theorem JI:CallR X (.builtin "isinstance") (ZO X.K):=by
 intro pins s σ H xs us Q I r h
 obtain⟨x,T,p,Cs,rfl,ty,hp,hC,q⟩:=h
 obtain⟨u,w',rfl,ru,rw'⟩:=ZA r
 cases(show w'=Value.ref p from rw')
 obtain⟨P,hP,Z,hn⟩:=YV I ru ty
 obtain⟨its,r',⟨o,e1,e2,n,e3⟩,_⟩:=I.tuple (SqT.of hp)
 obtain⟨c,dd,dt,sl⟩:=o
 have e2:c=.type "tuple" :=e2
 have e3:dt=.seq its.toArray n:=e3
 subst e2 e3
 rw[Yc r'] at e1
 exact PySem.W.kia_tup Z I.kIn hP e1 (VD ty.mem hC) hn fun tk=>⟨.bl _,H,I.tok tk,rfl,q⟩
end
inductive Dat where
 | non | bl (b:Bool) | int (i:Int) | str (x:Str) | lst (ds:List Dat) | tup (ds:List Dat)
mutual
def Rep(K:PySem.W.Frag)(H:Hp):Dat->V->Prop
 | .non,v=>v=.non
 | .bl b,v=>v=.bl b
 | .int i,v=>v=.int i
 | .str x,v=>v=.str x
 | .lst ds,v=>∃a xs,v=.ref a/\SqL K H a xs/\Reps K H ds xs
 | .tup ds,v=>∃a xs,v=.ref a/\SqT K H a xs/\Reps K H ds xs
def Reps(K:PySem.W.Frag)(H:Hp):List Dat->List V->Prop
 | [],xs=>xs=[]
 | d::ds,xs=>∃x r,xs=x::r/\Rep K H d x/\Reps K H ds r
end
mutual
def Dat.dp:Dat->Nat
 | .lst ds=>Dat.dps ds+1
 | .tup ds=>Dat.dps ds+1
 | _=>0
def Dat.dps:List Dat->Nat
 | []=>0
 | d::ds=>max d.dp (Dat.dps ds)
end
theorem Same.sqT{K:PySem.W.Frag}{H H':Hp}{a:Addr}{xs:List V}(e:Same H H')(h:SqT K H a xs):SqT K H' a xs:=by
 rcases h with(h | ⟨o,h⟩) | h
 ·exact .inl (.inl (e _ _ h))
 ·exact .inl (.inr ⟨o,e _ _ h⟩)
 ·exact .inr h
mutual
theorem Rep.same{K:PySem.W.Frag}{H H':Hp}(e:Same H H'):∀{d:Dat} {v:V},Rep K H d v->Rep K H' d v
 | .non,_,h=>h
 | .bl _,_,h=>h
 | .int _,_,h=>h
 | .str _,_,h=>h
 | .lst _,_,h=>by
  obtain⟨a,xs,e1,e2,e3⟩:=h
  exact⟨a,xs,e1,e.seq e2,Reps.same e e3⟩
 | .tup _,_,h=>by
  obtain⟨a,xs,e1,e2,e3⟩:=h
  exact⟨a,xs,e1,e.sqT e2,Reps.same e e3⟩
theorem Reps.same{K:PySem.W.Frag}{H H':Hp}(e:Same H H'):∀{ds:List Dat} {xs:List V},Reps K H ds xs->Reps K H' ds xs
 | [],_,h=>h
 | _::_,_,h=>by
  obtain⟨x,r,e1,e2,e3⟩:=h
  exact⟨x,r,e1,Rep.same e e2,Reps.same e e3⟩
end
theorem Reps.len{K:PySem.W.Frag}{H:Hp}:∀{ds:List Dat} {xs:List V},Reps K H ds xs->xs.length=ds.length
 | [],_,h=>by rw[show _=_ from h];rfl
 | _::_,_,h=>by
  obtain⟨x,r,e1,e2,e3⟩:=h
  rw[e1,qU,qU,Reps.len e3]
theorem Reps.get{K:PySem.W.Frag}{H:Hp}:∀{ds:List Dat} {xs:List V} {i:Nat} {x:V},Reps K H ds xs->xs[i]? =some x->∃d,ds[i]? =some d/\Rep K H d x
 | [],_,_,_,h,e=>by rw[show _=_ from h] at e;simp at e
 | d::ds,_,i,x,h,e=>by
  obtain⟨y,r,e1,e2,e3⟩:=h
  subst e1
  cases i with
  | zero=>simp at e;subst e;exact⟨d,rfl,e2⟩
  | succ i=>
   obtain⟨d',q1,q2⟩:=Reps.get (i:=i) e3 (by simpa using e)
   exact⟨d',by simpa using q1,q2⟩
theorem ze{H:Hp}{a:Addr}{o:HO}(h:H a=none):Same H (upd H a o):=fun b u e=>by rw[zi (zj e h)];exact e
def zaX:List V->List V->Bool
 | [],[]=>true
 | x::xs,y::ys=>eqV x y&&zaX xs ys
 | _,_=>false
theorem Qs:∀(xs ys:List V),(((List.range (min xs.length ys.length)).all fun j=>eqV (xs.getD j .non) (ys.getD j .non))&&(xs.length==ys.length))=zaX xs ys
 | [],[]=>rfl
 | [],y::ys=>by simp[zaX]
 | x::xs,[]=>by simp[zaX]
 | x::xs,y::ys=>by
  have ih:=Qs xs ys
  have e1:min (x::xs).length (y::ys).length=min xs.length ys.length+1:=by simp only[qU];omega
  rw[e1,List.range_succ_eq_map,List.all_cons,List.all_map]
  unfold zaX
  rw[<- ih,Bool.and_assoc]
  congr 1
  have e2:((x::xs).length==(y::ys).length)=(xs.length==ys.length):=by
   rw[xP];simp
  rw[e2]
  congr 1
section
variable{X:Cx}
end
structure Dfn(P:Program)(w:World)(K:PySem.W.Frag)(mg:Str->Option Value)(base:Heap)(x:Str)(k:Nat)(ps:List Str)(sp:Sp):Prop where
 ex:∃f fd,FnOk P w K mg base CX0 k f fd ps sp/\mg x=some (.ref f)/\PySem.W.keepIn K (.ref f)=true/\Binds K fd ps []
theorem Dfn.imp{P:Program}{w:World}{K:PySem.W.Frag}{mg:Str->Option Value}{base:Heap}{x:Str}{k:Nat}{ps:List Str}{sp sp':Sp}(D:Dfn P w K mg base x k ps sp)(h:∀vs H Q E,sp' vs H Q E->sp vs H Q E):Dfn P w K mg base x k ps sp':=by
 obtain⟨f,fd,F,r⟩:=D.ex
 exact⟨f,fd,F.imp h,r⟩
section
variable{X:Cx}{x:Str}{k:Nat}{ps:List Str}{sp:Sp}{p pos:Pos}{e:Expr}{es:List Expr}{t:TA}
theorem zk(D:Dfn X.prog X.w X.K X.mg X.base x k ps sp)(hr:Room k X.A)(hg:Gl X x)(ha:PA X (e::es) t)(hd:(x==("__debug__" : Str))=false:=by decide)
  (hs:starEach (e::es) X.env=(false,eval e X.env)::starEach es X.env:=by rfl) (hpl:(backTo pos (starEach es X.env)).any (·.1)=false:=by rfl):PE X (.Call (.Name x p) (e::es) [] pos) (zec sp [] E0 t):=by
 obtain⟨f,fd,F,hm,hk,hb⟩:=D.ex
 exact zdk F hr hg hm hk hb .nil zgs ha hd hs hpl
end
theorem ifT{b:Bool}{A B:Prop}(h:b=true)(q:A):if b=true then A else B:=by rw[zx h];exact q
theorem ifF{b:Bool}{A B:Prop}(h:b=false)(q:B):if b=true then A else B:=by rw[zq (by rw[h];exact qm)];exact q
theorem J9{K:PySem.W.Frag}{k1 k2:Bool}{a1 a2:Addr}{xs ys:List V}{g:TG}{tf:TT}{te:TE}{σ0:St}{n:Nat}{R:List V->Hp->Prop}{H:Hp}(Pv:Nat->List V->Hp->Prop)(h0:Pv 0 [] H)
  (h1:∀i zs H,Pv i zs H->SqK K k1 H a1 xs/\SqK K k2 H a2 ys)
  (hs:∀i x y zs H T,xs[i]? =some x->ys[i]? =some y->Pv i zs H->H T=none->g (.ref T) σ0 (upd H T (.tup [x,y])) fun σ4 H4=>σ4.drop n=σ0.drop n/\tf σ4 H4 fun b H5=>
   if b=true then te σ4 H5 fun v H6=>zs.length<sizeLine/\Pv (i+1) (zs++[v]) H6 else Pv (i+1) zs H5)
  (hd:∀zs H,Pv (min xs.length ys.length) zs H->zs.length<=sizeLine/\R zs H) :
  ∃W:Nat->Nat->List V->Hp->Prop,(∃m,W 0 m [] H)/\∀i m zs H2,W i m zs H2 ->
   ((Itz K k1 k2 a1 a2).stop i H2/\zs.length<=sizeLine/\R zs H2) \/
   ((Itz K k1 k2 a1 a2).go i H2/\∃N:List V->Hp->Prop,(∀zs H',N zs H'->∃m',m'<m/\W (i+1) m' zs H')/\∀x H3,(Itz K k1 k2 a1 a2).yld i H2 x H3->g x σ0 H3 fun σ4 H4=>σ4.drop n=σ0.drop n/\tf σ4 H4 fun b H5=>
    if b=true then te σ4 H5 fun y H6=>zs.length<sizeLine/\N (zs++[y]) H6 else N zs H5):=by
 refine⟨fun i m zs H2=>m=min xs.length ys.length-i/\i<=min xs.length ys.length/\Pv i zs H2,⟨_,rfl,qu _,h0⟩,?_⟩
 rintro i m zs H2 ⟨rfl,hi,p⟩
 obtain⟨q1,q2⟩:=h1 i zs H2 p
 by_cases hlt:i<min xs.length ys.length
 ·have l1:i<xs.length:=by omega
  have l2:i<ys.length:=by omega
  refine .inr ⟨⟨xs,ys,xs[i],ys[i],q1,q2,by simp[l1],by simp[l2]⟩,Pv (i+1),fun zs' H' p'=>⟨_,by omega,rfl,hlt,p'⟩,fun x H3 y=>?_⟩
  obtain⟨T,u,v,e1,hT,e2,y1,y2⟩:=y
  subst e1 e2
  exact hs i u v zs H2 T (y1 xs q1) (y2 ys q2) p hT
 ·have e:i=min xs.length ys.length:=by omega
  subst e
  obtain⟨z1,z2⟩:=hd zs H2 p
  exact .inl ⟨⟨xs,ys,q1,q2,by omega⟩,z1,z2⟩
theorem yP{lo:Int}{N n:Nat}{g:TG}{tf:TT}{te:TE}{σ0:St}{R:List V->Hp->Prop}{H:Hp}(Pv:Nat->List V->Hp->Prop)(h0:Pv 0 [] H)
  (hs:∀i zs H,i<N->Pv i zs H->g (.int (lo+i)) σ0 H fun σ4 H4=>σ4.drop n=σ0.drop n/\tf σ4 H4 fun b H5=>if b=true then te σ4 H5 fun v H6=>zs.length<sizeLine/\Pv (i+1) (zs++[v]) H6 else Pv (i+1) zs H5)
  (hd:∀zs H,Pv N zs H->zs.length<=sizeLine/\R zs H) :
  ∃W:Nat->Nat->List V->Hp->Prop,(∃m,W 0 m [] H)/\∀i m zs H2,W i m zs H2 ->
   ((Itr lo N).stop i H2/\zs.length<=sizeLine/\R zs H2) \/
   ((Itr lo N).go i H2/\∃M:List V->Hp->Prop,(∀zs H',M zs H'->∃m',m'<m/\W (i+1) m' zs H')/\∀x H3,(Itr lo N).yld i H2 x H3->g x σ0 H3 fun σ4 H4=>σ4.drop n=σ0.drop n/\tf σ4 H4 fun b H5=>
    if b=true then te σ4 H5 fun y H6=>zs.length<sizeLine/\M (zs++[y]) H6 else M zs H5):=by
 refine⟨fun i m zs H2=>m=N-i/\i<=N/\Pv i zs H2,⟨_,rfl,qu _,h0⟩,?_⟩
 rintro i m zs H2 ⟨rfl,hi,p⟩
 by_cases hlt:i<N
 ·refine .inr ⟨hlt,Pv (i+1),fun zs' H' p'=>⟨_,by omega,rfl,hlt,p'⟩,fun x H3 y=>?_⟩
  obtain⟨e1,e2⟩:=y
  subst e1 e2
  exact hs i zs _ hlt p
 ·have e:i=N:=by omega
  subst e
  obtain⟨z1,z2⟩:=hd zs H2 p
  exact .inl ⟨zG _,z1,z2⟩
def yq(sn on:List (Str×NameKind))(N own fr:List Str)(js:List Nat):Bool:=
 QD sn on N fr js&&own.all (fun x=>sn.lookup x==some .local)&&decide (own++fr).Nodup
theorem wR{sn on:List (Str×NameKind)}{N own fr:List Str}{js:List Nat}(h:yq sn on N own fr js=true):QD sn on N fr js=true/\(∀x∈own,sn.lookup x=some .local)/\(own++fr).Nodup:=by
 unfold yq at h
 rw[jk,jk,xM] at h
 exact⟨h.1.1,fun x hx=>by simpa using h.1.2 x hx,jA h.2⟩
section
variable{X:Cx}{elt iter:Expr}{ifs:List Expr}{scope:Scope}{pos px py tp:Pos}{wi:TI}{tf:TT}{te:TE}{x y:Str}{kk:Nat}
theorem Zn{N':List Str}{C:Addr}{s:Shared}{H:Hp}{ex:List Addr}{i:Nat}(hl:scope.names.lookup x=some .local)(nd:N'.Nodup)(hi:N'[i]? =some x):PG (qR X N' scope C s H ex) (.Name x px) (vN i):=
 zy (X:=qR X N' scope C s H ex) nd hi (.inl (lookup_relabel_local hl)) (.inr (lookup_relabel_local hl))
theorem j8(fr:List Str)(js:List Nat)(hc:X.calm=true)(hk:scope.kind=.function)(hb:yq scope.names X.env.scope.names X.N [x] fr js=true)(hi:PI X (.Name x px) iter wi)
  (hf:∀C s H ex,PF (qR X ([x]++fr) scope C s H ex) ifs tf) (he:∀C s H ex,PE (qR X ([x]++fr) scope C s H ex) elt te)
  (hs:∀x,foldedSetIterable iter X.env x=pure x:=by intro _;rfl):PE X (.ListComp elt [⟨.Name x px,iter,ifs,0⟩] scope pos) (tLC wi 1 js (vN 0) tf te):=by
 obtain⟨h1,h2,h3⟩:=wR hb
 exact zeB [x] fr js hc hk h1 hi (fun C s H ex=>Zn (h2 x (by simp)) h3 rfl) hf he hs
theorem wa(fr:List Str)(js:List Nat)(hc:X.calm=true)(hk:scope.kind=.function)(hb:yq scope.names X.env.scope.names X.N [x,y] fr js=true)(hi:PI X (.Tuple [.Name x px,.Name y py] kk tp) iter wi)
  (hf:∀C s H ex,PF (qR X ([x,y]++fr) scope C s H ex) ifs tf) (he:∀C s H ex,PE (qR X ([x,y]++fr) scope C s H ex) elt te)
  (hs:∀x,foldedSetIterable iter X.env x=pure x:=by intro _;rfl):PE X (.ListComp elt [⟨.Tuple [.Name x px,.Name y py] kk tp,iter,ifs,0⟩] scope pos) (tLC wi 2 js (zcr X.K 2 (ZD (vN 0) (ZD (vN 1) zdQ))) tf te):=by
 obtain⟨h1,h2,h3⟩:=wR hb
 refine zeB [x,y] fr js hc hk h1 hi (fun C s H ex=>?_) hf he hs
 exact xi (X:=qR X ([x,y]++fr) scope C s H ex) hc (zR (Zn (h2 x (by simp)) h3 rfl) (zR (Zn (h2 y (by simp)) h3 rfl) jH))
end
def tWk(t:TS):TS:=fun D σ H=>∃J:St->Hp->Prop,t { D with nx:=J } σ H/\∀σ' H',J σ' H'->D.nx σ' H'
theorem xQ{X:Cx}{st:Stmt}{t:TS}(h:PS X st t):PS X st (tWk t):=by
 intro pins s σ H D I hw
 obtain⟨J,q1,q2⟩:=hw
 refine thn (h pins s σ H _ I q1) fun f s1 q=>?_
 cases f with
 | next=>obtain⟨σ',H',I',z⟩:=q;exact⟨σ',H',I',q2 σ' H' z⟩
 | brk=>exact q
 | cont=>exact q
 | ret u=>exact q
def Dat.ok:Nat->Dat->Prop
 | n+1,.lst ds=>ds.length<=1000000/\∀d∈ds,Dat.ok n d
 | n+1,.tup ds=>ds.length<=1000000/\∀d∈ds,Dat.ok n d
 | 0,.lst _=>False
 | 0,.tup _=>False
 | _,_=>True
def Dat.tyN:Dat->String
 | .non=> "NoneType" | .bl _=> "bool" | .int _=> "int" | .str _=> "str" | .lst _=> "list" | .tup _=> "tuple"
theorem Rep.ty{K:PySem.W.Frag}{H:Hp}{d:Dat}{v:V}(h:Rep K H d v):TyN K H v d.tyN:=by
 cases d with
 | non=>rw[show v=_ from h];exact rfl
 | bl b=>rw[show v=_ from h];exact rfl
 | int b=>rw[show v=_ from h];exact rfl
 | str b=>rw[show v=_ from h];exact rfl
 | lst ds=>obtain⟨a,xs,rfl,e,_⟩:=h;exact .inl ⟨rfl,xs,e⟩
 | tup ds=>obtain⟨a,xs,rfl,e,_⟩:=h;exact .inr ⟨rfl,xs,e⟩
mutual
def Dat.py:Dat->PyData
 | .non=>.none
 | .bl b=>.bool b
 | .int i=>.int i
 | .str x=>.str x
 | .lst ds=>.list (Dat.pys ds)
 | .tup ds=>.tuple (Dat.pys ds)
def Dat.pys:List Dat->List PyData
 | []=>[]
 | d::ds=>d.py::Dat.pys ds
end
mutual
def Dat.shw:Dat->Bool
 | .int i=>decide (i.natAbs<1000000000000)
 | .str x=>x.cps.toList.all fun c=>decide (c<1000000)
 | .lst ds=>Dat.shws ds
 | .tup ds=>Dat.shws ds
 | _=>true
def Dat.shws:List Dat->Bool
 | []=>true
 | d::ds=>d.shw&&Dat.shws ds
end
mutual
def Dat.blk:Dat->Nat
 | .str x=>x.cps.size
 | .lst ds=>Dat.blks ds
 | .tup ds=>Dat.blks ds
 | _=>0
def Dat.blks:List Dat->Nat
 | []=>0
 | d::ds=>d.blk+1+Dat.blks ds
end
mutual
theorem Dat.py_blk:∀d:Dat,d.py.bulk=d.blk
 | .non=>rfl
 | .bl _=>rfl
 | .int _=>rfl
 | .str _=>rfl
 | .lst ds=>Dat.pys_blk ds
 | .tup ds=>Dat.pys_blk ds
theorem Dat.pys_blk:∀ds:List Dat,PyData.bulkAll (Dat.pys ds)=Dat.blks ds
 | []=>rfl
 | d::ds=>by
  show PyData.bulk d.py+1+PyData.bulkAll (Dat.pys ds)=d.blk+1+Dat.blks ds
  rw[Dat.py_blk d,Dat.pys_blk ds]
end
theorem YS{n:Nat}(h:n<1000000000000):n.log2<1920:=by
 by_cases h0:n=0
 ·rw[h0];decide
 ·exact Nat.lt_trans ((Nat.log2_lt h0).mpr (Nat.lt_trans h (by decide:1000000000000<2^40))) (by decide)
mutual
theorem Dat.py_short:∀d:Dat,d.shw=true->d.py.leavesShort 13=true/\d.py.showable=true/\d.py.hasDict=false
 | .non,_=>⟨rfl,rfl,rfl⟩
 | .bl _,_=>⟨rfl,rfl,rfl⟩
 | .int i,h=>by
  have h':i.natAbs<1000000000000:=jA h
  refine⟨qv (PyData.shown_int_le h'),qv (YS h'),rfl⟩
 | .str x,h=>by
  refine⟨?_,rfl,rfl⟩
  have h':(x.cps.toList.all fun c=>decide (c<1000000))=true:=h
  show(x.cps.toList.all fun c=>decide (c<16^8))=true
  rw[xM] at h' ⊢
  intro c hc
  have:=jA (h' c hc)
  exact qv (by omega)
 | .lst ds,h=>Dat.pys_short ds h
 | .tup ds,h=>Dat.pys_short ds h
theorem Dat.pys_short:∀ds:List Dat,Dat.shws ds=true->PyData.leavesShortAll 13 (Dat.pys ds)=true/\PyData.showableAll (Dat.pys ds)=true/\PyData.hasDictAll (Dat.pys ds)=false
 | [],_=>⟨rfl,rfl,rfl⟩
 | d::ds,h=>by
  have h':(d.shw&&Dat.shws ds)=true:=h
  rw[jk] at h'
  obtain⟨a1,a2,a3⟩:=Dat.py_short d h'.1
  obtain⟨b1,b2,b3⟩:=Dat.pys_short ds h'.2
  refine⟨?_,?_,?_⟩
  ·show(PyData.leavesShort 13 d.py&&PyData.leavesShortAll 13 (Dat.pys ds))=true
   rw[a1,b1];rfl
  ·show(PyData.showable d.py&&PyData.showableAll (Dat.pys ds))=true
   rw[a2,b2];rfl
  ·show(PyData.hasDict d.py||PyData.hasDictAll (Dat.pys ds))=false
   rw[a3,b3];rfl
end
mutual
theorem Rep.reads{X:Cx}{pins:List (Addr×Obj)}{σ:St}{H:Hp}{s:Shared}(I:Inv X pins σ H s):∀{d:Dat} {v:V} {u:Value},Rep X.K H d v->RelV v u->∃as,Reads s.heap u d.py as
 | .non,v,u,h,r=>by cases(show v=_ from h);cases(show u=_ from r);exact⟨_,.none⟩
 | .bl b,v,u,h,r=>by cases(show v=_ from h);cases(show u=_ from r);exact⟨_,.bool b⟩
 | .int i,v,u,h,r=>by cases(show v=_ from h);obtain⟨t,rfl⟩:=r;exact⟨_,.int i t⟩
 | .str x,v,u,h,r=>by cases(show v=_ from h);obtain⟨t,rfl⟩:=r;exact⟨_,.str x t⟩
 | .lst ds,v,u,h,r=>by
  obtain⟨a,xs,rfl,hx,hr⟩:=h
  cases(show u=_ from r)
  obtain⟨its,rv,pl,_⟩:=I.list hx
  obtain⟨o,e,c,n,dd⟩:=pl.isList
  obtain⟨as,q⟩:=Reps.reads I hr rv
  exact⟨_,.list e c dd (by simpa using q)⟩
 | .tup ds,v,u,h,r=>by
  obtain⟨a,xs,rfl,hx,hr⟩:=h
  cases(show u=_ from r)
  obtain⟨its,rv,⟨o,e,c,n,dd⟩,_⟩:=I.tuple hx
  obtain⟨as,q⟩:=Reps.reads I hr rv
  exact⟨_,.tuple e c dd (by simpa using q)⟩
theorem Reps.reads{X:Cx}{pins:List (Addr×Obj)}{σ:St}{H:Hp}{s:Shared}(I:Inv X pins σ H s):∀{ds:List Dat} {xs:List V} {us:List Value},Reps X.K H ds xs->Vals xs us->∃as,ReadsAll s.heap us (Dat.pys ds) as
 | [],xs,us,h,r=>by cases(show xs=_ from h);cases r;exact⟨_,.nil⟩
 | d::ds,xs,us,h,r=>by
  obtain⟨x,r',rfl,h1,h2⟩:=h
  cases r with
  | cons r1 r2=>
   obtain⟨as,q1⟩:=Rep.reads I h1 r1
   obtain⟨bs,q2⟩:=Reps.reads I h2 r2
   exact⟨_,.cons q1 q2⟩
end
section
variable{X:Cx}
inductive ZM(K:PySem.W.Frag)(xs:List V)(H:Hp)(Q:VK):Prop
 | mk (p:Addr) (ns:List Int) (_:xs=[.ref p]) (_:SqL K H p (ns.map V.int)) (_:(∀z∈ns,0<=z/\z<=1000000)) (_:ns.length<=100000) (_:Q (.int ns.sum) H):ZM K xs H Q
theorem za2(hc:X.calm=true):CallR X (.builtin "sum") (ZM X.K):=by
 intro pins s σ H xs us Q I r h
 obtain⟨p,ns,rfl,hq,hz,hn,q⟩:=h
 obtain⟨u,rfl,ru⟩:=vM r
 cases(show u=_ from ru)
 obtain⟨its,rv,pl,_⟩:=I.list hq
 have hl:=pl.isList
 have hpl:p≠s.heap.objs.size:=by
  obtain⟨o,e,_⟩:=hl
  exact qq (zO e)
 have hlen:its.length=ns.length:=by have:=rv.length;rw[zp] at this;omega
 have hps:∀j,j<=ns.length->0<=(ns.take j).sum/\(ns.take j).sum<=1000000*(j:Int):=by
  intro j
  induction j with
  | zero=>intro _;simp
  | succ j ih=>
   intro hj
   have:=ih (by omega)
   have e:ns.take (j+1)=ns.take j++[ns[j]'(by omega)]:=by rw[yd]
   have b:=hz (ns[j]'(by omega)) (wv _)
   rw[e,List.sum_append]
   simp only[List.sum_cons,List.sum_nil]
   constructor
   ·omega
   ·have:(1000000:Int)*((j+1:Nat):Int)=1000000*(j:Int)+1000000:=by omega
    omega
 refine call_sum_walk (wpAny_pyIter_list hl ?_)
 refine⟨s.heap.objs.size,_,_,_,_,_,fun i=>ns.getD i 0,rfl,Walks.list (prog:=X.prog) (w:=X.w) (A:=X.A.in1) (I.ok.hd hc) _ p hpl its.toArray,⟨⟨_,qC _ rfl,rfl,rfl⟩,hl.push _⟩,fun b hb=>?_,fun i v hP=>?_,fun j hj=>?_,fun h' tk t' hk=>?_⟩
 ·have hz':(s.heap.push { cls:=.type "list_iterator",data:=.fields #[.ref p,.int 0 0] }).objs.size=s.heap.objs.size+1:=xf ..
  show b<(s.heap.push _).objs.size
  rw[hz']
  rcases zS.mp hb with z | z
  ·rw[z];exact QG _
  ·rw[qg.mp z]
   obtain⟨o,e,_⟩:=hl
   exact y9 (zO e)
 ·have e1:its[i]? =some v:=by simpa using hP
  have hi:i<ns.length:=by have h1:=(zQ.mp e1).1;omega
  obtain⟨u',eu,ru'⟩:=rv.get (i:=i) (x:=.int ns[i]) (by simp[hi])
  rw[e1] at eu;cases eu
  obtain⟨t,e⟩:=ru'
  exact⟨t,by rw[e];simp[hi]⟩
 ·have hj':j<ns.length:=by simp only[qi] at hj;omega
  have a1:=hz ns[j] (wv hj')
  have a2:=hps (j+1) (by omega)
  have e63:(2:Int)^63=9223372036854775808:=by decide
  refine⟨?_,?_⟩
  ·show InLong (ns.getD j 0)
   rw[show ns.getD j 0=ns[j] by simp[hj']]
   unfold InLong
   rw[e63];omega
  ·rw[preSum_getD]
   unfold InLong
   rw[e63]
   have:((j+1:Nat):Int)<=100000:=by omega
   omega
 ·have k:∀b o,s.heap.get? b=some o->h'.get? b=some o:=fun b o e=>hk b o (by simp;exact qq (zO e)) (qA _ e)
  refine⟨.int ns.sum,H,I.kept k,⟨t',?_⟩,q⟩
  rw[preSum_getD]
  have:ns.take its.toArray.size=ns:=by rw[qi,hlen,jh]
  rw[this]
end
section
variable{X:Cx}{tg:Expr}
end
section
variable{X:Cx}
inductive YH(x:V)(vs:List V)(H:Hp)(Q:VK):Prop
 | mk (l:Addr) (xs:List V) (i:Int) (y:V) (_:x=.ref l) (_:vs=[.int i,y]) (_:H l=some (.lst xs)) (_:0<=i) (_:i<2^62) (_:xs.length<sizeLine) (_:Q .non (upd H l (.lst (xs.take i.toNat++y::xs.drop i.toNat)))):YH  x vs H Q
theorem wI:MtM X "list.insert" YH:=by
 intro pins s σ H x vs v us Q I rx rv h
 obtain⟨l,xs,i,y,rfl,rfl,hH,i0,i1,hz,q⟩:=h
 cases rx
 obtain⟨u1,u2,rfl,r1,r2⟩:=ZA rv
 obtain⟨t,rfl⟩:=r1
 obtain⟨z,its,n,r,hl,e⟩:=I.lstM hH
 have hlen:=r.length
 refine call_meets F.slot_list_insert ⟨_,e,rfl⟩ F.entry_list_insert (F.args_list_insert_3 _ _ _) (AutoListH.list_insert_list_int_val_1 l its.toArray n i t u2 ?_ (by rw[qi];omega)) ⟨e,?_⟩
 ·unfold Builtin.List.listFitsIndex
  simp
  omega
 refine⟨.non,_,I.lset (its':=its.take i.toNat++u2::its.drop i.toNat) hH e ?_ ((r.take _).append (.cons r2 (r.drop _))) ?_,rfl,q⟩
 ·show(have k:=if i<0 then(i+((its.toArray.size:Nat):Int)).toNat else min i.toNat its.toArray.size;(its.toArray.extract 0 k).push u2++its.toArray.extract k)=_
  have hk:(if i<0 then(i+((its.toArray.size:Nat):Int)).toNat else min i.toNat its.toArray.size)=min i.toNat its.length:=by
   rw[zq (by omega),qi]
  simp only[hk]
  apply Array.toList_inj.mp
  simp
  by_cases hle:i.toNat<=its.length
  ·have h1:(its.drop i.toNat).take (its.length-i.toNat)=its.drop i.toNat:=List.take_of_length_le (by rw[ya];omega)
   rw[Nat.min_eq_left hle,h1]
  ·have h1:its.length<=i.toNat:=by omega
   rw[Nat.min_eq_right h1,List.take_of_length_le h1,List.drop_of_length_le h1]
   simp
 ·simp only[zW,qT,qU,ya]
  omega
variable{e st:Expr}{te:TE}{tk:TO}{pos p2:Pos}
end
theorem j4{K:PySem.W.Frag}{a:Addr}{xs:List V}{g:TG}{tf:TT}{te:TE}{σ0:St}{n:Nat}{R:List V->Hp->Prop}{H:Hp}(Pv:Nat->List V->Hp->Prop)(h0:Pv 0 [] H)
  (h1:∀i zs H,Pv i zs H->SqL K H a xs)
  (hs:∀i x zs H,xs[i]? =some x->Pv i zs H->g x σ0 H fun σ4 H4=>σ4.drop n=σ0.drop n/\tf σ4 H4 fun b H5=>
   if b=true then te σ4 H5 fun v H6=>zs.length<sizeLine/\Pv (i+1) (zs++[v]) H6 else Pv (i+1) zs H5)
  (hd:∀zs H,Pv xs.length zs H->zs.length<=sizeLine/\R zs H) :
  ∃W:Nat->Nat->List V->Hp->Prop,(∃m,W 0 m [] H)/\∀i m zs H2,W i m zs H2 ->
   ((Itl K a).stop i H2/\zs.length<=sizeLine/\R zs H2) \/
   ((Itl K a).go i H2/\∃N:List V->Hp->Prop,(∀zs H',N zs H'->∃m',m'<m/\W (i+1) m' zs H')/\∀x H3,(Itl K a).yld i H2 x H3->g x σ0 H3 fun σ4 H4=>σ4.drop n=σ0.drop n/\tf σ4 H4 fun b H5=>
    if b=true then te σ4 H5 fun y H6=>zs.length<sizeLine/\N (zs++[y]) H6 else N zs H5):=by
 refine⟨fun i m zs H2=>m=xs.length-i/\i<=xs.length/\Pv i zs H2,⟨_,rfl,qu _,h0⟩,?_⟩
 rintro i m zs H2 ⟨rfl,hi,p⟩
 have q:=h1 i zs H2 p
 by_cases hlt:i<xs.length
 ·refine .inr ⟨⟨xs,xs[i],q,by simp[hlt]⟩,Pv (i+1),fun zs' H' p'=>⟨_,by omega,rfl,hlt,p'⟩,fun x H3 y=>?_⟩
  obtain⟨e,y⟩:=y
  subst e
  exact hs i x zs _ (y xs q) p
 ·have e:i=xs.length:=by omega
  subst e
  obtain⟨z1,z2⟩:=hd zs H2 p
  exact .inl ⟨⟨xs,q,zG _⟩,z1,z2⟩
theorem wj{K:PySem.W.Frag}{a:Addr}{xs:List V}{g:TG}{tf:TT}{te:TE}{σ0:St}{n:Nat}{R:List V->Hp->Prop}{H:Hp}(Pv:Nat->List V->Hp->Prop)(h0:Pv 0 [] H)
  (h1:∀i zs H,Pv i zs H->SqT K H a xs)
  (hs:∀i x zs H,xs[i]? =some x->Pv i zs H->g x σ0 H fun σ4 H4=>σ4.drop n=σ0.drop n/\tf σ4 H4 fun b H5=>
   if b=true then te σ4 H5 fun v H6=>zs.length<sizeLine/\Pv (i+1) (zs++[v]) H6 else Pv (i+1) zs H5)
  (hd:∀zs H,Pv xs.length zs H->zs.length<=sizeLine/\R zs H) :
  ∃W:Nat->Nat->List V->Hp->Prop,(∃m,W 0 m [] H)/\∀i m zs H2,W i m zs H2 ->
   ((Itt K a).stop i H2/\zs.length<=sizeLine/\R zs H2) \/
   ((Itt K a).go i H2/\∃N:List V->Hp->Prop,(∀zs H',N zs H'->∃m',m'<m/\W (i+1) m' zs H')/\∀x H3,(Itt K a).yld i H2 x H3->g x σ0 H3 fun σ4 H4=>σ4.drop n=σ0.drop n/\tf σ4 H4 fun b H5=>
    if b=true then te σ4 H5 fun y H6=>zs.length<sizeLine/\N (zs++[y]) H6 else N zs H5):=by
 refine⟨fun i m zs H2=>m=xs.length-i/\i<=xs.length/\Pv i zs H2,⟨_,rfl,qu _,h0⟩,?_⟩
 rintro i m zs H2 ⟨rfl,hi,p⟩
 have q:=h1 i zs H2 p
 by_cases hlt:i<xs.length
 ·refine .inr ⟨⟨xs,xs[i],q,by simp[hlt]⟩,Pv (i+1),fun zs' H' p'=>⟨_,by omega,rfl,hlt,p'⟩,fun x H3 y=>?_⟩
  obtain⟨e,y⟩:=y
  subst e
  exact hs i x zs _ (y xs q) p
 ·have e:i=xs.length:=by omega
  subst e
  obtain⟨z1,z2⟩:=hd zs H2 p
  exact .inl ⟨⟨xs,q,zG _⟩,z1,z2⟩
inductive DV(K:PySem.W.Frag)(F:Hp)(n:Nat):V->Prop
 | non:DV K F n .non
 | bl (b:Bool):DV K F n (.bl b)
 | int (i:Int) (h:i.natAbs<=10000000000+n):DV K F n (.int i)
 | str (x:Str) (h:x.length<=n):DV K F n (.str x)
 | lst (a:Addr) (xs:List V) (h:SqL K F a xs) (hl:xs.length<=n) (all:∀x∈xs,DV K F n x):DV K F n (.ref a)
 | tup (a:Addr) (xs:List V) (h:SqT K F a xs) (hl:xs.length<=n) (all:∀x∈xs,DV K F n x):DV K F n (.ref a)
theorem DV.up{K:PySem.W.Frag}{F F':Hp}{n m:Nat}{v:V}(h:DV K F n v)(s:Same F F')(hm:n<=m):DV K F' m v:=by
 induction h with
 | non=>exact .non
 | bl b=>exact .bl b
 | int i h=>exact .int i (by omega)
 | str x h=>exact .str x (by omega)
 | lst a xs h hl all ih=>exact .lst a xs (s.seq h) (by omega) ih
 | tup a xs h hl all ih=>exact .tup a xs (s.sqT h) (by omega) ih
def WX(ex:List Addr)(H:Hp):Hp:=fun c=>if c∈ex then none else H c
theorem WX.le{ex:List Addr}{H:Hp}:Same (WX ex H) H:=fun c o e=>by
 unfold WX at e
 split at e
 ·cases e
 ·exact e
theorem WX.new{ex:List Addr}{H:Hp}{p:Addr}{o:HO}(h:H p=none):Same (WX ex H) (WX ex (upd H p o)):=fun c u e=>by
 unfold WX at e ⊢
 split at e
 ·cases e
 ·rename_i hc
  rw[zq hc,zi (zj e h)]
  exact e
theorem WX.same{ex:List Addr}{H H':Hp}(h:Same H H'):Same (WX ex H) (WX ex H'):=fun c u e=>by
 unfold WX at e ⊢
 split at e
 ·cases e
 ·rename_i hc
  rw[zq hc]
  exact h c u e
theorem WX.cons{ex:List Addr}{H:Hp}{m:Addr}:Same (WX (m::ex) H) (WX ex H):=fun c u e=>by
 unfold WX at e ⊢
 split at e
 ·cases e
 ·rename_i hc
  rw[zq (fun z=>hc (qV _ z))]
  exact e
theorem WX.fresh{ex:List Addr}{H:Hp}{m:Addr}(h:H m=none)(o:HO):Same (WX ex H) (WX (m::ex) (upd H m o)):=fun c u e=>by
 unfold WX at e ⊢
 split at e
 ·cases e
 ·rename_i hc
  have hm:c≠m:=zj e h
  rw[zq (fun z=>(zS.mp z).elim hm hc),zi hm]
  exact e
theorem WX.put{ex:List Addr}{H:Hp}{m:Addr}{o:HO}(h:m∈ex):Same (WX ex H) (WX ex (upd H m o)):=fun c u e=>by
 unfold WX at e ⊢
 split at e
 ·cases e
 ·rename_i hc
  rw[zq hc,zi (show c≠m from fun z=>hc (by rw[z];exact h))]
  exact e
theorem WX.at{ex:List Addr}{H:Hp}{c:Addr}{o:HO}(h:c∉ex)(e:H c=some o):WX ex H c=some o:=by
 unfold WX;rw[zq h];exact e
def zeE:Expr->Bool
 | .Starred _ _=>false
 | _=>true
theorem vk{e:Expr}{es:List Expr}{env:Env}(h:zeE e=true):starEach (e::es) env=(false,eval e env)::starEach es env:=by
 cases e<;>first| rfl | cases h
theorem pa5{X:Cx}{e0 e1 e2 e3 e4:Expr}{t0 t1 t2 t3 t4:TE}(h0:PE X e0 t0)(h1:PE X e1 t1)(h2:PE X e2 t2)(h3:PE X e3 t3)(h4:PE X e4 t4)(h:([e0,e1,e2,e3,e4]).all zeE=true:=by rfl):PA X [e0,e1,e2,e3,e4] (Jg t0 (Jg t1 (Jg t2 (Jg t3 (Jg t4 zf0))))):=by
 have hz:=xM.mp h
 exact(za h0 (za h1 (za h2 (za h3 (za h4 zd (vk (hz _ (by simp)))) (vk (hz _ (by simp)))) (vk (hz _ (by simp)))) (vk (hz _ (by simp)))) (vk (hz _ (by simp))))
section
variable{X:Cx}{elt tg iter:Expr}{ifs:List Expr}{scope:Scope}{pos:Pos}{wi:TI}{g:TG}{tf:TT}{te:TE}
theorem zbb{y:Str}{py:Pos}{g2:TG}{pins:List (Addr×Obj)}{σ:St}{H6:Hp}{Dn:St->Hp->Prop}{s6:Shared}{D C:Addr}{m:Str->Option Value}(hg2:PG X (.Name y py) g2)(hn:s6.heap.Ns C m)
  (all:∀h7:Heap,(∀b o,b≠C->s6.heap.get? b=some o->h7.get? b=some o)->Inv X pins σ H6 { s6 with heap:=h7 }) (fc:x8 X pins H6 C) (q:g2 (.ref D) σ H6 Dn) :
  wpAny (model X.prog X.w) X.A (assign (.Name y py) X.env (.ref D)) (fun _ s''=>∃m,s''.heap.Ns C m/\∀h',Heap.SameBut C s''.heap h'->∃σ' H',Inv X pins σ' H' { s'' with heap:=h' }/\Dn σ' H') X.xe s6:=by
 have J0:=all s6.heap fun b o _ e=>e
 obtain⟨oC,es,ep,eoC,hd,r⟩:=hn
 have J1:=J0.pinned (fp:=[C]) (fun b hb=>by rw[qg.mp hb];exact fc) (fun b hb=>by rw[qg.mp hb];exact⟨oC,eoC,fun v z=>by rw[hd] at z;cases z⟩)
 have mC:(C,oC)∈pins++jf [C] s6.heap:=qH _ (jO (qg.mpr rfl) eoC)
 refine thn (hg2 _ s6 σ _ (.ref D) (.ref D) _ J1 rfl q) fun _ s8 ⟨σ8,H8,I8,q8⟩=>?_
 obtain⟨e8,n8,_⟩:=I8.pin (C,oC) (qH _ mC)
 obtain⟨_,g1,_,g3,g4,g5⟩:=fc
 exact⟨m,⟨oC,es,ep,e8,hd,r⟩,fun h9 hs9=>⟨σ8,H8,(I8.unpinned).turned (t':=s8.toks) (it:=C) (fun b o hb e=>hs9.extBut b o hb e) n8 g1 g3 g4 g5,q8⟩⟩
theorem zez{y:Str}{py spos:Pos}{g2:TG}(own fr:List Str)(js:List Nat)(hc:X.calm=true)(hk:scope.kind=.function)(hb:QD scope.names X.env.scope.names X.N fr js=true)(hi:PI X tg iter wi)
  (hg:∀C s H ex,PG (qR X (own++fr) scope C s H ex) tg g) (hf:∀C s H ex,PF (qR X (own++fr) scope C s H ex) ifs tf) (he:∀C s H ex,PE (qR X (own++fr) scope C s H ex) elt te)
  (hg2:PG X (.Name y py) g2) (hsw:swapsWith (.ListComp elt [⟨tg,iter,ifs,0⟩] scope pos) (some (.Name y py)) spos.line X.env=pure true:=by rfl)
  (hs:∀x,foldedSetIterable iter X.env x=pure x:=by intro _;rfl):PS X (.Assign [.Name y py] (.ListComp elt [⟨tg,iter,ifs,0⟩] scope pos) spos) (V9 (tLC wi own.length js g tf te) g2):=by
 intro pins s σ H Dn I h
 rw[exec_Assign_Name_used _ _ _ _ hsw]
 refine zn (Zx (zn ?_))
 show wpAny _ X.A (do let _<-comprehension (.ListComp elt [⟨tg,iter,ifs,0⟩] scope pos) scope X.env _ (newList []) false (eval iter X.env) (some (assign (.Name y py) X.env))) _ _ s
 refine zn (xp (zeI (rest:=[]) (use:=some (assign (.Name y py) X.env)) (Qx:=fun _ s'=>∃σ' H',Inv X pins σ' H' s'/\Dn.nx σ' H') (Q:=fun v H1=>g2 v σ H1 Dn.nx) own fr js hk hb hi hs I h (fun C D it fp tn J W H2 s3 s4 m0 R a b T tl j fin=>YU hc hg hf he a b T tl j fin) fun s6 D C H6 m hn all fc q=>zbb hg2 hn all fc q) (fun _ s' hq=>zP (zP hq)) fun _ _ e=>e)
theorem We{x y:Str}{px py spos:Pos}{g2:TG}(fr:List Str)(js:List Nat)(hc:X.calm=true)(hk:scope.kind=.function)(hb:yq scope.names X.env.scope.names X.N [x] fr js=true)(hi:PI X (.Name x px) iter wi)
  (hf:∀C s H ex,PF (qR X ([x]++fr) scope C s H ex) ifs tf) (he:∀C s H ex,PE (qR X ([x]++fr) scope C s H ex) elt te)
  (hg2:PG X (.Name y py) g2) (hsw:swapsWith (.ListComp elt [⟨.Name x px,iter,ifs,0⟩] scope pos) (some (.Name y py)) spos.line X.env=pure true:=by rfl)
  (hs:∀x,foldedSetIterable iter X.env x=pure x:=by intro _;rfl):PS X (.Assign [.Name y py] (.ListComp elt [⟨.Name x px,iter,ifs,0⟩] scope pos) spos) (V9 (tLC wi 1 js (vN 0) tf te) g2):=by
 obtain⟨h1,h2,h3⟩:=wR hb
 exact zez [x] fr js hc hk h1 hi (fun C s H ex=>Zn (h2 x (by simp)) h3 rfl) hf he hg2 hsw hs
theorem ze7{x z y:Str}{px pz py spos tp:Pos}{kk:Nat}{g2:TG}(fr:List Str)(js:List Nat)(hc:X.calm=true)(hk:scope.kind=.function)(hb:yq scope.names X.env.scope.names X.N [x,z] fr js=true)(hi:PI X (.Tuple [.Name x px,.Name z pz] kk tp) iter wi)
  (hf:∀C s H ex,PF (qR X ([x,z]++fr) scope C s H ex) ifs tf) (he:∀C s H ex,PE (qR X ([x,z]++fr) scope C s H ex) elt te)
  (hg2:PG X (.Name y py) g2) (hsw:swapsWith (.ListComp elt [⟨.Tuple [.Name x px,.Name z pz] kk tp,iter,ifs,0⟩] scope pos) (some (.Name y py)) spos.line X.env=pure true:=by rfl)
  (hs:∀x,foldedSetIterable iter X.env x=pure x:=by intro _;rfl):PS X (.Assign [.Name y py] (.ListComp elt [⟨.Tuple [.Name x px,.Name z pz] kk tp,iter,ifs,0⟩] scope pos) spos) (V9 (tLC wi 2 js (zcr X.K 2 (ZD (vN 0) (ZD (vN 1) zdQ))) tf te) g2):=by
 obtain⟨h1,h2,h3⟩:=wR hb
 refine zez [x,z] fr js hc hk h1 hi (fun C s H ex=>?_) hf he hg2 hsw hs
 exact xi (X:=qR X ([x,z]++fr) scope C s H ex) hc (zR (Zn (h2 x (by simp)) h3 rfl) (zR (Zn (h2 z (by simp)) h3 rfl) jH))
end
theorem Vals.mem{u:Value}:∀{xs:List V} {us:List Value},Vals xs us->u∈us->∃x∈xs,RelV x u
 | _,_,.nil,h=>by cases h
 | x::xs,v::vs,.cons r t,h=>by
  rcases zS.mp h with e | h
  ·rw[e];exact⟨x,qP,r⟩
  ·obtain⟨y,hy,ry⟩:=Vals.mem t h
   exact⟨y,qV _ hy,ry⟩
section
variable{X:Cx}
theorem zfH{pins:List (Addr×Obj)}{σ:St}{H:Hp}{s:Shared}(I:Inv X pins σ H s){A:Around}(hu:A.units<cLine){a c:Addr}{xs ys:List V}(hx:SqT X.K H a xs)(hy:SqT X.K H c ys)(fx:xs.all jQ=true)(fy:ys.all jQ=true):∃b,SeqAt.EqAt A s (.ref a) (.ref c) b:=by
 by_cases hac:a=c
 ·subst hac
  exact⟨true,WI _⟩
 ·obtain⟨its1,r1,p1,z1⟩:=I.tuple hx
  obtain⟨its2,r2,p2,z2⟩:=I.tuple hy
  have l1:=r1.length
  have l2:=r2.length
  refine⟨_,SeqAt.EqAt.of_refs hac (SeqAt.RcAt.tuples (e:=fun j=>eqV (xs.getD j .non) (ys.getD j .non)) p1 p2 hu (fun j h1 h2=>?_))⟩
  have h1':j<xs.length:=by rw[qi] at h1;omega
  have h2':j<ys.length:=by rw[qi] at h2;omega
  obtain⟨w1,e1,q1⟩:=r1.get (i:=j) (x:=xs[j]) (by simp[h1'])
  obtain⟨w2,e2,q2⟩:=r2.get (i:=j) (x:=ys[j]) (by simp[h2'])
  have g1:its1.toArray[j]=w1:=by simpa using (zQ.mp e1).2
  have g2:its2.toArray[j]=w2:=by simpa using (zQ.mp e2).2
  rw[g1,g2,show xs.getD j .non=xs[j] by simp[h1'],show ys.getD j .non=ys[j] by simp[h2']]
  exact Wz q1 q2 (xM.mp fx _ (wv h1')) (xM.mp fy _ (wv h2'))
inductive JU(K:PySem.W.Frag)(x:V)(y:V)(H:Hp)(Q:VK):Prop
 | mk (a p:Addr) (zs xs:List V) (_:x=.ref a) (_:y=.ref p) (_:SqT K H a zs) (_:zs.all jQ=true) (_:SqL K H p xs) (_:(∀v∈xs,∃(c:Addr) (ws:List V),v=.ref c/\SqT K H c ws/\ws.all jQ=true)) (_:∀r:Bool,Q (.bl r) H):JU K x y H Q
open Classical in
theorem zdm(hu:X.A.units+64<cLine):OpR X (compareOp .In) (JU X.K):=by
 intro pins s σ H x y v u Q I rx ry h
 obtain⟨a,p,zs,xs,rfl,rfl,ha,fa,hp,all,q⟩:=h
 cases rx
 cases ry
 obtain⟨its,r,pl,hz⟩:=I.list hp
 have ex:∀w∈its,∃b,SeqAt.EqAt X.A.in1 s w (.ref a) b:=fun w hw=>by
  obtain⟨x,hx,rxw⟩:=Vals.mem r hw
  obtain⟨c,ws,rfl,hc,fc⟩:=all x hx
  cases rxw
  exact zfH I (by show X.A.units+1<cLine;omega) hc ha fc fa
 refine SeqAt.in_listAt (fun w=>if h:∃b,SeqAt.EqAt X.A.in1 s w (.ref a) b then h.choose else false) pl.isList (fun w hw=>?_) ⟨.bl _,H,I,rfl,q _⟩
 have hw':=ex w (by simpa using hw)
 simp only[hw',dif_pos]
 exact hw'.choose_spec
inductive Q0(K:PySem.W.Frag)(x:V)(y:V)(H:Hp)(Q:VK):Prop
 | mk (a b:Addr) (xs:List V) (_:x=.ref a) (_:y=.ref b) (_:SqL K H a xs) (_:SqL K H b []) (_:Q (.bl (!xs.isEmpty)) H):Q0 K x y H Q
theorem yL(hu:X.A.units<cLine):OpR X (compareOp .NotEq) (Q0 X.K):=by
 intro pins s σ H x y v u Q I rx ry h
 obtain⟨a,b,xs,rfl,rfl,hx,hy,q⟩:=h
 cases rx
 cases ry
 obtain⟨its1,r1,p1,z1⟩:=I.list hx
 obtain⟨its2,r2,p2,z2⟩:=I.list hy
 cases r2
 cases r1 with
 | nil=>exact SeqAt.RcNeAt.lists (e:=fun _=>true) p1.isList p2.isList rfl hu (fun j h1 _=>by simp at h1) _ _ _ _ ⟨.bl _,H,I,rfl,q⟩
 | cons r t=>exact SeqAt.RcNeAt.lists_lengths p1.isList p2.isList (by simp) hu _ _ _ _ ⟨.bl _,H,I,rfl,q⟩
inductive Q1(K:PySem.W.Frag)(x:V)(y:V)(H:Hp)(Q:VK):Prop
 | mk (a b:Addr) (xs:List V) (_:x=.ref a) (_:y=.ref b) (_:SqL K H a xs) (_:SqL K H b []) (_:Q (.bl xs.isEmpty) H):Q1 K x y H Q
theorem Vp(hu:X.A.units<cLine):OpR X (compareOp .Eq) (Q1 X.K):=by
 intro pins s σ H x y v u Q I rx ry h
 obtain⟨a,b,xs,rfl,rfl,hx,hy,q⟩:=h
 cases rx
 cases ry
 obtain⟨its1,r1,p1,z1⟩:=I.list hx
 obtain⟨its2,r2,p2,z2⟩:=I.list hy
 cases r2
 cases r1 with
 | nil=>exact SeqAt.RcAt.lists (e:=fun _=>true) p1.isList p2.isList rfl hu (fun j h1 _=>by simp at h1) _ _ _ _ ⟨.bl _,H,I,rfl,q⟩
 | cons r t=>exact SeqAt.RcAt.lists_lengths p1.isList p2.isList (by simp) hu _ _ _ _ ⟨.bl _,H,I,rfl,q⟩
theorem XW:∀{its:List Value} {n k:Nat},its.length=n->(∀j v,its[j]? =some v->∃t,v=Value.int ((k+j:Nat):Int) t)->Vals ((List.range' k n).map fun i:Nat=>V.int (i:Int)) its
 | [],0,k,_,_=>.nil
 | v::its,n+1,k,hl,h=>by
  rw[List.range'_succ,jJ]
  obtain⟨t,e⟩:=h 0 v rfl
  refine .cons ⟨t,by rw[e];rfl⟩ (XW (by simpa using hl) fun j w hw=>?_)
  obtain⟨t',e'⟩:=h (j+1) w (by simpa using hw)
  exact⟨t',by rw[e',show k+(j+1)=k+1+j by omega]⟩
theorem vC{a:Expr}{ta:TA}{p p2 pos pos2:Pos}(hc:X.calm=true)(hg:Gl X "list")(hm:X.mg "list" = none)(hg2:Gl X "range")(hm2:X.mg "range" = none)(hv:bootBuiltins "list" = some (.type "list"))(ha:PA X [a] ta)(hs:starEach [a] X.env=[(false,eval a X.env)]:=by rfl)
  (he:starEach [.Call (.Name "range" p2) [a] [] pos2] X.env=[(false,eval (.Call (.Name "range" p2) [a] [] pos2) X.env)]:=by rfl) :
  PE X (.Call (.Name "list" p) [.Call (.Name "range" p2) [a] [] pos2] [] pos) (fun σ H Q=>ta σ H fun vs H1=>∃j:Int,vs=[.int j]/\0<=j/\j<=1000000/\∀l,H1 l=none->Q (.ref l) (upd H1 l (.lst ((List.range j.toNat).map fun i:Nat=>V.int (i:Int))))):=by
 intro pins s σ H Q I h
 refine wpAny_Call_Name_kw (vF I hg hm hv ?_ (by decide) (by decide))
 refine QL ?_ he rfl
 rw[he]
 refine QI ?_
 refine Call_ (vF I hg2 hm2 boot_range (QL (thn (ha pos2 pins s σ H _ I h) fun us s1 ⟨vs,H1,I1,r1,q1⟩=>?_) hs rfl))
 obtain⟨j,e,j0,j1,q⟩:=q1
 subst e
 cases r1 with
 | cons r rr=>
  cases rr
  obtain⟨t,rfl⟩:=r
  refine call_range_1 (QQ ?_)
  have I2:Inv X pins σ H1 { s1 with heap:=s1.heap.push { cls:=.type "range",data:=.fields #[.int 0 s1.toks,.int j t,.int 1 (s1.toks+1)] },toks:=s1.toks+1+1 }:=I1.kept fun b o e=>qA _ e
  have e62:(2:Int)^62=4611686018427387904:=by decide
  refine call_list_range (n:=j.toNat) (I.ok.hd hc) (IsRange.new ..) (small_one (by rw[e62];omega) (by rw[e62];omega) (by rw[e62];omega) (by rw[e62];omega)) (by rw[rangeSize_one];split<;>omega) (by omega) fun h' tk acc' c' keep get items=>?_
  refine⟨.ref _,_,I2.laid (t':=tk) (o:=.lst ((List.range j.toNat).map fun i:Nat=>V.int (i:Int))) keep (zG _) ?_,rfl,q _ (I2.hok.fresh (zG _))⟩
  refine⟨by rw[zp,vd,sizeLine_eq];omega,acc'.toList,c',?_,by rw[Array.toArray_toList];exact get⟩
  rw[List.range_eq_range']
  refine XW (by rw[ZK];exact items.1) fun i v hv=>?_
  obtain⟨t',e'⟩:=items.2 i v (by simpa using hv)
  exact⟨t',by rw[e'];congr 1;omega⟩
end
end L2
namespace L2
open PySem PySem.Spec PyProof.Rows
section
variable{prog:Program}{w:World}{A:Around}{E:Value->Shared->Prop}{s:Shared}
end
def Tups(H:Hp)(xs ys:List V)(Ts:List Addr):Prop:=∀(j:Nat) (T:Addr),Ts[j]? =some T->∃x y,xs[j]? =some x/\ys[j]? =some y/\H T=some (.tup [x,y])
theorem Tups.same{H H':Hp}{xs ys:List V}{Ts:List Addr}(h:Tups H xs ys Ts)(s:Same H H'):Tups H' xs ys Ts:=fun j T e=>let ⟨x,y,a,b,c⟩:=h j T e;⟨x,y,a,b,s _ _ c⟩
theorem Tups.snoc{H:Hp}{xs ys:List V}{Ts:List Addr}{T:Addr}{x y:V}(h:Tups H xs ys Ts)(hx:xs[Ts.length]? =some x)(hy:ys[Ts.length]? =some y)(hT:H T=some (.tup [x,y])):Tups H xs ys (Ts++[T]):=fun j U e=>by
 by_cases hj:j<Ts.length
 ·rw[xt hj] at e
  exact h j U e
 ·rw[xu (by omega)] at e
  have:j=Ts.length:=by
   have:=(zQ.mp e).1
   simp at this;omega
  subst this
  simp at e
  subst e
  exact⟨x,y,hx,hy,hT⟩
section
variable{X:Cx}{A:Around}{R:Result->Shared->Prop}
end
section
variable{X:Cx}
theorem yQ{K:PySem.W.Frag}(h:X.K=K):IxR X (ze2 K):=by rw[<- h];exact zJ
theorem jt{K:PySem.W.Frag}(h:X.K=K):IxR X (ze1 K):=by rw[<- h];exact zM
theorem wY{K:PySem.W.Frag}(h:X.K=K):CallR X (.builtin "len") (x6 K):=by rw[<- h];exact zw
theorem j9{K:PySem.W.Frag}(h:X.K=K):OpR X (compareOp .In) (rIn K false):=by rw[<- h];exact wD
theorem wT{K:PySem.W.Frag}(h:X.K=K):OpR X (compareOp .NotIn) (rIn K true):=by rw[<- h];exact yK
inductive JT(x:V)(y:V)(H:Hp)(Q:VK):Prop
 | mk (a b:_) (_:x=.bl a) (_:y=.bl b) (_:Q (.bl (!decide (a=b))) H):JT x y H Q
theorem YN:OpR X (compareOp .IsNot) (JT):=by
 intro pins s σ H x y v u Q I rx ry h
 obtain⟨a,b,rfl,rfl,q⟩:=h
 cases rx
 cases ry
 refine wpAny_isNot_plain (by cases a<;>cases b<;>rfl) (qr I q ?_)
 cases a<;>cases b<;>rfl
end
section
open AutoSeq1 (wpAny_loadPart')
theorem wf(l:Addr)(items:Array Value)(n:Nat)(dct:Option Addr)(sl:Array (Option Value)) :
  Meets (Builtin.«enumerate.__new__» ⟨[.type "enumerate",.ref l],[]⟩) (fun _ R s=>s.heap.get? l=some { cls:=.type "tuple",dict:=dct,data:=.seq items n,slots:=sl } /\
   R (.ok (.ret (.ref (s.heap.push { cls:=.type "tuple_iterator",data:=.fields #[.ref l,.int 0 0] }).objs.size)))
    { s with heap:=(s.heap.push { cls:=.type "tuple_iterator",data:=.fields #[.ref l,.int 0 0] }).push { cls:=.type "enumerate",data:=.fields #[.none,.bool false,.ref s.heap.objs.size,rawInt 0,.none,.none] } }):=
 .of_wp fun prog w A R s h=>by
  obtain⟨hp,g,d,tk,os⟩:=s;obtain⟨hl,h⟩:=h
  have hsub:=sub_enumerate
  have hL:Heap.IsTuple (Shared.heap ⟨hp,g,d,tk,os⟩) l items:=⟨_,hl,rfl,n,rfl⟩
  wp_walk using wpAny_loadPart' hl
  refine wpAny_stack_any fun st=>zP ?_
  split
  ·rename_i c _ _ _ _ _
   cases(c==Value.type "enumerate")
   ·wp_walk using wpAny_loadPart' hl,wpAny_pyIter_tuple hL
    exact⟨_,rfl,h⟩
   ·wp_walk using wpAny_loadPart' hl,wpAny_pyIter_tuple hL
    exact⟨_,rfl,h⟩
  ·wp_walk using wpAny_loadPart' hl,wpAny_pyIter_tuple hL
   exact⟨_,rfl,h⟩
end
section
variable{prog:Program}{w:World}{A:Around}{E:Value->Shared->Prop}{s:Shared}
theorem wq{l:Addr}{items:Array Value}{Q:Value->Shared->Prop}(hL:s.heap.IsTuple l items)
  (h:∀h',IsEnum h' (s.heap.objs.size+1) s.heap.objs.size 0 .none->h'.IsTupleIter s.heap.objs.size l 0->h'.objs.size=s.heap.objs.size+2 ->
   (∀b o,s.heap.get? b=some o->h'.get? b=some o)->Q (.ref (s.heap.objs.size+1)) { s with heap:=h' }) :
  wpAny (model prog w) A (call (.type "enumerate") [.ref l]) Q E s:=by
 obtain⟨⟨c,dct,dt,sl⟩,hl,hc,n,hd⟩:=hL
 replace hc:c=.type "tuple" :=hc
 replace hd:dt=.seq items n:=hd
 subst hc hd
 refine callType_new F.called_enumerate (by decide) (F.typeCall_enumerate_1 _) (F.newCall_enumerate_1 _) (fun obj=>F.args_object_init_2 obj _) F.entry_enumerate_new
  (wf l items n dct sl) ⟨hl,?_⟩
 have hz:(s.heap.push { cls:=.type "tuple_iterator",data:=.fields #[.ref l,.int 0 0] }).objs.size=s.heap.objs.size+1:=xf ..
 show _/\_
 rw[hz]
 have he:IsEnum ((s.heap.push { cls:=.type "tuple_iterator",data:=.fields #[.ref l,.int 0 0] }).push
   { cls:=.type "enumerate",data:=.fields #[.none,.bool false,.ref s.heap.objs.size,rawInt 0,.none,.none] }) (s.heap.objs.size+1) s.heap.objs.size 0 .none:=by
  have:=qC (s.heap.push { cls:=.type "tuple_iterator",data:=.fields #[.ref l,.int 0 0] })
   (o:={ cls:=.type "enumerate",data:=.fields #[.none,.bool false,.ref s.heap.objs.size,rawInt 0,.none,.none] }) rfl
  rw[hz] at this;exact this
 refine⟨⟨_,he,rfl⟩,h _ he ⟨_,qA _ (qC _ rfl),rfl,rfl⟩ (by rw[xf,hz]) fun b o x=>qA _ (qA _ x)⟩
theorem Draws.tuple{prog:Program}{w:World}{A:Around}(hh:A.handled=none)(it l:Addr)(hne:l≠it)(items:Array Value) :
  Draws prog w A it [it,l] items.size (fun i v=>items[i]? =some v) (fun i h=>h.IsTupleIter it l i/\h.IsTuple l items) where
 live:=fun _ _ st=>let ⟨o,ho,_⟩:=st.1;⟨o,ho⟩
 frame:=fun _ _ _ st hk=>⟨ItrK.at (kd:=false) st.1 fun o e=>hk it (by simp) o e,SeqK.at (kd:=false) st.2 fun o e=>hk l (by simp) o e⟩
 item:=fun i s Q E hi st hQ=>by
  refine vD (kd:=false) st.1 st.2 (x:=items[i]) (by simp[hi]) fun h' hit' hs'=>?_
  exact hQ _ h' s.toks (by simp[hi]) ⟨hit',SeqK.at (kd:=false) st.2 fun o e=>hs'.extBut l o hne e⟩ hs'
 done:=fun s Q E st hE=>wF (kd:=false) hh st.1 st.2 (by simp) hE
end
def zcY(K:PySem.W.Frag)(a:Addr):It:=
 ⟨fun i H=>∃xs x,SqT K H a xs/\xs[i]? =some x,fun i H x H'=>∃T y,x=.ref T/\H T=none/\H'=upd H T (.tup [.int i,y])/\∀xs,SqT K H a xs->xs[i]? =some y,fun i H=>∃xs,SqT K H a xs/\xs.length<=i⟩
theorem V5{P:Program}{w:World}{K:PySem.W.Frag}{elts:List Expr}{kk:Nat}{pos:Pos}(a e it:Addr)(hne:e≠it) :
  QZ P w K (.Tuple elts kk pos) (zcY K a) [e,it] e (fun i h=>(∃old,IsEnum h e it i old)/\h.IsTupleIter it a i) where
 mem:=by simp
 obj:=fun i h st b hb=>by
  obtain⟨⟨old,he⟩,⟨o,ho,c,d⟩⟩:=st
  rcases zS.mp hb with z | z
  ·subst z;exact⟨_,he,fun v q=>nomatch q⟩
  ·rw[qg.mp z];exact⟨o,ho,fun v q=>by rw[d] at q;cases q⟩
 keep:=fun i h h' st k=>by
  obtain⟨⟨old,he⟩,hi⟩:=st
  exact⟨⟨old,k e (by simp) _ he⟩,ItrK.at (kd:=false) hi fun o q=>k it (by simp) o q⟩
 item:=by
  intro X hP hw hK hc i pins s σ H E I hf st hg
  subst hP hw hK
  obtain⟨⟨old,he⟩,hit⟩:=st
  obtain⟨xs,x,hq,hx⟩:=hg
  obtain⟨its,rv,p,hz⟩:=I.tuple hq
  obtain⟨u,hu,ru⟩:=rv.get hx
  have hl:s.heap.IsTuple a its.toArray:=p
  have hai:a≠it:=fun z=>by
   obtain⟨o,e1,c1,_⟩:=hl
   obtain⟨o',e2,c2,_⟩:=hit
   rw[z,e2] at e1;cases e1;rw[c2] at c1;exact absurd (ZI c1) (by decide)
  have hae:e≠a:=fun z=>by
   obtain⟨o,e1,c1,_⟩:=hl
   rw[<- z,he] at e1;cases e1;exact absurd (ZI c1) (by decide)
  have D:=Draws.tuple (prog:=X.prog) (w:=X.w) (A:=X.A.in1) (I.ok.hd hc) it a hai its.toArray
  have hi:i<its.toArray.size:=by
   have h1:=(zQ.mp hu).1
   simpa using h1
  refine wpAny_pyNext_enum_itemD D he ⟨hit,hl⟩ hi hne (by simp[hne,hae]) fun x' h' tk hP' hout hst' hT hsz hk=>?_
  have ex:x'=u:=by
   have h2:its[i]? =some x':=by simpa using hP'
   rw[hu] at h2;exact(jK h2).symm
  subst ex
  refine⟨_,rfl,wpAny_letOwnedTupleGo_enum hout fun h2 he2 hs2=>?_⟩
  have eT:s.heap.objs.size≠e:=xY (zO he)
  have k2:∀b o,b∉[e,it]->s.heap.get? b=some o->h2.get? b=some o:=fun b o hb q=>by
   have n1:b≠e:=fun z=>hb (by simp[z])
   have n2:b≠it:=fun z=>hb (by simp[z])
   exact(hs2.2 b n1).trans (hk b o n1 n2 q)
  have it2:h2.IsTupleIter it a (i+1):=ItrK.at (kd:=false) hst'.1 fun o q=>hs2.extBut it o (qz hne) q
  refine⟨.ref s.heap.objs.size,upd H s.heap.objs.size (.tup [.int i,x]),?_,rfl,⟨_,x,rfl,I.hok.fresh (zG _),rfl,fun ys hy=>by rw[I.tuple_inj hy hq];exact hx⟩,⟨⟨_,by simpa using he2⟩,it2⟩,fun b hb=>?_⟩
  ·refine Xb (s:=s) (h':=h2) (t':=tk+1) (its:=[.int i tk,x']) I hf (zG _) k2 (by rw[sizeLine_eq];exact(by decide:2<=16777216)) (.cons ⟨tk,rfl⟩ (.cons ru .nil)) (TupX.by ((hs2.2 _ eT).trans hT))
  ·have hb':b<s.heap.objs.size:=by
    rcases zS.mp hb with z | z
    ·rw[z];exact zO he
    ·rw[qg.mp z]
     obtain⟨o',e',_⟩:=hit
     exact zO e'
   rw[zi (qq hb')]
   exact(hf b hb).1
 done:=by
  intro X hP hw hK hc i pins s σ H E I hf st hg
  subst hP hw hK
  obtain⟨⟨old,he⟩,hit⟩:=st
  obtain⟨xs,hq,hx⟩:=hg
  obtain⟨its,rv,p,hz⟩:=I.tuple hq
  have hl:s.heap.IsTuple a its.toArray:=p
  have hai:a≠it:=fun z=>by
   obtain⟨o,e1,c1,_⟩:=hl
   obtain⟨o',e2,c2,_⟩:=hit
   rw[z,e2] at e1;cases e1;rw[c2] at c1;exact absurd (ZI c1) (by decide)
  obtain⟨f0,f1,f2,f3,f4,f5⟩:=hf it (by simp)
  have hle:its.toArray.size<=i:=by
   have:=rv.length
   simp only[qi];omega
  have hT:s.TypeIs (.ref e) "enumerate" :=⟨_,he,rfl⟩
  unfold pyNext
  refine zn (yy (Zb (name:=Str.ofString "__next__") hT XI (ww XI hT F.entry_enumerate_next ?_ (F.args_enumerate_next_1 _))))
  show wpAny _ _ (field (.ref e) 2 >>= _) _ _ _
  refine zn (xJ he rfl (x:=.ref it) rfl (zn (wF (kd:=false) (I.ok.hd hc) hit hl (by simpa using hle) fun h' x he' hx'=>?_)))
  obtain⟨o,ho,hc'⟩:=hx'
  refine zn (ZJ (T:= "StopIteration") (b:=true) ⟨o,ho,hc'⟩ isSubtype_stop ?_)
  exact zP ⟨rfl,I.turned (t':=s.toks) (fun b o hb q=>he' b o hb q) f0 f1 f3 f4 f5⟩
 self:=fun _ _ _ _ _ st h=>let ⟨⟨_,he⟩,_⟩:=st;wpAny_pyIter_enum he h
section
variable{X:Cx}
def zfB(K:PySem.W.Frag)(ta:TA):TI:=fun σ H R=>ta σ H fun vs H1=>∃a,vs=[.ref a]/\(∃xs,SqT K H1 a xs)/\R (zcY K a) H1
theorem zbT{l:Expr}{ta:TA}{p pos tp:Pos}{elts:List Expr}{kk:Nat}(hg:Gl X "enumerate")(hm:X.mg "enumerate" = none)(ha:PA X [l] ta)(hs:starEach [l] X.env=[(false,eval l X.env)]:=by rfl) :
  PI X (.Tuple elts kk tp) (.Call (.Name "enumerate" p) [l] [] pos) (zfB X.K ta):=by
 intro pins s σ H R I h
 refine Call_ (vF I hg hm boot_enumerate (QL (thn (ha pos pins s σ H _ I h) fun us s1 ⟨vs,H1,I1,r1,q1⟩=>?_) hs rfl))
 obtain⟨a,e,⟨xs,hq⟩,q⟩:=q1
 subst e
 obtain⟨u,rfl,ru⟩:=vM r1
 cases ru
 obtain⟨its,rv,pl,hz⟩:=I1.tuple hq
 refine wq pl fun h' he hi hsz hk=>wpAny_pyIter_enum he ?_
 have I2:Inv X pins σ H1 { s1 with heap:=h' }:=I1.kept (t':=s1.toks) hk
 refine⟨s1.heap.objs.size+1,[s1.heap.objs.size+1,s1.heap.objs.size],_,_,H1,rfl,I2,V5 a _ _ (Nat.succ_ne_self _),⟨⟨_,he⟩,hi⟩,fun b hb=>?_,q⟩
 have hb':s1.heap.objs.size<=b:=by
  rcases zS.mp hb with z | z
  ·rw[z];exact vL _
  ·rw[qg.mp z];exact zG _
 exact I1.fpOk hb' (I1.hok.fresh hb')
end
end L2
namespace L2
open PySem PySem.Spec PyProof.Rows
section
variable{prog:Program}{w:World}{A:Around}{R:Result->Shared->Prop}{s:Shared}
end
def Sub:St->St->Prop
 | [],[]=>True
 | none::r,_::r'=>Sub r r'
 | some v::r,x::r'=>x=some v/\Sub r r'
 | _,_=>False
theorem Sub.len:∀{a b:St},Sub a b->a.length=b.length
 | [],[],_=>rfl
 | [],_::_,h=>h.elim
 | none::_,[],h=>h.elim
 | some _::_,[],h=>h.elim
 | none::r,_::r',h=>by rw[qU,qU,Sub.len (a:=r) (b:=r') h]
 | some _::r,_::r',h=>by rw[qU,qU,Sub.len (a:=r) (b:=r') h.2]
theorem Sub.get:∀{a b:St} {i:Nat} {v:V},Sub a b->a[i]? =some (some v)->b[i]? =some (some v)
 | [],[],_,_,_,e=>e
 | [],_::_,_,_,h,_=>h.elim
 | none::_,[],_,_,h,_=>h.elim
 | some _::_,[],_,_,h,_=>h.elim
 | none::r,_::r',0,v,h,e=>by simp at e
 | none::r,_::r',i+1,v,h,e=>by
  rw[List.getElem?_cons_succ] at e ⊢
  exact Sub.get (a:=r) (b:=r') h e
 | some _::r,_::r',0,v,h,e=>by
  rw[List.getElem?_cons_zero] at e ⊢
  rw[h.1];exact e
 | some _::r,_::r',i+1,v,h,e=>by
  rw[List.getElem?_cons_succ] at e ⊢
  exact Sub.get (a:=r) (b:=r') h.2 e
section
variable{X:Cx}{elt tg1 iter1:Expr}{ifs1:List Expr}{tg iter:Expr}{ifs:List Expr}{scope:Scope}{pos:Pos}{wi wi1:TI}{g g1:TG}{tf tf1:TT}{te:TE}
end
section
variable{X:Cx}
inductive ZP(K:PySem.W.Frag)(xs:List V)(H:Hp)(Q:VK):Prop
 | mk (p:Addr) (bs:List Bool) (_:xs=[.ref p]) (_:SqL K H p (bs.map V.bl)) (_:Q (.bl (bs.any id)) H):ZP K xs H Q
theorem wP(hc:X.calm=true):CallR X (.builtin "any") (ZP X.K):=by
 intro pins s σ H xs us Q I r h
 obtain⟨p,bs,rfl,hq,q⟩:=h
 obtain⟨u,rfl,ru⟩:=vM r
 cases ru
 obtain⟨its,rv,pl,hz⟩:=I.list hq
 have hl:=pl.isList
 have hpl:p≠s.heap.objs.size:=by
  obtain⟨o,e,_⟩:=hl
  exact qq (zO e)
 refine call_any_walk (wpAny_pyIter_list hl ?_)
 refine⟨s.heap.objs.size,_,_,_,_,_,fun i=>bs.getD i false,rfl,Walks.list (prog:=X.prog) (w:=X.w) (A:=X.A.in1) (I.ok.hd hc) _ p hpl its.toArray,⟨⟨_,qC _ rfl,rfl,rfl⟩,hl.push _⟩,?_,fun h' tk hk=>?_⟩
 ·intro i v s' Q' E' hP hQ
  have hP:its.toArray[i]? =some v:=hP
  have e1:its[i]? =some v:=by simpa using hP
  have hi:i<bs.length:=by
   have h1:=(zQ.mp e1).1
   have h2:=rv.length
   rw[zp] at h2
   omega
  have e2:(bs.map V.bl)[i]? =some (.bl bs[i]):=by simp[hi]
  obtain⟨u',eu,ru⟩:=rv.get e2
  rw[e1] at eu
  cases eu
  cases ru
  have e3:bs.getD i false=bs[i]:=by simp[hi]
  have hQ2:Q' (bs.getD i false) s':=hQ
  rw[e3] at hQ2
  exact Za hQ2
 ·have k:∀b o,s.heap.get? b=some o->h'.get? b=some o:=fun b o e=>hk b o (by simp;exact qq (zO e)) (qA _ e)
  have ea:(List.range its.toArray.size).any (fun i=>bs.getD i false)=bs.any id:=by
   have hlen:its.toArray.size=bs.length:=by
    have:=rv.length
    rw[zp] at this
    simp only[qi];omega
   rw[hlen,xP,vO,vO]
   constructor
   ·rintro⟨i,hi,e⟩
    have hi:=xK.mp hi
    exact⟨bs[i],wv hi,by simpa [hi] using e⟩
   ·rintro⟨b,hb,e⟩
    obtain⟨i,hi,rfl⟩:=QW.mp hb
    exact⟨i,xK.mpr hi,by simpa [hi] using e⟩
  exact⟨.bl (bs.any id),H,I.kept k,by rw[ea];rfl,q⟩
theorem yY:bootBuiltins "any" = some (.builtin "any"):=by decide +kernel
theorem VF:∀{ns:List Int} {its:List Value},Vals (ns.map V.int) its->IntsAre its ns
 | [],its,h=>by cases h;exact .nil
 | n::ns,its,h=>by
  cases h with
  | cons r q=>
   obtain⟨t,rfl⟩:=r
   exact .cons n t (VF q)
theorem JD{α β:Type}(f:α->β):∀(l:List α) (i:Nat),(l.eraseIdx i).map f=(l.map f).eraseIdx i
 | [],_=>rfl
 | _::_,0=>rfl
 | a::r,i+1=>by
  show f a::(r.eraseIdx i).map f=f a::(r.map f).eraseIdx i
  rw[JD f r i]
inductive Vk(x:V)(vs:List V)(H:Hp)(Q:VK):Prop
 | mk (l:Addr) (ns:List Int) (k:Int) (_:x=.ref l) (_:vs=[.int k]) (_:H l=some (.lst (ns.map V.int))) (_:k∈ns) (_:Q .non (upd H l (.lst ((ns.erase k).map V.int)))):Vk  x vs H Q
theorem Wr:MtM X "list.remove" Vk:=by
 intro pins s σ H x vs v us Q I rx rv h
 obtain⟨l,ns,k,rfl,rfl,hH,hk,q⟩:=h
 cases rx
 obtain⟨u,rfl,ru⟩:=rv.one
 obtain⟨t,rfl⟩:=ru
 obtain⟨z,its,n,r,hl,e⟩:=I.lstM hH
 rw[zp] at hl z
 have hj:ns.idxOf k<ns.length:=zcR hk
 have val:∀i (hi:i<its.length),isInt k its[i]=(ns[i]'(by omega)==k):=fun i hi=>by
  have e2:(ns.map V.int)[i]? =some (.int (ns[i]'(by omega))):=by simp[show i<ns.length by omega]
  obtain⟨u',eu,ru⟩:=r.get e2
  rw[qX hi] at eu
  cases eu
  obtain⟨t',e'⟩:=ru
  rw[e']
  rfl
 refine call_meets F.slot_list_remove ⟨_,e,rfl⟩ F.entry_list_remove (F.args_list_remove_2 _ _) (MeetsSeq.list_remove l its.toArray n (.int k t) (isInt k) (fun y hy=>eq_isInt k t (VF r) y (by simpa using hy)) (ns.idxOf k) (by simp;omega) ?_ ?_ (by simp;omega)) ⟨e,?_⟩
 ·rw[List.getElem_toArray,val _ (by omega)]
  simp
 ·intro m hm hlt
  rw[List.getElem_toArray,val _ (by simpa using hm)]
  have:=List.not_of_lt_findIdx (p:=(·==k)) (xs:=ns) (i:=m) (by exact hlt)
  simpa using this
 refine⟨.non,_,I.lset (its':=its.eraseIdx (ns.idxOf k)) hH e ?_ ?_ ?_,rfl,q⟩
 ·apply Array.toList_inj.mp
  simp[Array.toList_eraseIdxIfInBounds]
 ·have em:(ns.erase k).map V.int=(ns.map V.int).eraseIdx (ns.idxOf k):=by rw[List.erase_eq_eraseIdx_of_idxOf rfl,JD]
  rw[em]
  exact r.eraseIdx _
 ·rw[zp]
  exact jj (List.length_erase_le) z
end
theorem zck{K:PySem.W.Frag}{a:Addr}{xs:List V}{g:TG}{tf:TT}{te:TE}{σ0:St}{n:Nat}{R:List V->Hp->Prop}{H:Hp}(Pv:Nat->List V->Hp->Prop)(h0:Pv 0 [] H)
  (h1:∀i zs H,Pv i zs H->SqT K H a xs)
  (hs:∀i x zs H T,xs[i]? =some x->Pv i zs H->H T=none->g (.ref T) σ0 (upd H T (.tup [.int i,x])) fun σ4 H4=>σ4.drop n=σ0.drop n/\tf σ4 H4 fun b H5=>
   if b=true then te σ4 H5 fun v H6=>zs.length<sizeLine/\Pv (i+1) (zs++[v]) H6 else Pv (i+1) zs H5)
  (hd:∀zs H,Pv xs.length zs H->zs.length<=sizeLine/\R zs H) :
  ∃W:Nat->Nat->List V->Hp->Prop,(∃m,W 0 m [] H)/\∀i m zs H2,W i m zs H2 ->
   ((zcY K a).stop i H2/\zs.length<=sizeLine/\R zs H2) \/
   ((zcY K a).go i H2/\∃N:List V->Hp->Prop,(∀zs H',N zs H'->∃m',m'<m/\W (i+1) m' zs H')/\∀x H3,(zcY K a).yld i H2 x H3->g x σ0 H3 fun σ4 H4=>σ4.drop n=σ0.drop n/\tf σ4 H4 fun b H5=>
    if b=true then te σ4 H5 fun y H6=>zs.length<sizeLine/\N (zs++[y]) H6 else N zs H5):=by
 refine⟨fun i m zs H2=>m=xs.length-i/\i<=xs.length/\Pv i zs H2,⟨_,rfl,qu _,h0⟩,?_⟩
 rintro i m zs H2 ⟨rfl,hi,p⟩
 have q:=h1 i zs H2 p
 by_cases hlt:i<xs.length
 ·refine .inr ⟨⟨xs,xs[i],q,by simp[hlt]⟩,Pv (i+1),fun zs' H' p'=>⟨_,by omega,rfl,hlt,p'⟩,fun x H3 y=>?_⟩
  obtain⟨T,z,e1,hT,e2,y⟩:=y
  subst e1 e2
  exact hs i z zs H2 T (y xs q) p hT
 ·have e:i=xs.length:=by omega
  subst e
  obtain⟨z1,z2⟩:=hd zs H2 p
  exact .inl ⟨⟨xs,q,zG _⟩,z1,z2⟩
section
variable{X:Cx}{elt iter1:Expr}{ifs1:List Expr}{iter:Expr}{ifs:List Expr}{scope:Scope}{pos:Pos}{wi wi1:TI}{tf tf1:TT}{te:TE}{x y z:Str}{px py pz tp tp2:Pos}{kk kk2:Nat}
end
section
variable{X:Cx}
inductive Ze(K:PySem.W.Frag)(xs:List V)(H:Hp)(Q:VK):Prop
 | mk (v:V) (d:Dat) (_:xs=[v]) (_:Rep K H d v) (_:d.shw=true) (_:d.blk<=1048576) (_:d.py.depth<=60) (_:Q (.str d.py.shown) H):Ze K xs H Q
theorem QA(hg:X.A.guards=some [])(hu:X.A.units+64<cLine):CallR X (.builtin "repr") (Ze X.K):=by
 intro pins s σ H xs us Q I r h
 obtain⟨v,d,rfl,hr,h1,h2,h3,q⟩:=h
 obtain⟨u,rfl,ru⟩:=vM r
 obtain⟨s1,s2,s3⟩:=Dat.py_short d h1
 have fits:d.py.shown.length<=sizeLine:=PyData.shown_fits_bulk (B:=13) (by decide) (by decide) s1 (by rw[Dat.py_blk];exact h2)
 have onRef:∀(a:Addr),v=.ref a->wpAny (model X.prog X.w) X.A (call (.builtin "repr") [u]) (EP X pins σ Q) X.xe s:=fun a e=>by
  subst e
  obtain⟨as,q1⟩:=hr.reads I ru
  cases(show u=_ from ru)
  exact repr_of_reads' q1 s2 (PyData.noDict_hsm s3) hg (by omega) (fun _ _ e=>e) (fun h' u tk hk=>⟨.str d.py.shown,H,I.kept hk,⟨u,rfl⟩,q⟩) fits
 cases d with
 | non=>
  cases(show v=_ from hr)
  cases(show u=_ from ru)
  exact P.repr_of_none ⟨.str _,H,I.tok _,⟨_,rfl⟩,q⟩
 | bl b=>
  cases(show v=_ from hr)
  cases(show u=_ from ru)
  refine P.repr_of_bool ⟨.str _,H,I.tok _,⟨s.toks,?_⟩,q⟩
  cases b<;>rfl
 | int i=>
  cases(show v=_ from hr)
  obtain⟨t,rfl⟩:=ru
  exact P.repr_of_int (YS (jA h1)) ⟨.str _,H,I.tok _,⟨_,rfl⟩,q⟩
 | str x=>
  cases(show v=_ from hr)
  obtain⟨t,rfl⟩:=ru
  exact P.repr_of_str ⟨.str _,H,I.tok _,⟨_,rfl⟩,q⟩ fits
 | lst ds=>obtain⟨a,_,e,_⟩:=id hr;exact onRef a e
 | tup ds=>obtain⟨a,_,e,_⟩:=id hr;exact onRef a e
theorem JJ:bootBuiltins "repr" = some (.builtin "repr"):=by decide +kernel
def tLT(K:PySem.W.Frag)(t:TE):TT:=fun σ H Q=>t σ H fun x H1=>∃a xs,x=.ref a/\SqL K H1 a xs/\Q (!xs.isEmpty) H1
theorem zdb{e:Expr}{t:TE}(h:PE X e t)(he:∀whole,isTrue e X.env whole=(do let v<-whole;standAt e.pos;holding [v] (truthy v)):=by intro _;rfl):PT X e (tLT X.K t):=by
 intro pins s σ H Q I hw
 refine isTrue_plain (thn (h pins s σ H _ I hw) fun v s1 ⟨x,H1,I1,r1,q1⟩=>?_) (he _)
 obtain⟨a,xs,rfl,hq,q⟩:=q1
 cases(show v=_ from r1)
 obtain⟨its,rv,pl,hz⟩:=I1.list hq
 have hl:=rv.length
 refine wpAny_truthy_list pl.isList (by rw[qi,<- hl];rw[sizeLine_eq] at hz;omega) ?_
 have e:(!xs.isEmpty)=(!its.toArray.isEmpty):=by
  cases xs with
  | nil=>cases rv;rfl
  | cons y ys=>cases rv;rfl
 first
  | exact⟨H1,I1.tok _,by rw[e] at q;simpa using q⟩
  | exact⟨H1,I1,by rw[e] at q;simpa using q⟩
end
section
variable{X:Cx}{elt tg1 iter1:Expr}{ifs1:List Expr}{tg iter:Expr}{ifs:List Expr}{scope:Scope}{pos:Pos}{wi wi1:TI}{g g1:TG}{tf tf1:TT}{te:TE}{x z:Str}{px pz tp tp2:Pos}{kk kk2:Nat}
end
def JB:Nat->List Obj->PySem.W.Frag
 | _,[]=>[]
 | n,o::r=>match o.data with
  | .freed=>JB (n+1) r
  | _=>(n,o)::JB (n+1) r
def Xf(h:Heap):PySem.W.Frag:=JB 0 h.objs.toList
theorem VH:∀{l:List Obj} {n a:Nat} {o:Obj},(JB n l).lookup a=some o->n<=a/\l[a-n]? =some o/\o.data≠.freed
 | [],n,a,o,h=>by cases h
 | x::r,n,a,o,h=>by
  have tail:(JB (n+1) r).lookup a=some o->n<=a/\(x::r)[a-n]? =some o/\o.data≠.freed:=fun h=>by
   obtain⟨h1,h2,h3⟩:=VH h
   refine⟨by omega,?_,h3⟩
   rw[show a-n=(a-(n+1))+1 by omega];exact h2
  unfold JB at h
  split at h
  ·exact tail h
  ·rename_i nf
   rw[jE] at h
   split at h
   ·rename_i e
    cases h
    have:=jZ.mp e
    subst this
    exact⟨zG _,by simp,nf⟩
   ·exact tail h
theorem zaW(h:Heap):(Xf h).In h:=fun a o e=>by
 obtain⟨_,h2,h3⟩:=VH e
 have h2:h.objs[a]? =some o:=by simpa using h2
 unfold Heap.get?
 rw[h2]
 obtain⟨c,d,dt,sl⟩:=o
 cases dt<;>first| rfl | exact absurd rfl h3
inductive Fd(K:PySem.W.Frag)(nm:Str)(st:Stmt):Prop
 | mk (f:Addr) (fd:FuncData) (a:PySem.W.nsIn K mainGlobals nm=some (some (.ref f))) (F:Fun K nm nm st f fd):Fd K nm st
def zgI:Value->Bool
 | .none=>true
 | _=>false
def Xh(K:PySem.W.Frag)(nm:Str):Option (Arguments×FuncBody×Scope×Bool):=match PySem.W.nsIn K mainGlobals nm with
 | some (some (.ref f))=>(match K.lookup f with
  | some ⟨_,_,.func fd,_⟩=>some (fd.params,fd.body,fd.scope,fd.name==nm&&(fd.qualname==nm&&(fd.globals==mainGlobals&&(fd.closure.isEmpty&&(zgI fd.defaults&&(fd.builtins==builtinsNs&&PySem.W.codeIn K fd.code nm))))))
  | _=>none)
 | _=>none
def Y5(st:Stmt):Option (Arguments×FuncBody×Scope×Bool):=some (yT st,.stmts (vb st),zu st,true)
theorem zgQ{K:PySem.W.Frag}{nm:Str}{st:Stmt}(e:Xh K nm=Y5 st):Fd K nm st:=by
 unfold Xh Y5 at e
 split at e
 ·rename_i f hf
  split at e
  ·rename_i c d fd sl hl
   simp only[Xy,Prod.mk.injEq,jk] at e
   obtain⟨e1,e2,e3,n1,n2,n3,n4,n5,n6,n7⟩:=e
   obtain⟨nm',qn,pa,bo,sc,gl,cl,de,kw,doc,pm,an,cd,ct,bl⟩:=fd
   dsimp only at e1 e2 e3 n1 n2 n3 n4 n5 n6 n7
   have n1:=jZ.mp n1
   have n2:=jZ.mp n2
   have n3:=jZ.mp n3
   have n4:=List.isEmpty_iff.mp n4
   have n6:=jZ.mp n6
   have n5:de=.none:=by cases de<;>first| rfl | exact Bool.noConfusion n5
   subst e1 e2 e3 n1 n2 n3 n4 n5 n6
   exact⟨f,_,hf,⟨⟨_,_,_,_,_,_,_,_,_,rfl,hl,n7⟩,by unfold PySem.W.keepIn;dsimp only;rw[hl]⟩⟩
  ·cases e
 ·cases e
theorem zfF{K:PySem.W.Frag}{l:List (Str×Stmt)}(e:l.map (fun x=>Xh K x.1)=l.map fun x=>Y5 x.2)(i:Nat){nm:Str}{st:Stmt}(h:l[i]? =some (nm,st)):Fd K nm st:=by
 have:=congrArg (fun z=>z[i]?) e
 simp only[qJ,h,yz,Xy] at this
 exact zgQ this
theorem zd0{K:PySem.W.Frag}{l:List Str}(e:l.map (fun x=>PySem.W.nsIn K mainGlobals x)=l.map fun _=>some none){x:Str}(i:Nat)(h:l[i]? =some x):PySem.W.nsIn K mainGlobals x=some none:=by
 have:=congrArg (fun z=>z[i]?) e
 simpa only[qJ,h,yz,Xy] using this
def zc2:List Value->Option (List Str)
 | []=>some []
 | .str x _::r=>(zc2 r).map (x:: ·)
 | _=>none
def V2(K:PySem.W.Frag)(nm:Str):Option (List Str×Bool):=match PySem.W.nsIn K mainGlobals nm with
 | some (some (.ref a))=>(match K.lookup a with
  | some ⟨.type t,_,.seq vs _,_⟩=>(zc2 vs.toList).map fun l=>(l,t == "tuple" && decide (vs.size<=1000))
  | _=>none)
 | _=>none
theorem Jc:∀{vs:List Value} {l:List Str},zc2 vs=some l->Vals (l.map V.str) vs
 | [],l,h=>by cases h;exact .nil
 | v::r,l,h=>by
  cases v<;>first| (cases h;done) | skip
  simp only[zc2] at h
  obtain⟨l',h1,rfl⟩:=qw.mp h
  exact .cons ⟨_,rfl⟩ (Jc h1)
theorem zfU{K:PySem.W.Frag}{nm:Str}{l:List Str}(e:V2 K nm=some (l,true)):∃a:Addr,PySem.W.nsIn K mainGlobals nm=some (some (.ref a))/\∀H,SqT K H a (l.map V.str):=by
 unfold V2 at e
 split at e
 ·rename_i a ha
  split at e
  ·rename_i t _ vs n sl hl
   obtain⟨l',h1,h2⟩:=qw.mp e
   simp only[Prod.mk.injEq,jk,decide_eq_true_eq] at h2
   obtain⟨rfl,h3,h4⟩:=h2
   have h3:=jZ.mp h3
   subst h3
   exact⟨a,ha,fun H=>.inr ⟨_,_,_,hl,rfl,rfl,yw (zaB h4),Jc h1⟩⟩
  ·cases e
 ·cases e
def zdE(ds:List (Str×Stmt))(bs:List Str)(ts:List (Str×List Str))(K:PySem.W.Frag):List (Option (Arguments×FuncBody×Scope×Bool))×List (Option (Option Value))×List (Option (List Str×Bool)):=
 (ds.map fun x=>Xh K x.1,bs.map fun x=>PySem.W.nsIn K mainGlobals x,ts.map fun x=>V2 K x.1)
def zdT(ds:List (Str×Stmt))(bs:List Str)(ts:List (Str×List Str)):List (Option (Arguments×FuncBody×Scope×Bool))×List (Option (Option Value))×List (Option (List Str×Bool)):=
 (ds.map fun x=>Y5 x.2,bs.map fun _=>some none,ts.map fun x=>some (x.2,true))
def zfK(s:Stmt):Pos:=match s with
 | .FunctionDef _ _ _ _ _ _ _ _ _ p=>p
 | _=>⟨0,0,0,0⟩
def defRec(x:Str)(s:Stmt):DefRec:=⟨x,yT s,vb s,zu s,zfK s⟩
structure Tp(P:Program)(w:World)(K:PySem.W.Frag)(mg:Str->Option Value)(base h:Heap)(ds:List (Str×Stmt))(bs:List Str)(ts:List (Str×List Str)):Prop where
 x:K.In h
 g:h.Ns mainGlobals mg
 e:zdE ds bs ts K=zdT ds bs ts
section
variable{P:Program}{w:World}{K:PySem.W.Frag}{mg:Str->Option Value}{base h:Heap}{ds:List (Str×Stmt)}{bs:List Str}{ts:List (Str×List Str)}
theorem Tp.fd(Z:Tp P w K mg base h ds bs ts)(i:Nat){nm:Str}{st:Stmt}(hi:ds[i]? =some (nm,st)):Fd K nm st:=zfF (congrArg Prod.fst Z.e) i hi
theorem Tp.bl(Z:Tp P w K mg base h ds bs ts)(i:Nat){x:Str}(hi:bs[i]? =some x):mg x=none:=PySem.W.mg_none_of Z.x Z.g (zd0 (congrArg (fun z=>z.2.1) Z.e) i hi)
theorem Tp.tx(Z:Tp P w K mg base h ds bs ts)(i:Nat){x:Str}{l:List Str}(hi:ts[i]? =some (x,l)):∃a:Addr,mg x=some (.ref a)/\∀H,SqT K H a (l.map V.str):=by
 have:=congrArg (fun z=>z.2.2[i]?) Z.e
 simp only[zdE,zdT,qJ,hi,yz,Xy] at this
 obtain⟨a,h1,h2⟩:=zfU this
 exact⟨a,PySem.W.mg_of Z.x Z.g h1,h2⟩
theorem Tp.dfn(Z:Tp P w K mg base h ds bs ts)(i:Nat){nm:Str}{st:Stmt}{k:Nat}{ps:List Str}{sp:Sp}(hi:ds[i]? =some (nm,st))
  (ok:∀f fd,Fun K nm nm st f fd->mg nm=some (.ref f)->Binds K fd ps []->FnOk P w K mg base CX0 k f fd ps sp)
  (hb:∀(kV doc pm:Value) (an:Option Addr) (cdv ct:Value) (us:List Value),us.length=ps.length->bindArgs (PySem.W.fnOf nm nm (yT st) (vb st) (zu st) .none kV doc pm an cdv ct) ⟨us,[]⟩=pure (ps.zip us):=by
   intro _ _ _ _ _ _ us hl;first| (obtain⟨_,rfl⟩:=zgH hl;rfl) | (obtain⟨_,_,rfl⟩:=zgG hl;rfl) | (obtain⟨_,_,_,rfl⟩:=zgF hl;rfl) | (obtain⟨_,_,_,_,rfl⟩:=zgE hl;rfl) | (obtain⟨_,_,_,_,_,rfl⟩:=zgD hl;rfl) | (obtain⟨_,_,_,_,_,_,rfl⟩:=zgC hl;rfl) | (exact match us,hl with | [],_=>rfl)) :
  Dfn P w K mg base nm k ps sp:=by
 obtain⟨f,fd,a,F⟩:=Z.fd i hi
 have b:=F.binds hb
 have m:=PySem.W.mg_of Z.x Z.g a
 exact⟨f,fd,ok f fd F m b,m,F.kp,b⟩
end
inductive Seen{β:Type}(f:PySem.W.Frag->β)(v:β)(w:World)(h:Heap):Prop
 | mk (K:PySem.W.Frag) (k:K.In h) (e:f K=v):Seen f v w h
theorem Seen.keeps{β:Type}{f:PySem.W.Frag->β}{v:β}(w:World)(h h':Heap)(s:Seen f v w h)(k:∀b o,h.get? b=some o->h'.get? b=some o):Seen f v w h':=by
 obtain⟨K,x,e⟩:=s
 exact⟨K,x.keeps k,e⟩
theorem walkS{l:PySem.W.OpenLaw}{n k:Nat}{q:Program}{loose:List Str}{XP:(Str->Option Value)->Heap->Prop}{β:Type}{f:PySem.W.Frag->β}{v:β}{d:DefRec}{sp:PySem.W.Frag->Sp}{x:Str}
  (hn:l.most=some n) (hn2:n<=sizeLine) (hdf:d.params.defaults=[]) (hr:Room k callerA)
  (F:∀(w:World) (mg:Str->Option Value) (fa:Addr) (K:PySem.W.Frag) (h:Heap),K.In h->f K=v->h.Ns mainGlobals mg->mg d.name=some (.ref fa) ->
   ∃fd:FuncData,(∀(s:Shared) (u:Value),BindsTo s fd ⟨[u],[]⟩ [(x,u)]) /\
    ∀base:Heap,K.In base->base.Ns mainGlobals mg->FnOk l.prog w K mg base CX0 k fa fd [x] (sp K))
  (hsp:∀(K:PySem.W.Frag) (H:Hp) (a:Addr) (ns:List Int),ns.length<=n->zd9 H->SqL K H a (ns.map V.int)->sp K [.ref a] H (fun v _=>v=.bl true) fun _ _ _=>False) :
  PySem.W.WalkO q loose XP (Seen f v) l.row.toRowW d [] (fun f vs=>PySem.call f vs):=by
 refine Att.attach_call hn hdf fun w s₀ s₁ mg mb fa o pm cd doc a vs ns G Y ho hd hcd hmg hobj hints hlen hg=>?_
 obtain⟨K,KX,e⟩:=Y
 obtain⟨fd,hb,hF⟩:=F w mg fa K _ KX e G.T.g hmg
 exact VC KX G.T.g G.T.b G.T.builtins G.T.nolimit hg hobj hints (jj hlen hn2) hr hF hb (fun H hO hS=>hsp K H a ns hlen hO hS) fun H e s' z=>z
theorem ownHead{l:PySem.W.OpenLaw}{q:Program}{loose:List Str}{β:Type}{f:PySem.W.Frag->β}{v:β}{d:DefRec}(N:Nat)
  (said:l.wellSaid=true)
  (left:∀w,(PySem.W.openEnds treeTable l.prog w N).map (fun s=>(PySem.W.openSeen q loose (importedModules l.prog.main.body) (fun _=>true) true s,f (Xf s.heap)))=some (PySem.W.openGood q loose,v))
  (hdef:PySem.W.defOf q l.name=some (d,[])) (hp:l.prog.theDef l.name=some (d.params,d.body,d.scope)) (hk:PySem.W.kwWritten? d.params.kwonlyargs d.params.kw_defaults=some [])
  (ok:(PySem.W.chainsOk q&&PySem.W.opensWell l.prog&&(PySem.W.frees l.row.toRowW&&l.row.within.isEmpty))=true) (hb:l.prog.bare) (hw:l.row.toRowW.promised)
  (call:PySem.W.WalkO q loose (fun _ _=>True) (Seen f v) l.row.toRowW d [] fun f vs=>PySem.call f vs):l.Holds:=
 PySem.W.holds_law said fun k1=>PySem.W.holds_open (r:=l.row) (Yf:=fun s=>f (Xf s.heap)) (Ya:=fun _=>v) left (fun _ s e=>⟨_,zaW s.heap,e⟩) Seen.keeps (fun _ _=>trivial) (fun _ _ _ _ _=>trivial) hdef hp hk (fun _ _=>PySem.W.recFacts_nil rfl) (Bool.or_true _) k1 ok hb hw call
def topL(i:Nat):Stmt:=PySem.Challenge.pw_pickboard_k40_events_that_lie_right.main.body.getD i (.Pass ⟨0,0,0,0⟩)
structure Blt(mg:Str->Option Value):Prop where
 abs:mg "abs" = none
 all:mg "all" = none
 any:mg "any" = none
 bool:mg "bool" = none
 dict:mg "dict" = none
 divmod:mg "divmod" = none
 enumerate:mg "enumerate" = none
 int:mg "int" = none
 isinstance:mg "isinstance" = none
 len:mg "len" = none
 list:mg "list" = none
 max:mg "max" = none
 min:mg "min" = none
 range:mg "range" = none
 repr:mg "repr" = none
 sorted:mg "sorted" = none
 str:mg "str" = none
 sum:mg "sum" = none
 tuple:mg "tuple" = none
 zip:mg "zip" = none
theorem yZ:bootBuiltins "abs" = some (.builtin "abs"):=by decide +kernel
theorem VT:bootBuiltins "max" = some (.builtin "max"):=by decide +kernel
theorem VU:bootBuiltins "divmod" = some (.builtin "divmod"):=by decide +kernel
theorem vq:bootBuiltins "int" = some (.type "int"):=by decide +kernel
theorem jq:bootBuiltins "list" = some (.type "list"):=by decide +kernel
theorem jB:bootBuiltins "tuple" = some (.type "tuple"):=by decide +kernel
theorem QB:bootBuiltins "str" = some (.type "str"):=by decide +kernel
theorem vt:bootBuiltins "bool" = some (.type "bool"):=by decide +kernel
theorem vc:bootBuiltins "sorted" = some (.builtin "sorted"):=by decide +kernel
theorem za3:bootBuiltins "dict" = some (.type "dict"):=by decide +kernel
def yB(i:Int):Int:=if i<0 then -i else i
def zgi:Str:= "abcdefghijklmnopqrstuvwxyz"
def VB(c:Nat):Bool:=decide (97<=c)&&decide (c<=122)
theorem zci:zgi.cps.toList=List.range' 97 26:=by decide +kernel
def WA:List (Str×Stmt):=[(("is_number" : Str),topL 1),(("is_number_within" : Str),topL 2),(("turned" : Str),topL 4),(("next_by" : Str),topL 5),(("steps_from" : Str),topL 6),(("all_from" : Str),topL 7),(("ahead_of" : Str),topL 8),(("are_same" : Str),topL 10),(("is_same" : Str),topL 11),(("events_of" : Str),topL 13),(("is_laid_right" : Str),topL 14),(("lies_right" : Str),topL 15),(("_law_box" : Str),topL 17),(("_law_take" : Str),topL 18),(("_law_folded" : Str),topL 19),(("_law_same" : Str),topL 20),(("_law_spelled" : Str),topL 21),(("_law_name" : Str),topL 22),(("_law_names" : Str),topL 23),(("_law_place" : Str),topL 24),(("_law_places" : Str),topL 25),(("_law_shuffled" : Str),topL 26),(("_law_feeders" : Str),topL 27),(("_law_aheads" : Str),topL 28),(("_law_job" : Str),topL 29),(("_law_order" : Str),topL 30),(("_law_trip" : Str),topL 31),(("_law_plan" : Str),topL 32),(("_law_way" : Str),topL 33),(("_law_over" : Str),topL 34),(("_law_luck" : Str),topL 35),(("_law_tried" : Str),topL 36),(("_law_trip_run" : Str),topL 37),(("_law_run_due" : Str),topL 38),(("_law_case" : Str),topL 39),(("_law_lies" : Str),topL 40),(("_law_bent" : Str),topL 41),(("_law_right" : Str),topL 42),(("law" : Str),topL 43)]
def za4:List Str:=[("abs" : Str),("all" : Str),("any" : Str),("bool" : Str),("dict" : Str),("divmod" : Str),("enumerate" : Str),("int" : Str),("isinstance" : Str),("len" : Str),("list" : Str),("max" : Str),("min" : Str),("range" : Str),("repr" : Str),("sorted" : Str),("str" : Str),("sum" : Str),("tuple" : Str),("zip" : Str)]
def zay:List (Str×List Str):=[]
def zf9:List Str:=WA.dropLast.map (·.1)++[("__name__" : Str)]
def zeW:Program:={ PySem.Challenge.pw_pickboard_k40_events_that_lie_right with main:={ PySem.Challenge.pw_pickboard_k40_events_that_lie_right.main with body:=[topL 43] } }
theorem head1:PySem.Challenge.rw_pickboard_k40_events_that_lie_right.wellSaid=true:=by kernel_rfl
theorem head2:∀w,(PySem.W.openEnds treeTable PySem.Challenge.pw_pickboard_k40_events_that_lie_right w 9999).map (fun s=>(PySem.W.openSeen zeW zf9 (importedModules PySem.Challenge.pw_pickboard_k40_events_that_lie_right.main.body) (fun _=>true) true s,zdE WA za4 zay (Xf s.heap)))=some (PySem.W.openGood zeW zf9,zdT WA za4 zay):=fun w=>by kernel_rfl
theorem head3:(PySem.W.chainsOk zeW&&PySem.W.opensWell PySem.Challenge.pw_pickboard_k40_events_that_lie_right&&(PySem.W.frees PySem.Challenge.rw_pickboard_k40_events_that_lie_right.row.toRowW&&PySem.Challenge.rw_pickboard_k40_events_that_lie_right.row.within.isEmpty))=true:=by kernel_rfl
section
variable{κ:Type}[DecidableEq κ]
def je(kvs:List (κ×V))(k:κ):Option V:=(kvs.find? fun kv=>decide (kv.1=k)).map (·.2)
def j6(kvs:List (κ×V))(k:κ)(v:V):List (κ×V):=
 if(kvs.any fun kv=>decide (kv.1=k))=true then kvs.map (fun kv=>if kv.1=k then(kv.1,v) else kv) else kvs++[(k,v)]
def zeG(kvs:List (κ×V))(k:κ):List (κ×V):=kvs.filter fun kv=>decide (kv.1≠k)
theorem jx{p:κ×V}{r:List (κ×V)}{k:κ}(e:p.1=k):je (p::r) k=some p.2:=by simp[je,Zy,e]
theorem jy{p:κ×V}{r:List (κ×V)}{k:κ}(e:¬p.1=k):je (p::r) k=je r k:=by simp[je,Zy,e]
theorem vi(k:κ):∀kvs:List (κ×V),(kvs.any fun kv=>decide (kv.1=k))=(je kvs k).isSome
 | []=>rfl
 | p::r=>by
  rw[w4]
  by_cases e:p.1=k
  ·simp only[jx e,qv e,Bool.true_or,Option.isSome_some]
  ·rw[jy e,jS e,Xo];exact vi k r
theorem XX(k j:κ)(y:V):∀kvs:List (κ×V),je (kvs.map fun kv=>if kv.1=k then(kv.1,y) else kv) j=(je kvs j).map fun x=>if j=k then y else x
 | []=>rfl
 | p::r=>by
  have ih:=XX k j y r
  rw[jJ]
  by_cases h:p.1=k
  ·rw[zx h]
   by_cases e:p.1=j
   ·rw[jx (p:=(p.1,y)) e,jx e,yz,zx (e.symm.trans h)]
   ·rw[jy (p:=(p.1,y)) e,jy e,ih]
  ·rw[zq h]
   by_cases e:p.1=j
   ·rw[jx (p:=p) e,jx e,yz,zq (fun z=>h (e.trans z))]
   ·rw[jy (p:=p) e,jy e,ih]
theorem Jb(k j:κ)(y:V):∀kvs:List (κ×V),je kvs k=none->je (kvs++[(k,y)]) j=if j=k then some y else je kvs j
 | [],_=>by
  by_cases e:k=j
  ·rw[zx e.symm];exact jx (p:=(k,y)) e
  ·rw[zq (fun z=>e z.symm)];exact jy (p:=(k,y)) e
 | p::r,hn=>by
  rw[List.cons_append]
  have hk:¬p.1=k:=fun z=>by rw[jx z] at hn;cases hn
  rw[jy hk] at hn
  have ih:=Jb k j y r hn
  by_cases e:p.1=j
  ·rw[jx e,jx e,zq (fun z=>hk (e.trans z))]
  ·rw[jy e,jy e,ih]
theorem Z5(kvs:List (κ×V))(k j:κ)(y:V):je (j6 kvs k y) j=if j=k then some y else je kvs j:=by
 unfold j6
 by_cases a:(kvs.any fun kv=>decide (kv.1=k))=true
 ·rw[zx a,XX]
  rw[vi] at a
  by_cases e:j=k
  ·obtain⟨x,hx⟩:=Option.isSome_iff_exists.mp a
   rw[zx e,e,hx,yz,zx rfl]
  ·rw[zq e]
   cases je kvs j with
   | none=>rfl
   | some x=>rw[yz,zq e]
 ·rw[zq a]
  refine Jb k j y kvs ?_
  rw[vi] at a
  cases q:je kvs k with
  | none=>rfl
  | some x=>rw[q] at a;exact(a rfl).elim
theorem xI(kvs:List (κ×V))(k:κ)(v:V):(j6 kvs k v).length<=kvs.length+1:=by
 unfold j6
 split
 ·rw[zp];omega
 ·rw[zW,qU,Xv];omega
theorem Vl{kvs:List (κ×V)}{k:κ}(v:V)(h:je kvs k=none):j6 kvs k v=kvs++[(k,v)]:=by
 unfold j6
 rw[vi,h]
 exact zq (by decide)
theorem RelO.isSome_eq{o:Option V}{u:Option Value}(r:RelO o u):o.isSome=u.isSome:=by
 cases o with
 | none=>cases u with
  | none=>rfl
  | some _=>exact(show False from r).elim
 | some _=>cases u with
  | none=>exact(show False from r).elim
  | some _=>rfl
theorem RelO.getD{o:Option V}{u:Option Value}{d:V}{d':Value}(r:RelO o u)(rd:RelV d d'):RelV (o.getD d) (u.getD d'):=by
 cases o with
 | none=>cases u with
  | none=>exact rd
  | some _=>exact(show False from r).elim
 | some _=>cases u with
  | none=>exact(show False from r).elim
  | some _=>exact r
theorem KV.val{kvs:List (κ×V)}{vs:List (κ×Value)}(r:KV kvs vs)(k:κ):RelO (je kvs k) (valueAt vs k):=by
 unfold KV at r
 induction r with
 | nil=>exact True.intro
 | @cons p q ps qs h t ih=>
  obtain⟨h1,h2⟩:=h
  by_cases e:p.1=k
  ·have e':q.1=k:=h1.symm.trans e
   have b:valueAt (q::qs) k=some q.2:=by simp[valueAt,Zy,e']
   rw[jx e,b];exact h2
  ·have e':¬q.1=k:=fun z=>e (h1.trans z)
   have b:valueAt (q::qs) k=valueAt qs k:=by simp[valueAt,Zy,e']
   rw[jy e,b];exact ih
theorem KV.any{kvs:List (κ×V)}{vs:List (κ×Value)}(r:KV kvs vs)(k:κ):(kvs.any fun kv=>decide (kv.1=k))=vs.any fun kv=>decide (kv.1=k):=by
 unfold KV at r
 induction r with
 | nil=>rfl
 | cons h t ih=>rw[w4,w4,ih,h.1]
theorem KV.repl{kvs:List (κ×V)}{vs:List (κ×Value)}(r:KV kvs vs)(k:κ){y:V}{u:Value}(ry:RelV y u) :
  KV (kvs.map fun kv=>if kv.1=k then(kv.1,y) else kv) (vs.map fun kv=>if kv.1=k then(kv.1,u) else kv):=by
 unfold KV at r ⊢
 induction r with
 | nil=>exact .nil
 | @cons p q ps qs h t ih=>
  rw[jJ,jJ]
  refine .cons ?_ ih
  obtain⟨h1,h2⟩:=h
  by_cases e:p.1=k
  ·rw[zx e,zx (h1.symm.trans e)];exact⟨h1,ry⟩
  ·rw[zq e,zq (fun z=>e (h1.trans z))];exact⟨h1,h2⟩
theorem KV.put{kvs:List (κ×V)}{vs:List (κ×Value)}(r:KV kvs vs)(k:κ){y:V}{u:Value}(ry:RelV y u):KV (j6 kvs k y) (stored vs k u):=by
 unfold j6 stored
 rw[r.any k]
 by_cases e:(vs.any fun kv=>decide (kv.1=k))=true
 ·rw[zx e,zx e];exact r.repl k ry
 ·rw[zq e,zq e];exact Paired.snoc r ⟨rfl,ry⟩
theorem KV.drop{kvs:List (κ×V)}{vs:List (κ×Value)}(r:KV kvs vs)(k:κ):KV (zeG kvs k) (without vs k):=by
 unfold KV at r ⊢
 unfold zeG without
 induction r with
 | nil=>exact .nil
 | @cons p q ps qs h t ih=>
  obtain⟨h1,h2⟩:=h
  rw[w9,w9]
  by_cases e:p.1=k
  ·have a:¬decide (p.1≠k)=true:=by simp[e]
   have b:¬decide (q.1≠k)=true:=by simp[h1.symm.trans e]
   rw[zq a,zq b];exact ih
  ·have e':¬q.1=k:=fun z=>e (h1.trans z)
   have a:decide (p.1≠k)=true:=by simp[e]
   have b:decide (q.1≠k)=true:=by simp[e']
   rw[zx a,zx b];exact .cons ⟨h1,h2⟩ ih
theorem KV.keys{kvs:List (κ×V)}{vs:List (κ×Value)}(r:KV kvs vs):kvs.map (·.1)=vs.map (·.1):=by
 unfold KV at r
 induction r with
 | nil=>rfl
 | cons h t ih=>rw[jJ,jJ,ih,h.1]
theorem KV.length{kvs:List (κ×V)}{vs:List (κ×Value)}(r:KV kvs vs):kvs.length=vs.length:=Xp r
end
theorem wU{P:Program}{w:World}{k:Key}{u:Value}(r:RelV (kV k) u):(qh P w).is k u=true:=by
 cases k with
 | inl i=>obtain⟨t,e⟩:=(show ∃t,u=Value.int i t from r);subst e;exact Vw P w i t
 | inr x=>obtain⟨t,e⟩:=(show ∃t,u=Value.str x t from r);subst e;exact Vv P w x t
theorem Jy{P:Program}{w:World}:∀{ks:List Key} {us:List Value},Vals (ks.map kV) us->ItemsAre (qh P w) ks us
 | [],_,r=>by rw[yu] at r;cases r;exact .nil
 | k::ks,_,r=>by
  rw[jJ] at r
  cases r with
  | cons h t=>exact .cons (wU h) (Jy t)
abbrev KT(H:Hp):List (List Key×V)->List (List Key×Addr×Value)->Prop:=Paired fun p q=>p.1=q.1/\H q.2.1=some (.tup (p.1.map kV))/\RelV p.2 q.2.2
theorem KT.val{H:Hp}{kvs:List (List Key×V)}{xs:List (List Key×Addr×Value)}(r:KT H kvs xs)(k:List Key):RelO (je kvs k) ((atKey xs k).map (·.2)):=by
 induction r with
 | nil=>exact True.intro
 | @cons p q ps qs h t ih=>
  obtain⟨h1,_,h2⟩:=h
  by_cases e:p.1=k
  ·have e':q.1=k:=h1.symm.trans e
   have b:atKey (q::qs) k=some q.2:=by simp[atKey,Zy,e']
   rw[jx e,b];exact h2
  ·have e':¬q.1=k:=fun z=>e (h1.trans z)
   have b:atKey (q::qs) k=atKey qs k:=by simp[atKey,Zy,e']
   rw[jy e,b];exact ih
theorem KT.repl{H:Hp}{kvs:List (List Key×V)}{xs:List (List Key×Addr×Value)}(r:KT H kvs xs)(k:List Key){y:V}{u:Value}(ry:RelV y u) :
  KT H (kvs.map fun kv=>if kv.1=k then(kv.1,y) else kv) (xs.map (putAt k u)):=by
 induction r with
 | nil=>exact .nil
 | @cons p q ps qs h t ih=>
  rw[jJ,jJ]
  refine .cons ?_ ih
  obtain⟨h1,h2,h3⟩:=h
  unfold putAt
  by_cases e:p.1=k
  ·rw[zx e,zx (h1.symm.trans e)];exact⟨h1,h2,ry⟩
  ·rw[zq e,zq (fun z=>e (h1.trans z))];exact⟨h1,h2,h3⟩
theorem KT.put{H:Hp}{kvs:List (List Key×V)}{xs:List (List Key×Addr×Value)}(r:KT H kvs xs)(k:List Key){b:Addr}{y:V}{u:Value}(hb:H b=some (.tup (k.map kV)))(ry:RelV y u) :
  KT H (j6 kvs k y) (storedH xs k b u):=by
 have e:(kvs.any fun kv=>decide (kv.1=k))=(atKey xs k).isSome:=by
  rw[vi,(r.val k).isSome_eq,Option.isSome_map]
 unfold j6 storedH
 rw[e]
 by_cases q:(atKey xs k).isSome=true
 ·rw[zx q,zx q];exact r.repl k ry
 ·rw[zq q,zq q];exact Paired.snoc r ⟨rfl,hb,ry⟩
theorem KT.keeps{H H':Hp}{kvs:List (List Key×V)}{xs:List (List Key×Addr×Value)}(r:KT H kvs xs)(ht:∀b ys,H b=some (.tup ys)->H' b=some (.tup ys)):KT H' kvs xs:=
 Paired.mapP r fun _ _ z=>⟨z.1,ht _ _ z.2.1,z.2.2⟩
section
variable{P:Program}{w:World}{H:Hp}{h:Heap}{a:Addr}
theorem zev{u:HO}(ok:HOk P w H h)(e:Rd H a u):ObjOk P w H h a u:=e.ok ok
theorem ZE{kvs:List (Key×V)}(ok:HOk P w H h)(e:Rd H a (.dK kvs)):kvs.length<=sizeLine/\(a==sysModules)=false/\∃vs,KV kvs vs/\h.DictOf (qh P w) a vs:=
 show ObjOk P w H h a (.dK kvs) from zev ok e
theorem VM{kvs:List (Key×V)}(ok:HOk P w H h)(e:H a=some (.dK kvs)):kvs.length<=sizeLine/\(a==sysModules)=false/\∃vs,KV kvs vs/\h.DictOf (qh P w) a vs:=ZE ok (.inl e)
theorem Qm{ks:List Key}(ok:HOk P w H h)(e:H a=some (.tup (ks.map kV))):(tupleKind (qh P w)).is h ks a:=by
 obtain⟨_,its,r,⟨o,h1,h2,n,h3⟩,_⟩:=(show ObjOk P w H h a (.tup (ks.map kV)) from ok a _ e)
 exact⟨o,its.toArray,n,h1,h2,h3,by simpa using Jy r⟩
theorem JF{kvs:List (List Key×V)}(ok:HOk P w H h)(e:Rd H a (.dT kvs)):kvs.length<=sizeLine/\(a==sysModules)=false /\
  ∃xs,KT H kvs xs/\h.DictOfH (tupleKind (qh P w)) a xs:=by
 obtain⟨z,y,xs,r,o,es,ep,h1,h2,h3,h4,h5⟩:=(show ObjOk P w H h a (.dT kvs) from zev ok e)
 refine⟨z,y,xs,r,o,es,ep,h1,h2,h3,h4,fun x hx=>?_,h5⟩
 have all:∀{l:List (List Key×V)} {m:List (List Key×Addr×Value)},KT H l m->∀x∈m,(tupleKind (qh P w)).is h x.1 x.2.1:=by
  intro l m q
  induction q with
  | nil=>intro x hx;exact nomatch hx
  | @cons p q ps qs hq t ih=>
   intro x hx
   rcases zS.mp hx with e | hx
   ·subst e
    exact Qm ok (by rw[<- hq.1];exact hq.2.1)
   ·exact ih x hx
 exact all r x hx
theorem zgU{kvs:List (List Key×V)}(ok:HOk P w H h)(e:H a=some (.dT kvs)):kvs.length<=sizeLine/\(a==sysModules)=false /\
  ∃xs,KT H kvs xs/\h.DictOfH (tupleKind (qh P w)) a xs:=JF ok (.inl e)
end
def DGet(H:Hp)(a:Addr)(y:V)(r:Option V):Prop:=
 (∃kvs k,Rd H a (.dK kvs)/\y=kV k/\r=je kvs k)\/∃kvs k b,Rd H a (.dT kvs)/\y=.ref b/\H b=some (.tup (k.map kV))/\r=je kvs k
def DPut(H:Hp)(a:Addr)(y v:V)(H':Hp):Prop:=
 (∃kvs k,H a=some (.dK kvs)/\y=kV k/\kvs.length<sizeLine/\H'=upd H a (.dK (j6 kvs k v))) \/
 ∃kvs k b,H a=some (.dT kvs)/\y=.ref b/\H b=some (.tup (k.map kV))/\kvs.length<sizeLine/\H'=upd H a (.dT (j6 kvs k v))
theorem DGet.k{H:Hp}{a:Addr}{kvs:List (Key×V)}{k:Key}(e:H a=some (.dK kvs)):DGet H a (kV k) (je kvs k):=.inl ⟨kvs,k,.inl e,rfl,rfl⟩
theorem DGet.t{H:Hp}{a b:Addr}{kvs:List (List Key×V)}{k:List Key}(e:H a=some (.dT kvs))(eb:H b=some (.tup (k.map kV))):DGet H a (.ref b) (je kvs k):=.inr ⟨kvs,k,b,.inl e,rfl,eb,rfl⟩
theorem DPut.k{H:Hp}{a:Addr}{kvs:List (Key×V)}{k:Key}{v:V}(e:H a=some (.dK kvs))(hl:kvs.length<sizeLine):DPut H a (kV k) v (upd H a (.dK (j6 kvs k v))):=.inl ⟨kvs,k,e,rfl,hl,rfl⟩
theorem DPut.t{H:Hp}{a b:Addr}{kvs:List (List Key×V)}{k:List Key}{v:V}(e:H a=some (.dT kvs))(eb:H b=some (.tup (k.map kV)))(hl:kvs.length<sizeLine) :
  DPut H a (.ref b) v (upd H a (.dT (j6 kvs k v))):=.inr ⟨kvs,k,b,e,rfl,eb,hl,rfl⟩
section
variable{X:Cx}{pins:List (Addr×Obj)}{σ:St}{H:Hp}{s:Shared}{a:Addr}{y v:V}{u r:Value}{o:Option V}{A:Around}{E:Value->Shared->Prop}
theorem Inv.big(I:Inv X pins σ H s):sysModules<s.heap.objs.size:=by
 have h:mainGlobals<s.heap.objs.size:=(I.mod.glob.keeps I.bk).lt
 exact Nat.lt_trans (by decide) h
theorem zaZ{Q:Value->Shared->Prop}(hu:A.units+1<cLine)(I:Inv X pins σ H s)(g:DGet H a y (some v))(ry:RelV y u)(h:∀w' s',Inv X pins σ H s'->RelV v w'->Q w' s') :
  wpAny (model X.prog X.w) A (getItem (.ref a) u) Q E s:=by
 rcases g with ⟨kvs,k,e,ey,l⟩ | ⟨kvs,k,b,e,ey,eb,l⟩
 ·subst ey
  obtain⟨z,hd,vs,rel,dd⟩:=ZE I.hok e
  obtain⟨w',hw,rw'⟩:=RelO.some_of (v:=v) (o:=valueAt vs k) (by rw[l];exact rel.val k)
  exact wpAny_getItem_of (wU ry) dd.mapOf hw (h w' _ (I.tok _) rw')
 ·subst ey
  cases(show u=Value.ref b from ry)
  obtain⟨z,hd,xs,rel,dd⟩:=JF I.hok e
  obtain⟨w',hw,rw'⟩:=RelO.some_of (v:=v) (o:=(atKey xs k).map (·.2)) (by rw[l];exact rel.val k)
  obtain⟨p,hp,hp2⟩:=qw.mp hw
  refine wpAny_getItem_heap (tupleKind_room_in1 hu) (Qm I.hok eb) dd hp ?_
  rw[hp2]
  exact h w' _ (I.tok _) rw'
theorem zdX{Q:Value->Shared->Prop}(hu:A.units+1<cLine)(I:Inv X pins σ H s)(g:DGet H a y o)(ry:RelV y u)(h:∀s',Inv X pins σ H s'->Q (.bool (!o.isSome)) s') :
  wpAny (model X.prog X.w) A (compareOp .NotIn u (.ref a)) Q E s:=by
 rcases g with ⟨kvs,k,e,ey,l⟩ | ⟨kvs,k,b,e,ey,eb,l⟩
 ·subst ey
  obtain⟨z,hd,vs,rel,dd⟩:=ZE I.hok e
  refine wpAny_notIn_of (wU ry) hd dd.mapOf ?_
  rw[<- (rel.val k).isSome_eq,<- l]
  exact h _ (I.tok _)
 ·subst ey
  cases(show u=Value.ref b from ry)
  obtain⟨z,hd,xs,rel,dd⟩:=JF I.hok e
  refine wpAny_notIn_heap (tupleKind_room_in1 hu) (Qm I.hok eb) hd dd ?_
  have q:=(rel.val k).isSome_eq
  rw[Option.isSome_map] at q
  rw[<- q,<- l]
  exact h _ (I.tok _)
theorem yU{h':Heap}{t':Nat}{ob:HO}(I:Inv X pins σ H s)(mu:Mut (H a))(hs:Heap.SameBut a s.heap h')(he:∃q,h'.get? a=some q)(new:ObjOk X.prog X.w (upd H a ob) h' a ob) :
  Inv X pins σ (upd H a ob) { s with heap:=h',toks:=t' }:=
 I.write (x:=a) (e:=a) mu (.inl rfl) (fun b q hb z=>(hs.2 b hb).trans z) he new
theorem Qt{P:Program}{w:World}{H':Hp}{h':Heap}{kvs:List (Key×V)}{vs:List (Key×Value)}(z:kvs.length<=sizeLine)(hd:(a==sysModules)=false)(rel:KV kvs vs)(dd:h'.DictOf (qh P w) a vs) :
  ObjOk P w H' h' a (.dK kvs):=⟨z,hd,vs,rel,dd⟩
theorem zaY{H':Hp}{Q:Unit->Shared->Prop}(hu:A.units+1<cLine)(I:Inv X pins σ H s)(g:DPut H a y v H')(ry:RelV y u)(rv:RelV v r)(h:∀s',Inv X pins σ H' s'->Q () s') :
  wpAny (model X.prog X.w) A (setItem (.ref a) u r) Q E s:=by
 rcases g with ⟨kvs,k,e,ey,l,eH⟩ | ⟨kvs,k,b,e,ey,eb,l,eH⟩
 ·subst ey eH
  obtain⟨z,hd,vs,rel,dd⟩:=VM I.hok e
  have hz:vs.length<=sizeLine:=by rw[<- rel.length];exact z
  have hl:(j6 kvs k v).length<=sizeLine:=by have:=xI kvs k v;omega
  refine wpAny_setItem_pairs (hsz:=hz) (wU ry) dd fun h' dd' hs=>h _ ?_
  have he:∃q,h'.get? a=some q:=let ⟨q,_,_,hq,_⟩:=dd';⟨q,hq⟩
  exact yU I (by rw[e];exact True.intro) hs he (Qt hl hd (rel.put k rv) dd')
 ·subst ey eH
  cases(show u=Value.ref b from ry)
  obtain⟨z,hd,xs,rel,dd⟩:=zgU I.hok e
  have hz:xs.length<=sizeLine:=by rw[<- Xp rel];exact z
  have hl:(j6 kvs k v).length<=sizeLine:=by have:=xI kvs k v;omega
  refine wpAny_setItem_heap (hsz:=hz) (tupleKind_room_in1 hu) (Qm I.hok eb) dd fun h' dd' hs=>h _ ?_
  obtain⟨q,es,ep,hq,h2,h3,h4,_,h5⟩:=dd'
  refine yU I (by rw[e];exact True.intro) hs ⟨q,hq⟩ ⟨hl,hd,_,(rel.put k eb rv).keeps fun c ys ec=>?_,q,es,ep,hq,h2,h3,h4,h5⟩
  rw[zi (YR ec e (fun z=>nomatch z))]
  exact ec
end
section
variable{X:Cx}{pins:List (Addr×Obj)}{σ:St}{H:Hp}{s:Shared}{a:Addr}{kvs:List (Key×V)}{k:Key}{u:Value}{A:Around}{E:Value->Shared->Prop}
end
def zg0(i:Expr):Prop:=∀ov iv,subscripted i false ov iv=operate [ov,iv] (getItem ov iv)
theorem zc6{prog:Program}{w:World}{A:Around}{E:Value->Shared->Prop}{s:Shared}{env:Env}{value slice:Expr}{pos:Pos}{T id:String}{Q:Value->Shared->Prop}
  (hl:typeLookup (.type T) "__getitem__" = pure (some (.builtin id))) (hs:zg0 slice)
  (h:wpAny (model prog w) A (eval value env) (fun o s₁=>wpAny (model prog w) A (eval slice env) (fun i s₂=>s₂.TypeIs o T/\wpAny (model prog w) A (getItem o i) Q E s₂) E s₁) E s) :
  wpAny (model prog w) A (eval (.Subscript value slice pos) env) Q E s:=by
 refine Subscript_ (xp h (fun o s₁ h₁=>xp h₁ (fun i s₂ h₂=>?_) fun _ _ x=>x) fun _ _ x=>x)
 obtain⟨hT,h₂⟩:=h₂
 unfold subscriptTail
 refine zn ?_
 rw[getitemInPython_of_ne hT.not_modules]
 refine zn (wpAny_specialOf hT hl ?_)
 have fin:wpAny (model prog w) A (subscripted slice false o i) (fun r s₃=>wpAny (model prog w) A (letTemporaryGo value o r >>= fun _=>pure r) Q E s₃) E s₂:=by
  rw[hs o i]
  exact wpAny_operating (xp h₂ (fun r s₃ h₃=>zn (wpAny_letTemporaryGo (zP h₃))) fun _ _ x=>x)
 first
  | exact zP (zn fin)
  | exact zn (zP (zn fin))
  | exact zn fin
theorem VO{X:Cx}{pins:List (Addr×Obj)}{σ:St}{H:Hp}{s:Shared}{a:Addr}{y:V}{o:Option V}(I:Inv X pins σ H s)(g:DGet H a y o):s.TypeIs (.ref a) "dict" :=by
 rcases g with ⟨kvs,k,e,_,_⟩ | ⟨kvs,k,b,e,_,_,_⟩
 ·obtain⟨_,_,vs,_,dd⟩:=ZE I.hok e
  exact dd.typeIs
 ·obtain⟨_,_,xs,_,dd⟩:=JF I.hok e
  exact dd.typeIs
def zf5(td ty:TE):TE:=fun σ H Q=>td σ H fun x H1=>ty σ H1 fun y H2=>∃a v,x=.ref a/\DGet H2 a y (some v)/\Q v H2
def zc4(ty td:TE):TE:=fun σ H Q=>ty σ H fun y H1=>td σ H1 fun x H2=>∃a o,x=.ref a/\DGet H2 a y o/\Q (.bl (!o.isSome)) H2
def zgj(td ty tv:TE):TS:=fun D σ H=>tv σ H fun v H1=>td σ H1 fun x H2=>ty σ H2 fun y H3=>∃a H4,x=.ref a/\DPut H3 a y v H4/\D.nx σ H4
section
variable{X:Cx}{o i e value:Expr}{pos pos' tpos:Pos}{td ty tv:TE}
theorem qD(hu:X.A.units+1<cLine)(ho:PE X o td)(hi:PE X i ty)(hs:zg0 i):PE X (.Subscript o i pos) (zf5 td ty):=by
 intro pins s σ H Q I h
 refine zc6 PySem.F.slot_dict_getitem.lookup hs (thn (ho pins s σ H _ I h) fun u s1 ⟨x,H1,I1,rx,q1⟩=>thn (hi pins s1 σ H1 _ I1 q1) fun iv s2 ⟨y,H2,I2,ry,a,v,ex,g,q2⟩=>?_)
 subst ex
 obtain rfl:u=Value.ref a:=rx
 exact⟨VO I2 g,zaZ hu I2 g ry fun w' s3 I3 rw'=>⟨v,H2,I3,rw',q2⟩⟩
theorem zaE(hu:X.A.units+1<cLine)(hi:PE X i ty)(ho:PE X o td):PC X .NotIn i o (zc4 ty td):=by
 intro pins s σ H Q I h
 refine thn (hi pins s σ H _ I h) fun iv s1 ⟨y,H1,I1,ry,q1⟩=>thn (ho pins s1 σ H1 _ I1 q1) fun u s2 ⟨x,H2,I2,rx,a,ov,ex,g,q2⟩=>?_
 subst ex
 obtain rfl:u=Value.ref a:=rx
 exact zdX hu I2 g ry fun s3 I3=>⟨.bl (!ov.isSome),H2,I3,rfl,q2⟩
theorem J4(hu:X.A.units+1<cLine)(ho:PE X o td)(hi:PE X i ty)(hv:PE X value tv)(hs:swapsWith value (some (.Subscript o i pos')) pos.line X.env=pure false) :
  PS X (.Assign [.Subscript o i pos'] value pos) (zgj td ty tv):=by
 intro pins s σ H D I h
 refine wpAny_Assign_Subscript (thn (hv pins s σ H _ I h) fun r s1 ⟨v,H1,I1,rv,q1⟩=>thn (ho pins s1 σ H1 _ I1 q1) fun u s2 ⟨x,H2,I2,rx,q2⟩=>thn (hi pins s2 σ H2 _ I2 q2) fun iv s3 ⟨y,H3,I3,ry,a,H4,ex,g,q3⟩=>?_) hs
 subst ex
 obtain rfl:u=Value.ref a:=rx
 exact zaY hu I3 g ry rv fun s4 I4=>⟨σ,H4,I4,q3⟩
end
theorem VN{P:Program}{w:World}{H:Hp}(h:Heap)(hb:sysModules<h.objs.size):ObjOk P w H (h.push { cls:=.type "dict",data:=.dict #[] }) h.objs.size (.dK []):=
 ⟨qu _,beq_eq_false_iff_ne.mpr (qz (qq hb)),[],.nil,Heap.DictOf.new h⟩
def zeQ:TE:=fun _ H Q=>∀p,H p=none->Q (.ref p) (upd H p (.dK []))
section
variable{X:Cx}{pos:Pos}
theorem zbV:PE X (.Dict [] [] pos) zeQ:=fun pins s σ H Q I h=>
 wpAny_Dict_empty ⟨.ref s.heap.objs.size,_,I.laid (a:=s.heap.objs.size) (o:=.dK []) (t':=s.toks) (fun _ _ q=>qA _ q) (zG _) (VN s.heap I.big),rfl,h _ (I.hok.fresh (zG _))⟩
end
def V8:List (TE×TE)->St->Hp->(List (V×V)->Hp->Prop)->Prop
 | [],_,H,Q=>Q [] H
 | (tk,tv)::r,σ,H,Q=>tk σ H fun x H1=>tv σ H1 fun y H2=>V8 r σ H2 fun ps H3=>Q ((x,y)::ps) H3
abbrev VV:List (V×V)->List (Value×Value)->Prop:=Paired fun p q=>RelV p.1 q.1/\RelV p.2 q.2
def PPs(X:Cx)(pos:Pos)(keys:List (Option Expr))(values:List Expr)(trs:List (TE×TE)):Prop:=
 ∀(pins:List (Addr×Obj)) (s:Shared) (σ:St) (H:Hp) (Q:List (V×V)->Hp->Prop),Inv X pins σ H s->V8 trs σ H Q ->
  wpAny (model X.prog X.w) X.A (evalPairs (pairTrees keys values X.env pos)) (fun vs s'=>∃ps H',Inv X pins σ H' s'/\VV ps vs/\Q ps H') X.xe s
theorem J5{X:Cx}{pos:Pos}:PPs X pos [] [] []:=fun pins s σ H Q I h=>pairTrees_nil_walk ⟨[],H,I,.nil,h⟩
theorem xG{X:Cx}{pos:Pos}{k v:Expr}{ks:List (Option Expr)}{vs:List Expr}{tk tv:TE}{trs:List (TE×TE)}(hk:PE X k tk)(hv:PE X v tv)(hr:PPs X pos ks vs trs) :
  PPs X pos (some k::ks) (v::vs) ((tk,tv)::trs):=fun pins s σ H Q I h=>
 pairTrees_cons_walk (thn (hk pins s σ H _ I h) fun u s1 ⟨x,H1,I1,rx,q1⟩=>thn (hv pins s1 σ H1 _ I1 q1) fun w2 s2 ⟨y,H2,I2,ry,q2⟩=>
  thn (hr pins s2 σ H2 _ I2 q2) fun ws s3 ⟨ps,H3,I3,rel,q3⟩=>⟨(x,y)::ps,H3,I3,.cons ⟨rx,ry⟩ rel,q3⟩)
def ju(kvs more:List (Key×V)):List (Key×V):=more.foldl (fun acc kv=>j6 acc kv.1 kv.2) kvs
theorem KV.merge:∀{more:List (Key×V)} {rs:List (Key×Value)} {kvs:List (Key×V)} {vs:List (Key×Value)},KV more rs->KV kvs vs->KV (ju kvs more) (merged vs rs):=by
 intro more rs kvs vs r
 unfold KV at r
 induction r generalizing kvs vs with
 | nil=>intro q;exact q
 | @cons p q ps qs h t ih=>
  intro r0
  have e:KV (j6 kvs p.1 p.2) (stored vs q.1 q.2):=by
   have:=r0.put p.1 h.2
   rw[<- h.1];exact this
  exact ih e
theorem xD:∀(more kvs:List (Key×V)),(ju kvs more).length<=kvs.length+more.length
 | [],kvs=>by show kvs.length<=kvs.length+0;omega
 | p::r,kvs=>by
  have h1:=xD r (j6 kvs p.1 p.2)
  have h2:=xI kvs p.1 p.2
  show(ju (j6 kvs p.1 p.2) r).length<=_
  rw[qU];omega
theorem Qz{P:Program}{w:World}:∀{kvs:List (Key×V)} {ws:List (Value×Value)},VV (kvs.map fun kv=>(kV kv.1,kv.2)) ws->∃rs,Carries (qh P w) ws rs/\KV kvs rs
 | [],_,r=>by rw[yu] at r;cases r;exact⟨[],True.intro,.nil⟩
 | p::kvs,_,r=>by
  rw[jJ] at r
  cases r with
  | @cons a b as bs h t=>
   obtain⟨rs,c,q⟩:=Qz (P:=P) (w:=w) t
   obtain⟨b1,b2⟩:=b
   exact⟨(p.1,b2)::rs,⟨wU h.1,rfl,c⟩,.cons ⟨rfl,h.2⟩ q⟩
def zf3(trs:List (TE×TE)):TE:=fun σ H Q=>∀p,H p=none->V8 trs σ (upd H p (.dK [])) fun ps H2=>H2 p=some (.dK [])/\∃kvs:List (Key×V),ps=kvs.map (fun kv=>(kV kv.1,kv.2))/\kvs.length<=15/\Q (.ref p) (upd H2 p (.dK (ju [] kvs)))
theorem J6{X:Cx}{pos:Pos}{keys:List (Option Expr)}{values:List Expr}{trs:List (TE×TE)}(h:PPs X pos keys values trs)(hall:keys.all (·.isSome)=true)(hl:keys.length=values.length)(h0:keys≠[])
  (h15:keys.length<=15):PE X (.Dict keys values pos) (zf3 trs):=by
 intro pins s σ H Q I q
 have hn:=I.hok.fresh (zG s.heap.objs.size)
 have I1:=I.laid (a:=s.heap.objs.size) (o:=.dK []) (h':=s.heap.push { cls:=.type "dict",data:=.dict #[] }) (t':=s.toks) (fun _ _ q=>qA _ q) (zG _) (VN s.heap I.big)
 refine wpAny_Dict_walk (knd:=qh X.prog X.w) hall hl h0 h15 (thn (h pins _ σ _ _ I1 (q _ hn)) fun ws s2 ⟨ps,H2,I2,rel,e,kvs,ep,lk,q2⟩=>?_)
 subst ep
 obtain⟨rs,c,rk⟩:=Qz (P:=X.prog) (w:=X.w) rel
 obtain⟨z,hd,vs0,r0,dd⟩:=VM I2.hok e
 cases r0
 refine⟨rs,c,dd,fun h' dd' hs=>⟨.ref s.heap.objs.size,_,?_,rfl,q2⟩⟩
 have hz:(ju [] kvs).length<=sizeLine:=by
  have h1:=xD kvs []
  rw[Xv] at h1
  rw[sizeLine_eq];omega
 have he:∃q,h'.get? s.heap.objs.size=some q:=let ⟨q,_,_,hq,_⟩:=dd';⟨q,hq⟩
 exact yU I2 (by rw[e];exact True.intro) hs he (Qt hz hd (rk.merge .nil) dd')
structure M1(X:Cx)(o:Expr)(m:Str)(apos:Pos)(e:Expr)(cpos:Pos):Prop where
 base:attributeBase o m X.env (eval o X.env)=eval o X.env
 few:((backTo cpos (starEach [e] X.env)).all (fun x=>!x.1)&&(backToKw cpos (keywordEach [] X.env)).all (fun x=>x.1.isSome)
  && decide (([e]:List Expr).length+([]:List Keyword).length+(if([]:List Keyword).isEmpty then 0 else 1)<30))=true
 line:(apos.endLine==cpos.line)=true
 trees:backTo cpos (starEach [e] X.env)=[(false,eval e X.env)]
structure M2(X:Cx)(o:Expr)(m:Str)(apos:Pos)(e f:Expr)(cpos:Pos):Prop where
 base:attributeBase o m X.env (eval o X.env)=eval o X.env
 few:((backTo cpos (starEach [e,f] X.env)).all (fun x=>!x.1)&&(backToKw cpos (keywordEach [] X.env)).all (fun x=>x.1.isSome)
  && decide (([e,f]:List Expr).length+([]:List Keyword).length+(if([]:List Keyword).isEmpty then 0 else 1)<30))=true
 line:(apos.endLine==cpos.line)=true
 trees:backTo cpos (starEach [e,f] X.env)=[(false,eval e X.env),(false,eval f X.env)]
def IsD(H:Hp)(a:Addr):Prop:=(∃kvs,Rd H a (.dK kvs))\/∃kvs,Rd H a (.dT kvs)
theorem Ww{X:Cx}{pins:List (Addr×Obj)}{σ:St}{H:Hp}{s:Shared}{a:Addr}(I:Inv X pins σ H s)(d:IsD H a) :
  s.TypeIs (.ref a) "dict" /\ (∀b,Value.ref a=.ref b->∃ob,s.heap.get? b=some ob/\ob.dict=none)/\(a==sysModules)=false:=by
 rcases d with ⟨kvs,e⟩ | ⟨kvs,e⟩
 ·obtain⟨_,hd,vs,_,dd⟩:=ZE I.hok e
  refine⟨dd.typeIs,fun b q=>?_,hd⟩
  cases q
  obtain⟨ob,_,_,h1,h2,_⟩:=dd
  exact⟨ob,h1,h2.2.1⟩
 ·obtain⟨_,hd,xs,_,dd⟩:=JF I.hok e
  refine⟨dd.typeIs,fun b q=>?_,hd⟩
  cases q
  obtain⟨ob,_,_,h1,h2,_⟩:=dd
  exact⟨ob,h1,h2.2.1⟩
section
variable{X:Cx}{pins:List (Addr×Obj)}{σ:St}{H:Hp}{s:Shared}{a:Addr}{y d:V}{u r:Value}{o:Option V}{A:Around}{E:Value->Shared->Prop}
theorem zfM{Q:Value->Shared->Prop}(hu:A.units+1<cLine)(I:Inv X pins σ H s)(g:DGet H a y o)(ry:RelV y u)(rd:RelV d r)(h:∀w' s',Inv X pins σ H s'->RelV (o.getD d) w'->Q w' s') :
  wpAny (model X.prog X.w) A (call (.builtin "dict.get") [.ref a,u,r]) Q E s:=by
 rcases g with ⟨kvs,k,e,ey,l⟩ | ⟨kvs,k,b,e,ey,eb,l⟩
 ·subst ey
  obtain⟨z,hd,vs,rel,dd⟩:=ZE I.hok e
  refine call_meetsIn WT dd.typeIs PySem.F.entry_dict_get (PySem.F.args_dict_get_3 _ _ _) (meets_dict_get_default (qh X.prog X.w) a (wU ry) hd r) ⟨_,dd.mapOf,h _ _ (I.tok _) ?_⟩
  rw[l]
  exact(rel.val k).getD rd
 ·subst ey
  cases(show u=Value.ref b from ry)
  obtain⟨z,hd,xs,rel,dd⟩:=JF I.hok e
  refine call_meetsIn WT dd.typeIs PySem.F.entry_dict_get (PySem.F.args_dict_get_3 _ _ _) (meetsH_dict_get_default (tupleKind (qh X.prog X.w)) a b hd r) ⟨tupleKind_room_in1 hu,k,xs,Qm I.hok eb,dd,h _ _ (I.tok _) ?_⟩
  rw[l]
  exact(rel.val k).getD rd
end
def zeR(td ty tx:TE):TE:=fun σ H Q=>td σ H fun x H1=>∃a,x=.ref a/\IsD H1 a/\ty σ H1 fun y H2=>tx σ H2 fun z H3=>∃o,DGet H3 a y o/\Q (o.getD z) H3
section
variable{X:Cx}{o e f:Expr}{apos cpos:Pos}{td ty tx:TE}
theorem zbW(hu:X.A.units+1<cLine)(ho:PE X o td)(he:PE X e ty)(hf:PE X f tx)(m:M2 X o "get" apos e f cpos):PE X (.Call (.Attribute o "get" apos) [e,f] [] cpos) (zeR td ty tx):=by
 intro pins s σ H Q I h
 refine wpAny_Call_method m.base m.few m.line WZ WT PySem.F.type_dict_get (thn (ho pins s σ H _ I h) fun u s1 ⟨x,H1,I1,rx,a,ex,d,q1⟩=>?_)
 subst ex
 obtain rfl:u=Value.ref a:=rx
 obtain⟨t1,t2,_⟩:=Ww I1 d
 refine⟨t1,t2,?_⟩
 rw[m.trees]
 refine VY rfl (XF (QI (thn (he pins s1 σ H1 _ I1 q1) fun iv s2 ⟨y,H2,I2,ry,q2⟩=>
  QI (thn (hf pins s2 σ H2 _ I2 q2) fun fv s3 ⟨z,H3,I3,rz,ov,g,q3⟩=>QQ ?_))))
 exact zfM hu I3 g ry rz fun w' s4 I4 rw'=>⟨_,H3,I4,rw',q3⟩
end
section
variable{X:Cx}{pins:List (Addr×Obj)}{σ:St}{H:Hp}{s:Shared}{a:Addr}{kvs:List (Key×V)}{A:Around}{E:Value->Shared->Prop}
end
section
variable{X:Cx}{pins:List (Addr×Obj)}{σ:St}{H:Hp}{s:Shared}{a:Addr}{y:V}{u:Value}{A:Around}{E:Value->Shared->Prop}
end
end L2
namespace PySem
open PySem PySem.W PySem.Calls PyProof.Rows PyProof.V PySem.Spec
end PySem
namespace L2
open PySem PySem.Spec PyProof.Rows
section
variable{X:Cx}
end
section
variable{X:Cx}{tg:Expr}
end
section
variable{X:Cx}
end
section
variable{X:Cx}
variable{e st:Expr}{te:TE}{tk:TO}{pos p2:Pos}
end
end L2
namespace PySem
def RawD(h:Heap)(d:Addr)(es:Array DictEntry)(ep:Nat):Prop:=∃o,h.get? d=some o/\o.ExactDict/\o.data=.dict es ep
theorem RawD.at{h h':Heap}{d:Addr}{es:Array DictEntry}{ep:Nat}(x:RawD h d es ep)(e:∀o,h.get? d=some o->h'.get? d=some o):RawD h' d es ep:=let ⟨o,a,b⟩:=x;⟨o,e _ a,b⟩
section
variable{prog:Program}{w:World}{A:Around}{E:Value->Shared->Prop}{s:Shared}{d it:Addr}{es:Array DictEntry}{ep i:Nat}
theorem zbM{Q:Value->Shared->Prop}(hd:(d==sysModules)=false)(hm:RawD s.heap d es ep)
  (hQ:Q (.ref s.heap.objs.size) { s with heap:=s.heap.push { cls:=.type "dict_keyiterator",data:=.fields #[.ref d,.int 0 0,.int es.size 0,.int ep 0] } }):wpAny (model prog w) A (pyIter (.ref d)) Q E s:=by
 obtain⟨o,ho,hc,hdat⟩:=hm
 have ty:s.TypeIs (.ref d) "dict" :=⟨o,ho,hc.1⟩
 refine wpAny_pyIter_slot ty F.slot_dict_iter (ww F.slot_dict_iter ty F.entry_dict_iter ?go (F.args_dict_iter_1 _))
 unfold Builtin.«dict.__iter__» Builtin.Dict.dictSlotNone
 refine zn (zn (wpAny_notOrdered_dict ty ?go2));refine(zP ?go3:wpAny _ _ (pure (Value.ref d)) _ _ s)
 refine(?go7:wpAny _ _ (Builtin.Dict.showsAll d >>= _) _ _ s);unfold Builtin.Dict.showsAll
 rw[zq (by rw[hd];exact qm)];refine zn (zP ?go5)
 refine zn (wpAny_dictEntries ho hdat (zn (wpAny_dictEpoch ho hdat (zn (xZ (zP ⟨_,rfl, "dict_keyiterator",_,⟨_,qC _ rfl,rfl⟩,V0.lookup,?go6⟩))))))
 simpa [rawInt] using hQ
theorem zbN{e:DictEntry}{Q:Option Value->Shared->Prop}(hit:s.heap.IsKeyIter it d i es.size ep)(hm:RawD s.heap d es ep)(hx:es[i]? =some e)
  (hQ:∀h',h'.IsKeyIter it d (i+1) es.size ep->Heap.SameBut it s.heap h'->Q (some e.key) { s with heap:=h' }):wpAny (model prog w) A (pyNext (.ref it)) Q E s:=by
 obtain⟨o,ho,hc,hd⟩:=id hit
 obtain⟨od,hod,hcd,hdd⟩:=hm
 have ty:=hit.typeIs
 obtain⟨lt,ee⟩:∃h:i<es.size,es[i]=e:=W5.mp hx
 unfold pyNext
 refine zn (yy (Zb (name:=Str.ofString "__next__") ty V0 (ww V0 ty zcV ?a (zcW _))))
 refine zn (zP ?a1);refine zn (zn ?a2)
 first| refine zn (wpAny_typeNameOfWhole_keyiter ty (zP ?a3)) | refine zn (wpAny_typeNameOf_keyiter ty (zP ?a3))
 refine zn (wpAny_fieldsOf ho hd ?a4)
 simp only[show Builtin.Dict_items.ownsTuple "dict_keyiterator" = false by decide,WP,if_false]
 refine(?a5:wpAny _ _ (if(Value.ref d==Value.none)=true then _ else _) _ _ s)
 rw[zq (show ¬((Value.ref d==Value.none)=true) from qm)];refine zn (zP (zn (wpAny_dictEntries hod hdd ?a6)))
 rw[zq (by simp)];refine zn (zP (zn (wpAny_dictEpoch hod hdd ?a7)))
 rw[zq (by simp)];refine zP ?a8
 simp only[show ¬((i:Int)<0) from by omega,if_false,xn,VZ lt];refine zn ?a9
 first| refine zn (wpAny_typeNameOfWhole_keyiter ty (zP ?b1)) | refine zn (wpAny_typeNameOf_keyiter ty (zP ?b1))
 refine zn (wpAny_isOneOf_keyiter ty ?b2);refine(?b3:wpAny _ _ (setField (.ref it) 1 (rawInt ((i:Int)+1)) >>= _) _ _ s)
 have hit':(s.heap.update it (Obj.mapFields (·.setIfInBounds 1 (rawInt ((i:Int)+1))))).IsKeyIter it d (i+1) es.size ep:=
  ⟨_,QX _ ho (WU (QR hd _)),(WM ..).trans hc,(by rw[QR hd];simp[rawInt])⟩
 refine zn (wpAny_setField ho hd (by simp) (zn (y6 (zn (wpAny_isOneOf_keyiter (s:={ s with heap:=s.heap.update it (Obj.mapFields (·.setIfInBounds 1 (rawInt ((i:Int)+1)))) }) hit'.typeIs ?b4)))))
 refine(?b5:wpAny _ _ (pure es[i].key) _ _ _)
 rw[ee];exact zP (zP ⟨_,rfl,zP (hQ _ hit' (QS ..))⟩)
theorem zda{Q:Option Value->Shared->Prop}(hh:A.handled=none)(hit:s.heap.IsKeyIter it d i es.size ep)(hm:RawD s.heap d es ep)(hx:es.size<=i)
  (hQ:∀h',Heap.ExtBut it s.heap h'->Q none { s with heap:=h' }):wpAny (model prog w) A (pyNext (.ref it)) Q E s:=by
 obtain⟨o,ho,hc,hd⟩:=id hit
 obtain⟨od,hod,hcd,hdd⟩:=hm
 have ty:=hit.typeIs
 unfold pyNext
 refine zn (yy (Zb (name:=Str.ofString "__next__") ty V0 (ww V0 ty zcV ?a (zcW _))))
 refine zn (zP ?a1);refine zn (zn ?a2)
 first| refine zn (wpAny_typeNameOfWhole_keyiter ty (zP ?a3)) | refine zn (wpAny_typeNameOf_keyiter ty (zP ?a3))
 refine zn (wpAny_fieldsOf ho hd ?a4)
 simp only[show Builtin.Dict_items.ownsTuple "dict_keyiterator" = false by decide,WP,if_false]
 refine(?a5:wpAny _ _ (if(Value.ref d==Value.none)=true then _ else _) _ _ s)
 rw[zq (show ¬((Value.ref d==Value.none)=true) from qm)];refine zn (zP (zn (wpAny_dictEntries hod hdd ?a6)))
 rw[zq (by simp)];refine zn (zP (zn (wpAny_dictEpoch hod hdd ?a7)))
 rw[zq (by simp)];refine zP ?a8
 simp only[show ¬((i:Int)<0) from by omega,if_false,xn,Array.getElem?_eq_none hx];refine zn ?a9
 first| refine zn (wpAny_typeNameOfWhole_keyiter ty (zP ?b1)) | refine zn (wpAny_typeNameOf_keyiter ty (zP ?b1))
 refine(?b3:wpAny _ _ (setField (.ref it) 0 .none >>= _) _ _ s);refine zn (wpAny_setField ho hd (by simp) ?b4)
 refine(?b5:wpAny _ _ (newExc (.type "StopIteration") [] >>= _) _ _ _);refine zn ?b6
 simp only[newExc,newTuple];refine zn (xZ ?b7 (by size_fits))
 refine zn (m:=firstArgMember _ _) (wpAny_of_eq (a:=Value.none) (by first| rfl | (simp only[firstArgMember];rfl)) (xZ ?b8 (by size_fits)))
 simp only[raiseNew];refine zn (wpAny_handled ?b9)
 rw[show A.in1.handled=none from hh];refine zn (zP (wpAny_throw ?c1))
 exact zn (ZJ (T:= "StopIteration") (b:=true) ⟨_,qC _ rfl,rfl⟩ isSubtype_stop (zP (hQ _ (((QS ..).extBut.push _).push _))))
end
end PySem
namespace L2
open PySem PySem.Spec PyProof.Rows
section
variable{X:Cx}{tg:Expr}
end
section
variable{prog:Program}{w:World}{A:Around}{R:Result->Shared->Prop}{s:Shared}
end
def DPutT(H:Hp)(D:Addr)(y v:V)(H':Hp):Prop:=∃kvs k b,H D=some (.dT kvs)/\y=.ref b/\H b=some (.tup (k.map kV))/\kvs.length<sizeLine/\H'=upd H D (.dT (j6 kvs k v))
theorem DPutT.t{H:Hp}{a b:Addr}{kvs:List (List Key×V)}{k:List Key}{v:V}(e:H a=some (.dT kvs))(eb:H b=some (.tup (k.map kV)))(hl:kvs.length<sizeLine):DPutT H a (.ref b) v (upd H a (.dT (j6 kvs k v))):=⟨kvs,k,b,e,rfl,eb,hl,rfl⟩
section
variable{X:Cx}{kx vx tg1 iter1:Expr}{ifs1:List Expr}{tg iter:Expr}{ifs:List Expr}{scope:Scope}{pos:Pos}{wi wi1:TI}{g g1:TG}{tf tf1:TT}{tk tv:TE}
end
abbrev jR(X:Cx)(N':List Str)(scope:Scope)(x:Str)(C:Addr)(s:Shared)(H:Hp)(ex:List Addr):Cx where
 prog:=X.prog
 w:=X.w
 K:=X.K
 mg:=X.mg
 base:=X.base
 A:=X.A
 N:=N'
 s₀:=s
 H₀:=H
 env:=compEnvC scope ((x,C+1)::jv X.env.cells scope.names []) C X.env
 outer:=X.stack
 stack:=X.stack
 ex:=ex
 fn:=fun y=>y==x
 calm:=X.calm
 pn:=[]
 xe:=fun _ _=>False
def Xj(sn on:List (Str×NameKind))(N:List Str)(x:Str)(fr:List Str)(js:List Nat):Bool:=
 (sn.filter fun y=>y.2==.cell)==[(x,.cell)]&&sn.lookup x==some .cell&&decide ([x]++fr).Nodup&&sn.all (fun y=>(y.2 != .local||sn.lookup y.1==some .local)&&(y.2 != .free||(on.lookup y.1==some .cell||on.lookup y.1==some .free)))&&fr.length==js.length
  && (fr.zip js).all fun p=>sn.lookup p.1==some .free&&N[p.2]? ==some p.1
structure BlkOkC(sn on:List (Str×NameKind))(N:List Str)(x:Str)(fr:List Str)(js:List Nat):Prop where
 one:(sn.filter fun y=>y.2==.cell)=[(x,.cell)]
 lk:sn.lookup x=some .cell
 nd:([x]++fr).Nodup
 loc:∀y∈sn,y.2=NameKind.local->sn.lookup y.1=some .local
 free:∀y∈sn,y.2=NameKind.free->on.lookup y.1=some .cell\/on.lookup y.1=some .free
 len:fr.length=js.length
 fr:∀(k:Nat) (x:Str),fr[k]? =some x->sn.lookup x=some .free/\∃j:Nat,js[k]? =some j/\N[j]? =some x
theorem BlkOkC.is{sn on:List (Str×NameKind)}{N:List Str}{x:Str}{fr:List Str}{js:List Nat}(B:BlkOkC sn on N x fr js){y:Str×NameKind}(h:y∈sn)(e:y.2=.cell):y.1=x:=by
 have:y∈sn.filter fun y=>y.2==.cell:=jz.mpr ⟨h,by rw[e];rfl⟩
 rw[B.one,qg] at this
 rw[this]
theorem JK{sn on:List (Str×NameKind)}{N:List Str}{x:Str}{fr:List Str}{js:List Nat}(h:Xj sn on N x fr js=true):BlkOkC sn on N x fr js:=by
 unfold Xj at h
 simp only[jk,xM,jZ,decide_eq_true_eq] at h
 obtain⟨⟨⟨⟨⟨h0,h1⟩,hn⟩,h2⟩,h3⟩,h4⟩:=h
 refine⟨h0,h1,hn,fun y hy e=>?_,fun y hy e=>?_,h3,fun k x e=>?_⟩
 ·have:=(h2 y hy).1
  simp only[QO,bne_iff_ne,jZ] at this
  exact this.resolve_left fun z=>z e
 ·have:=(h2 y hy).2
  simp only[QO,bne_iff_ne,jZ] at this
  exact this.resolve_left fun z=>z e
 ·have hk:k<fr.length:=(zQ.mp e).1
  have hj:k<js.length:=by omega
  have hm:(x,js[k])∈fr.zip js:=by
   refine qG (i:=k) ?_
   rw[W3]
   exact⟨e,by simp[hj]⟩
  have:=h4 _ hm
  exact⟨this.1,js[k],by simp[hj],this.2⟩
theorem Qy:∀{names:List (Str×NameKind)} (n:Nat) (acc:List (Str×Addr)) (h:Heap),(names.filter fun y=>y.2==.cell)=[]->cellsFrom n names acc=acc/\pushCells h names=h
 | [],_,_,_,_=>⟨rfl,rfl⟩
 | (a,k)::r,n,acc,h,e=>by
  by_cases q:(k==NameKind.cell)=true
  ·rw[w9,zx (show((a,k).2==NameKind.cell)=true from q)] at e
   cases e
  ·rw[w9,zq (show ¬((a,k).2==NameKind.cell)=true from q)] at e
   unfold cellsFrom pushCells
   rw[zq q,zq q]
   exact Qy n acc h e
theorem JG{x:Str}:∀{names:List (Str×NameKind)} (n:Nat) (acc:List (Str×Addr)) (h:Heap),(names.filter fun y=>y.2==.cell)=[(x,.cell)]->cellsFrom n names acc=(x,n)::acc/\pushCells h names=h.push { cls:=.type "cell",data:=.cell none }
 | [],_,_,_,e=>by cases e
 | (a,k)::r,n,acc,h,e=>by
  by_cases q:(k==NameKind.cell)=true
  ·rw[w9,zx (show((a,k).2==NameKind.cell)=true from q)] at e
   injection e with e1 e2
   cases e1
   unfold cellsFrom pushCells
   rw[zx q,zx q]
   exact Qy _ _ _ e2
  ·rw[w9,zq (show ¬((a,k).2==NameKind.cell)=true from q)] at e
   unfold cellsFrom pushCells
   rw[zq q,zq q]
   exact JG n acc h e
theorem Wp{M:Model}{A:Around}{E:Value->Shared->Prop}{s:Shared}{scope:Scope}{globals:Addr}{cl:List (Str×Addr)}{qual:Str}{env:Env}{x:Str}{Q:Env->Shared->Prop}(one:(scope.names.filter fun y=>y.2==.cell)=[(x,.cell)])
  (hQ:Q { scope:=scope,locals:=s.heap.objs.size,globals:=globals,cells:=(x,s.heap.objs.size+1)::cl,qual:=qual,func:=none,code:=env.code,frame:=env.frame,builtins:=env.builtins } { s with heap:=(s.heap.push { cls:=.type "dict",data:=.dict #[] }).push { cls:=.type "cell",data:=.cell none } }) :
  wpAny M A (newFunctionEnv scope globals cl [] qual none .none (some env)) Q E s:=by
 simp only[newFunctionEnv,Option.isSome_some,if_true]
 refine zn (wpAny_alloc (zn (wpAny_layCells _ (fun name kind cells=>by cases hkc:kind==NameKind.cell<;>simp[hkc]) _ _ _ _ ?_)))
 obtain⟨e1,e2⟩:=JG (names:=scope.names) (x:=x) (s.heap.push { cls:=.type "dict",data:=.dict #[] }).objs.size cl (s.heap.push { cls:=.type "dict",data:=.dict #[] }) one
 rw[e1,e2,xf]
 exact zn (zP (zP hQ))
theorem yi{env:Env}{x:Str}:∀{names:List (Str×NameKind)},names.lookup x=some .cell->(names.map fun(n,k)=>if(k==NameKind.free&&env.scope.kind==.function&&env.kindOf n==some .cell) then(n,NameKind.cell) else(n,k)).lookup x=some .cell
 | [],h=>by simp at h
 | (n,k)::r,h=>by
  show List.lookup x ((if(k==NameKind.free&&env.scope.kind==.function&&env.kindOf n==some .cell)=true then(n,NameKind.cell) else(n,k))::_)=some NameKind.cell
  by_cases hx:(x==n)=true
  ·rw[jE,hx] at h
   cases(jK h)
   split<;>simp[jE,hx]
  ·have hx':(x==n)=false:=by simpa using hx
   rw[jE,hx'] at h
   split
   ·rw[jE,hx'];exact yi h
   ·rw[jE,hx'];exact yi h
section
variable{X:Cx}{elt tg iter:Expr}{ifs:List Expr}{scope:Scope}{pos:Pos}{wi:TI}{g:TG}{tf:TT}{te:TE}{x:Str}
theorem WD{pins:List (Addr×Obj)}{σ:St}{H:Hp}{s:Shared}{fp:List Addr}(fr:List Str)(js:List Nat)(I:Inv X pins σ H s)(B:BlkOkC scope.names X.env.scope.names X.N x fr js)(hk:scope.kind=.function)
  (f2:∀b∈fp,x8 X pins H b) (fl:∀b∈fp,b<s.heap.objs.size) {D C:Addr} (hD:D=s.heap.objs.size) {h3 h1:Heap} (e3:h3=s.heap.push { cls:=.type "list",dict:=none,data:=.seq ([]:List Value).toArray }) (hC:C=h3.objs.size)
  {m:Str->Option Value} (hns:h1.Ns C m) (hcell:h1.IsCell (C+1) none) (k4:∀b o,h3.get? b=some o->h1.get? b=some o) {t4:Nat} :
  Inv (jR X ([x]++fr) scope x C { s with heap:=h3 } H (D::fp)) [] (upS 1 js σ) H { s with heap:=h1,toks:=t4 }:=by
 have k3:∀b o,s.heap.get? b=some o->h3.get? b=some o:=fun b o e=>by rw[e3];exact qA _ e
 have I3:Inv X pins σ H { s with heap:=h3 }:=I.kept (t':=s.toks) k3
 have hz:h3.objs.size=s.heap.objs.size+1:=by rw[e3,xf]
 have hasF:∀y∈scope.names,y.2=NameKind.free->∃c,X.env.cells.lookup y.1=some c:=fun y hy e=>I.ok.has y.1 (B.free y hy e)
 have cellLt:∀x c,X.env.cells.lookup x=some c->c<s.heap.objs.size:=fun x c e=>by
  obtain⟨v,q⟩:=I.cell x c e
  exact q.lt
 have clt:∀y c,(jv X.env.cells scope.names []).lookup y=some c->c<C:=fun y c e=>by
  have:=cellLt y c (qF e hasF)
  rw[hC,hz];exact y9 this
 have look:∀y c,((x,C+1)::jv X.env.cells scope.names []).lookup y=some c->(y=x/\c=C+1)\/(y≠x/\(jv X.env.cells scope.names []).lookup y=some c):=fun y c e=>by
  rw[jE] at e
  by_cases q:(y==x)=true
  ·rw[q] at e
   exact .inl ⟨by simpa using q,(jK e).symm⟩
  ·rw[(Xw _).mp q] at e
   exact .inr ⟨fun z=>q (by simpa using z),e⟩
 refine⟨⟨I.ok.mod,hk,I.ok.glob,I.ok.blt,yr hC.symm,fun y1 y2 c e1 e2=>?_,fun y hy=>?_,fun y c hf e=>?_,fun hc=>I.ok.hd hc,I.ok.frames,.inl rfl,fun b hb=>?_,I3.bs,jj I.ok.bsz I3.sz,fun b o e hb=>?_,fun b hb hf=>?_,I3.stack,I3.stkFree⟩,
  rfl,I.bare,Un.kept k4,⟨m,hns,fun i y v e1 e2 e3'=>?_⟩,fun y c e=>?_,?_,fun y c e=>?_,fun p hp=>absurd (show p∈([]:List (Addr×Obj)) from hp) (by simp),I3.hok.kept k4,?_⟩
 ·rcases look _ _ e1 with ⟨a1,a2⟩ | ⟨a1,a2⟩<;>rcases look _ _ e2 with ⟨b1,b2⟩ | ⟨b1,b2⟩
  ·rw[a1,b1]
  ·have:=clt _ _ b2
   rw[a2] at this
   exact absurd this (Nat.not_lt.mpr (vL _))
  ·have:=clt _ _ a2
   rw[b2] at this
   exact absurd this (Nat.not_lt.mpr (vL _))
  ·exact I.ok.inj _ _ c (qF a2 hasF) (qF b2 hasF)
 ·by_cases q:y=x
  ·subst q
   exact⟨C+1,by show List.lookup y ((y,C+1)::_)=_;simp[jE]⟩
  obtain⟨k,e,z⟩:∃k,scope.names.lookup y=some k/\(k=.free):=by
   rcases hy with hx | hx
   ·obtain⟨k,e,z⟩:=vV hx
    rcases z with z | z
    ·subst z;exact absurd (B.is (yc e) rfl) q
    ·exact⟨k,e,z.1⟩
   ·obtain⟨k,e,z⟩:=vV hx
    rcases z with z | z
    ·subst z;exact⟨_,e,rfl⟩
    ·exact⟨k,e,z.1⟩
  subst z
  refine⟨(X.env.cells.lookup y).getD 0,?_⟩
  show List.lookup y ((x,C+1)::_)=_
  rw[jE,show(y==x)=false from by simpa using q]
  exact wN e
 ·rcases look _ _ e with ⟨a1,a2⟩ | ⟨a1,a2⟩
  ·rw[a2]
   show h3.objs.size<=C+1
   rw[hC];exact vL _
  ·exact absurd (by simpa using hf) a1
 ·have ncell:∀b,b<C->∀y c,((x,C+1)::jv X.env.cells scope.names []).lookup y=some c->(∀y c,X.env.cells.lookup y=some c->c≠b)->c≠b:=fun b hb y c e h=>by
   rcases look _ _ e with ⟨a1,a2⟩ | ⟨a1,a2⟩
   ·rw[a2];exact xY (y9 hb)
   ·exact h y c (qF a2 hasF)
  rcases zS.mp hb with z | hb
  ·subst z
   refine⟨by rw[hD,hC,hz];exact qq (QG _),fun y c e=>ncell _ (by rw[hD,hC,hz];exact QG _) y c e fun y c e=>?_⟩
   have:=cellLt y c e
   rw[hD];exact qq this
  ·have hlt:b<C:=by rw[hC,hz];exact y9 (fl b hb)
   exact⟨qq hlt,fun y c e=>ncell _ hlt y c e fun y c e=>(f2 b hb).2.2.2.2.1 y c e⟩
 ·rcases zS.mp hb with z | hb
  ·have:=zO (I.bk b o e)
   rw[z,hD] at this
   exact vv _ this
  ·rcases(f2 b hb).2.2.2.1 with z | z
   ·exact I.ok.noex b o e z
   ·exact absurd (jU (zO (I.ok.bs b o e).1) z) (vv _)
 ·have hf':=zS.mp (I.stkSub b hf)
  rcases zS.mp hb with z | hb
  ·rcases hf' with y | y
   ·have:=I.lt
    rw[<- y,z,hD] at this
    exact vv _ this
   ·exact I.nofs (a:=b) (by rw[z,hD];exact zG _) y
  ·rcases hf' with y | y
   ·exact(f2 b hb).2.1 y
   ·exact(f2 b hb).2.2.1 y
 ·obtain⟨hn,_,j,ej,es⟩:=yE e2
  have ex:fr[i-1]? =some y:=by
   rw[xu (show([x]:List Str).length<=i from hn)] at e1
   exact e1
  obtain⟨hfx,j',ej',eN⟩:=B.fr _ y ex
  have:j'=j:=by rw[ej] at ej';exact(jK ej').symm
  subst this
  have hkx:=B.free _ (yc hfx) rfl
  obtain⟨m0,_,hl⟩:=I.loc
  obtain⟨u,r,l⟩:=hl j' y v eN es (by rcases hkx with z | z;exact .inr (.inl z);exact .inr (.inr z))
  refine⟨u,r,.inr ?_⟩
  have yx:y≠x:=fun z=>by
   have:=B.lk
   rw[<- z,hfx] at this
   cases this
  rcases l with ⟨kl,_⟩ | ⟨_,c,ec,o,eo,ed⟩
  ·have kl':X.env.scope.names.lookup y=some .local:=kl
   rcases hkx with z | z
   ·exact absurd (z.symm.trans kl') (by decide)
   ·exact absurd (z.symm.trans kl') (by decide)
  ·obtain⟨k',e',z⟩:=yh (env:=X.env) hfx
   have eq:((x,C+1)::jv X.env.cells scope.names []).lookup y=some c:=by
    rw[jE,show(y==x)=false from by simpa using yx]
    show(jv X.env.cells scope.names []).lookup y=some c
    rw[wN hfx,ec];rfl
   refine⟨?_,c,eq,o,k4 c o (k3 c o eo),ed⟩
   rcases z with z | z
   ·subst z;exact .inl e'
   ·subst z;exact .inr e'
 ·rcases look _ _ e with ⟨a1,a2⟩ | ⟨a1,a2⟩
  ·rw[a2];exact⟨none,hcell⟩
  ·obtain⟨v,o,eo,ed⟩:=I.cell y c (qF a2 hasF)
   exact⟨v,o,k4 c o (k3 c o eo),ed⟩
 ·exact I3.hok.fresh (yr hC.symm)
 ·rcases look _ _ e with ⟨a1,a2⟩ | ⟨a1,a2⟩
  ·rw[a2]
   exact I3.hok.fresh (by show h3.objs.size<=C+1;rw[hC];exact vL _)
  ·exact I.freeC y c (qF a2 hasF)
 ·rw[Ye,<- B.len]
  show _=([x]++fr).length
  rw[zW];rfl
end
end L2
namespace L2
end L2
namespace L2
open PySem PySem.W PySem.Spec PyProof.Rows
abbrev bmV:List Value:=[.type "ValueError",.type "Exception",.type "BaseException",.type "object"]
def zg6(K:Frag)(C:Addr)(ini:Option Value):Bool:=match K.lookup C with
 | some ⟨.type "type",_,.cls cd,sl⟩=>(match cd.mro with
  | .ref C'::bm=>(match sl.toList with
   | [_,_,_,_,some (.builtin n),_]=>C'==C&&(n == "ValueError.__new__" && (!cd.hasDel&&(tailIn K bmV bm&&(nsOkIn K cd.ns&&nsIn K cd.ns "__init__" == some ini))))
   | _=>false)
  | _=>false)
 | _=>false
structure Xc(h:Heap)(C:Addr)(ini:Option Value):Prop where
 is:∃(bm:List Value) (N:Addr) (nm qn:Str) (bs:List Value) (hd:Bool) (sn:List Str) (sub:List Value) (ab:Bool) (col:Option Bool) (dd:Option Addr) (k0 k1 k2 k3 k5:Option Value) (mN:Str->Option Value),
  h.get? C=some (excClassObj nm qn C N bs bm hd sn sub ab col dd k0 k1 k2 k3 k5 "ValueError.__new__")/\h.Ns N mN/\mN "__init__" = ini/\OwnTail h bmV bm
end L2
namespace L2
open PySem PySem.W PySem.Spec PyProof.Rows
section
variable{P:Program}{w:World}{H:Hp}{h h':Heap}{a:Addr}{o:HO}
theorem ObjOk.has(x:ObjOk P w H h a o):∃u,h.get? a=some u:=by
 cases o with
 | lst xs=>obtain⟨_,_,_,_,e⟩:=x;exact⟨_,e⟩
 | tup xs=>obtain⟨_,_,_,⟨u,e,_⟩,_⟩:=x;exact⟨u,e⟩
 | dK kvs=>obtain⟨_,_,_,_,u,_,_,e,_⟩:=x;exact⟨u,e⟩
 | dT kvs=>obtain⟨_,_,_,_,u,_,_,e,_⟩:=x;exact⟨u,e⟩
 | set S n=>obtain⟨u,_,_,_,e,_⟩:=x;exact⟨u,e⟩
 | ins C dx fs=>obtain⟨_,_,_,e,_⟩:=x;exact⟨_,e⟩
 | own y=>obtain⟨u,e⟩:=x;exact⟨u,e⟩
 | xd fs=>obtain⟨_,⟨u,_,_,e,_⟩,_⟩:=x;exact⟨u,e⟩
 | rng lo hi=>obtain⟨_,_,_,e⟩:=x;exact⟨_,e⟩
 | frz ob u=>obtain⟨e,_⟩:=x;exact⟨_,e⟩
 | tbl ps=>exact⟨_,show h.get? a=some _ from x⟩
 | met f y=>exact⟨_,show h.get? a=some _ from x⟩
 | ext φ=>obtain⟨_,⟨u,e⟩,_⟩:=x;exact⟨u,e⟩
theorem HOk.none_of(x:HOk P w H h)(e:h.get? a=none):H a=none:=by
 cases q:H a with
 | none=>rfl
 | some u=>obtain⟨z,ez⟩:=(x a u q).has;rw[e] at ez;cases ez
end
section
variable{X:Cx}{pins:List (Addr×Obj)}{σ:St}{H:Hp}{s:Shared}{h':Heap}
theorem Inv.laidN{a:Addr}{o:HO}{t':Nat}(I:Inv X pins σ H s)(k:∀b u,s.heap.get? b=some u->h'.get? b=some u)(hn:s.heap.get? a=none)(new:ObjOk X.prog X.w (upd H a o) h' a o) :
  Inv X pins σ (upd H a o) { s with heap:=h',toks:=t' }:=by
 have hH:=I.hok.none_of hn
 have ne:∀b u,s.heap.get? b=some u->b≠a:=fun b u q z=>by rw[z,hn] at q;cases q
 have neH:∀b u,H b=some u->b≠a:=fun b u q z=>by rw[z,hH] at q;cases q
 refine I.un ⟨fun b u q _ _ _=>k b u q,fun b u q _ _ _=>⟨u.slots,k b u q⟩,fun b u q n _=>by rw[zi (ne b u q)];exact n,fun b u q _=>⟨u,k b u q⟩,
  fun b xs q=>by rw[zi (neH b _ q)];exact q,fun b u xs q=>by rw[zi (neH b _ q)];exact q,fun b ps q=>⟨#[],by rw[zi (neH b _ q),q];simp⟩⟩ ?_
 intro b u e
 by_cases hb:b=a
 ·subst hb;rw[zb] at e;cases e;exact new
 ·rw[zi hb] at e
  exact(I.hok b u e).stay (fun c v _ q=>k c v q) (fun c q=>by rw[zi (neH c _ q)];exact q) fun c xs q=>by rw[zi (neH c _ q)];exact q
end
section
variable{prog:Program}{w:World}{A:Around}{E:Value->Shared->Prop}{h:Heap}{g:Array GenState}{d:Drawn}{t:Nat}{os:OsState}{C:Addr}
end
section
variable{prog:Program}{w:World}{A:Around}{E:Value->Shared->Prop}{h:Heap}{g:Array GenState}{d:Drawn}{t:Nat}{os:OsState}
variable{nm q:Str}{C N:Addr}{bs bm:List Value}{hdct:Bool}{sn:List Str}{sub:List Value}{ab:Bool}{col:Option Bool}{dd:Option Addr}{k0 k1 k2 k3 k5:Option Value}
end
end L2
namespace L2
open PySem PySem.W PySem.Spec PyProof.Rows
structure XK2(K:Frag)(C:Addr)(ini:Option Value):Prop where
 cls:zg6 K C ini=true
 sa:findIn K (.ref C) "__setattr__" = some (some (.builtin "object.__setattr__"))
 ga:findIn K (.ref C) "__getattribute__" = some (some (.builtin "BaseException.__getattribute__"))
 gh:findIn K (.ref C) "__getattr__" = some none
 ob:mroIn K C (.type "object")=some true
 be:mroIn K C (.type "BaseException")=some true
 hd:hasDictIn K C=true
section
variable{prog:Program}{w:World}{A:Around}{E:Value->Shared->Prop}{h:Heap}{g:Array GenState}{d:Drawn}{t:Nat}{os:OsState}{K:Frag}{C e t0:Addr}{ini:Option Value}{f:Str}{v:Value}
end
end L2
namespace L2
open PySem PySem.W PySem.Spec PyProof.Rows
section
variable{prog:Program}{w:World}{A:Around}{E:Value->Shared->Prop}{h:Heap}{g:Array GenState}{d:Drawn}{t:Nat}{os:OsState}{K:Frag}{C e t0 dx:Addr}{od:Option Addr}{ini:Option Value}{f:Str}{v:Value}{mA:Str->Option Value}
end
end L2
namespace L2
open PySem PySem.W PySem.Spec PyProof.Rows
structure XKc(K:Frag)(C:Addr):Prop where
 lk:findIn K (.ref C) "__class__" = some (some (.builtin "object.__class__"))
 gt:specialIn K (.builtin "object.__class__") "__get__" = some (some (.builtin "getset_descriptor.__get__"))
 tk:takesIn K (.builtin "object.__class__")=some true
section
variable{prog:Program}{w:World}{A:Around}{E:Value->Shared->Prop}{h:Heap}{g:Array GenState}{d:Drawn}{t:Nat}{os:OsState}{K:Frag}{C C' e t0:Addr}{dx:Option Addr}{ini:Option Value}{od:Option Obj}
end
end L2
namespace L2
open PySem PySem.W PySem.Spec PyProof.Rows
structure XOk(K:Frag)(C:Addr)(ini:Option Value):Prop where
 k:XK2 K C ini
 c:XKc K C
 kp:keepIn K (.ref C)=true
 ty:typeIn K (.ref C)=some (.type "type")
 cd:∃cd,clsIn K C=some cd
 ve:mroIn K C (.type "ValueError")=some true
section
variable{X:Cx}{CX:CXT}{k:Nat}{f C:Addr}{fd:FuncData}{ps:List Str}{ds:List Value}{dvs:List V}{sp:Sp}{E:XK}{x m:Str}{p pos apos:Pos}{e o value:Expr}{es:List Expr}{t:TA}{ta tv:TE}{ini:Option Value}
end
end L2
namespace L2
open PySem PySem.W PySem.Spec PyProof.Rows
section
variable{X:Cx}
end
structure Xs(K:Frag)(mg:Str->Option Value)(x:Str)(C:Addr)(ini:Option Value):Prop where
 ok:XOk K C ini
 gl:mg x=some (.ref C)
structure XsI(P:Program)(w:World)(K:Frag)(mg:Str->Option Value)(base:Heap)(x:Str)(C f:Addr)(k:Nat)(ps:List Str)(sp:Sp):Prop extends Xs K mg x C (some (.ref f)) where
 ex:∃fd oF,FnOk P w K mg base CX0 k f fd ps sp/\K.lookup f=some oF/\oF.cls=.type "function" /\ Binds K fd ps []
section
variable{X:Cx}{x:Str}{k:Nat}{C f:Addr}{ps:List Str}{sp:Sp}{p pos:Pos}{e:Expr}{es:List Expr}{t:TA}
end
end L2
namespace L2
open PySem PySem.Spec PyProof.Rows
theorem Z4:∀{us:List Value} {ns:List Int},IntsAre us ns->Vals (ns.map V.int) us
 | _,_,.nil=>.nil
 | _,_,.cons n t r=>.cons ⟨t,rfl⟩ (Z4 r)
section
variable{X:Cx}
inductive wy(K:PySem.W.Frag)(xs:List V)(H:Hp)(Q:VK):Prop
 | mk (a:Addr) (ns:List Int) (_:xs=[.ref a]) (_:SqL K H a (ns.map V.int)) (_:ns.length<64) (_:∀(p:Addr) (ms:List Int),H p=none->ms.Perm ns->ms.Pairwise (·<= ·)->Q (.ref p) (upd H p (.lst (ms.map V.int)))):wy K xs H Q
theorem vI:CallR X (.builtin "sorted") (wy X.K):=by
 intro pins s σ H xs us Q I r h
 obtain⟨a,ns,rfl,hx,hl,q⟩:=h
 obtain⟨u,rfl,ru⟩:=Vals.one r
 cases(show u=Value.ref a from ru)
 obtain⟨its,r',pl,hz⟩:=I.list hx
 have len:=r'.length
 rw[zp] at len
 refine sorted_ints pl.isList (Wx r') (by omega) fun out ms a1 a2 a3=>?_
 obtain⟨e,he⟩:=sortedAll_at s.heap its out
 have hn:H (s.heap.objs.size+1)=none:=I.hok.fresh (vL _)
 refine⟨.ref (s.heap.objs.size+1),_,I.laid (a:=s.heap.objs.size+1) (o:=.lst (ms.map V.int)) (t':=s.toks) (fun _ _=>sortedAll_old) (vL _) ⟨?_,out.toList,e,Z4 a1,?_⟩,rfl,q _ ms hn a2 a3⟩
 ·rw[zp,a2.length_eq,sizeLine_eq];omega
 ·rw[he]
end
section
variable{prog:Program}{w:World}{κ:Type}[DecidableEq κ]{knd:PySem.KeyKind prog w κ}{A:Around}{E:Value->Shared->Prop}{s:Shared}
theorem zbu{d:Addr}{kvs:List (κ×Value)}{k:κ}{key dflt:Value}{Q:Value->Shared->Prop}(hkey:knd.is k key=true)(hm:s.heap.DictOf knd d kvs)(hsz:kvs.length<=sizeLine)
  (hthere:∀v,valueAt kvs k=some v->Q v { s with toks:=s.toks+1 })
  (hnew:valueAt kvs k=none->∀h',h'.DictOf knd d (stored kvs k dflt)->Heap.SameBut d s.heap h'->Q dflt { s with heap:=h',toks:=s.toks+1 }) :
  wpAny (model prog w) A (dictSetDefault d key dflt) Q E s:=by
 obtain⟨o,es,ep,ho,hc,hd,hk,hp,hn⟩:=id hm
 obtain⟨o',es',ep',ho',-,hd',-,hf⟩:=hm.mapOf
 rw[ho] at ho'
 injection ho' with ho'
 subst ho'
 rw[hd] at hd'
 injection hd' with hd1 hd2
 subst hd1
 have hes:es.size<=sizeLine:=by
  have e1:=hp.length
  have e2:es.toList.length=es.size:=by simp
  omega
 have at_:(es.findIdx? fun en=>knd.is k en.key)=kvs.findIdx? fun p=>decide (p.1=k):=by
  obtain⟨l⟩:=es
  rw[<- hp.findIdx k]
  simp
 unfold dictSetDefault
 refine y6 (zn (knd.pyHash hkey (zn (wpAny_dictFind_of (s:={ s with toks:=s.toks+1 }) hkey ho hd hk ?_))))
 cases hi:es.findIdx? fun en=>knd.is k en.key with
 | some i=>
  have hlt:i<es.size:=(Array.findIdx?_eq_some_iff_findIdx_eq.mp hi).1
  have hfk:valueAt kvs k=(es[i]?).map (·.val):=by rw[<- hf k,findBy_of_findIdx?,hi]
  rw[VZ hlt] at hfk
  refine zn (wpAny_dictEntries (s:={ s with toks:=s.toks+1 }) ho hd ?_)
  rw[VZ hlt]
  exact zn (vK (zP (hthere _ hfk)))
 | none=>
  have fresh:k∉kvs.map (·.1):=not_mem_of_findIdx_none (at_▸hi)
  have hany:¬(kvs.any fun kv=>decide (kv.1=k))=true:=fun z=>by
   obtain⟨kv,h1,h2⟩:=vO.mp z
   exact fresh (qo.mpr ⟨kv,h1,jA h2⟩)
  have hfk:valueAt kvs k=none:=by rw[<- hf k,findBy_of_findIdx?,hi]
  have est:stored kvs k dflt=kvs++[(k,dflt)]:=by rw[stored,zq hany]
  refine zn (vK (zn (wpAny_updateDictKeys (s:={ s with toks:=s.toks+1 }) (hz:=hes) ho hd (zP (hnew hfk _ ?_ (QS ..))))))
  rw[est]
  refine⟨_,_,ep+1,QX _ ho (Obj.isFreed_of_dict (Obj.data_mapDictKeys hd _)),hc.mapDictKeys _,Obj.data_mapDictKeys hd _,hk.push hkey _,?_,?_⟩
  ·have z:=hp.append hkey (knd.hash k) dflt
   obtain⟨l⟩:=es
   simpa using z
  ·rw[zZ,WL]
   refine⟨hn,by simp,fun a ha b hb z=>fresh ?_⟩
   rw[show List.map (·.1) [(k,dflt)]=[k] from rfl,qg] at hb
   rw[<- hb,<- z]
   exact ha
end
section
variable{prog:Program}{w:World}{κ:Type}[DecidableEq κ]{knd:PySem.KeyKind prog w κ}
theorem zcg{d:Addr}{k:κ}{key x:Value}(hkey:knd.is k key=true)(hs:(d==sysModules)=false) :
  MeetsIn prog w (Builtin.«dict.setdefault» ⟨[.ref d,key,x],[]⟩) (fun _ R s=>∃kvs,s.heap.DictOf knd d kvs/\kvs.length<=sizeLine/\(∀v,valueAt kvs k=some v->R (.ok (.ret v)) { s with toks:=s.toks+1 }) /\
   (valueAt kvs k=none->∀h',h'.DictOf knd d (stored kvs k x)->Heap.SameBut d s.heap h'->R (.ok (.ret x)) { s with heap:=h',toks:=s.toks+1 })):=
 .of_wp fun A R s ⟨kvs,hm,hz,h1,h2⟩=>by
  delta Builtin.«dict.setdefault» Builtin.Dict.keyAndDefault
  refine zn (zn (wpAny_notOrdered_dict hm.typeIs (zP (a:=(d,key,some x)) ?_)))
  have off:¬(d==sysModules)=true:=by rw[hs];exact qm
  refine(show wpAny _ _ (if(d==sysModules)=true then _ else(dictSetDefault d key x >>= _)) _ _ _ from ?_)
  rw[zq off]
  exact zn (zbu hkey hm hz (fun v hv=>zP ⟨v,rfl,h1 v hv⟩) fun hn h' hm' hs'=>zP ⟨x,rfl,h2 hn h' hm' hs'⟩)
end
section
variable{X:Cx}{td ty tx:TE}{o e f:Expr}{apos cpos:Pos}
def zhg(td ty tx:TE):TE:=fun σ H Q=>td σ H fun x H1=>∃a,x=.ref a/\IsD H1 a/\ty σ H1 fun y H2=>tx σ H2 fun z H3=>∃kvs k,H3 a=some (.dK kvs)/\y=kV k/\kvs.length<sizeLine /\
 (∀v,je kvs k=some v->Q v H3)/\(je kvs k=none->Q z (upd H3 a (.dK (j6 kvs k z))))
theorem zfe(ho:PE X o td)(he:PE X e ty)(hf:PE X f tx)(m:M2 X o "setdefault" apos e f cpos):PE X (.Call (.Attribute o "setdefault" apos) [e,f] [] cpos) (zhg td ty tx):=by
 intro pins s σ H Q I h
 refine wpAny_Call_method m.base m.few m.line WZ zcT PySem.F.type_dict_setdefault (thn (ho pins s σ H _ I h) fun u s1 ⟨x,H1,I1,rx,a,ex,d,q1⟩=>?_)
 subst ex
 obtain rfl:u=Value.ref a:=rx
 obtain⟨t1,t2,_⟩:=Ww I1 d
 refine⟨t1,t2,?_⟩
 rw[m.trees]
 refine VY rfl (XF (QI (thn (he pins s1 σ H1 _ I1 q1) fun iv s2 ⟨y,H2,I2,ry,q2⟩=>
  QI (thn (hf pins s2 σ H2 _ I2 q2) fun fv s3 ⟨z,H3,I3,rz,kvs,k,ea,ey,l,g1,g2⟩=>QQ ?_))))
 subst ey
 obtain⟨zz,hd,vs,rel,dd⟩:=VM I3.hok ea
 have hz:vs.length<=sizeLine:=by rw[<- rel.length];exact zz
 refine call_meetsIn zcT dd.typeIs PySem.F.entry_dict_setdefault (PySem.F.args_dict_setdefault_3 _ _ _) (zcg (knd:=qh X.prog X.w) (wU ry) hd) ⟨vs,dd,hz,fun v hv=>?_,fun hn h' dd' hs=>?_⟩
 ·have rv:=rel.val k
  rw[hv] at rv
  cases ev:je kvs k with
  | none=>rw[ev] at rv;exact rv.elim
  | some v'=>
   rw[ev] at rv
   exact⟨v',H3,I3.tok _,rv,g1 v' ev⟩
 ·have rv:=rel.val k
  rw[hn] at rv
  have ev:je kvs k=none:=by
   cases ev:je kvs k with
   | none=>rfl
   | some v'=>rw[ev] at rv;exact rv.elim
  have hl:(j6 kvs k z).length<=sizeLine:=by have:=xI kvs k z;omega
  have ee:∃q,h'.get? a=some q:=let ⟨q,_,_,hq,_⟩:=dd';⟨q,hq⟩
  exact⟨z,_,yU I3 (by rw[ea];exact True.intro) hs ee (Qt hl hd (rel.put k rz) dd'),rz,g2 ev⟩
end
theorem zcn{P:Program}{w:World}{k:Key}{u:Value}(h:(qh P w).is k u=true):RelV (kV k) u:=by
 rw[Ws] at h
 rcases jb h with ⟨i,t,rfl,rfl⟩ | ⟨x,t,rfl,rfl⟩
 ·exact⟨t,rfl⟩
 ·exact⟨t,rfl⟩
theorem KV.get:∀{kvs:List (Key×V)} {vs:List (Key×Value)} {j:Nat} {q:Key×Value},KV kvs vs->vs[j]? =some q->∃p,kvs[j]? =some p/\p.1=q.1/\RelV p.2 q.2
 | _,_,j,_,.nil,e=>by simp at e
 | _,_,0,_,.cons h _,e=>by simp at e;subst e;exact⟨_,rfl,h⟩
 | _,_,j+1,_,.cons _ t,e=>by
  obtain⟨p,e1,r⟩:=KV.get (j:=j) t (by simpa using e)
  exact⟨p,by simpa using e1,r⟩
theorem Yd:∀{xs:List V} {us:List Value},xs.length=us.length->(∀(j:Nat) u,us[j]? =some u->∃x,xs[j]? =some x/\RelV x u)->Vals xs us
 | [],[],_,_=>.nil
 | [],_::_,h,_=>by simp at h
 | _::_,[],h,_=>by simp at h
 | x::xs,u::us,h,f=>by
  refine .cons ?_ (Yd (by simpa using h) fun j v e=>?_)
  ·obtain⟨y,e1,r⟩:=f 0 u rfl
   cases e1
   exact r
  ·obtain⟨y,e1,r⟩:=f (j+1) v (by simpa using e)
   exact⟨y,by simpa using e1,r⟩
section
variable{X:Cx}
inductive ye(xs:List V)(H:Hp)(Q:VK):Prop
 | mk (a:Addr) (kvs:List (Key×V)) (_:xs=[.ref a]) (_:Rd H a (.dK kvs)) (_:∀p,H p=none->Q (.ref p) (upd H p (.lst (kvs.map fun kv=>kV kv.1)))):ye xs H Q
theorem VR(hh:X.A.handled=none):CallR X (.type "list") (ye):=by
 intro pins s σ H xs us Q I r h
 obtain⟨a,kvs,rfl,hx,q⟩:=h
 obtain⟨u,rfl,ru⟩:=Vals.one r
 cases(show u=Value.ref a from ru)
 obtain⟨zz,hd,vs,rel,dd⟩:=ZE I.hok hx
 obtain⟨ep,da⟩:=dd.dictAt
 have ln:=rel.length
 refine PySem.W.kdl_call (PySem.W.kdl_dict (prog:=X.prog) (w:=X.w) (knd:=qh X.prog X.w) (d:=a) (kvs:=vs) (ep:=ep) hd) hh da (by omega) fun h' tk acc c keep at_ its=>?_
 have hn:H s.heap.objs.size=none:=I.hok.fresh (zG _)
 refine⟨.ref s.heap.objs.size,_,I.laid (a:=s.heap.objs.size) (o:=.lst (kvs.map fun kv=>kV kv.1)) (t':=tk) keep (zG _) ⟨by rw[zp];exact zz,acc.toList,c,Yd ?_ ?_,by rw[at_]⟩,rfl,q _ hn⟩
 ·have z:=its.1
  have y:acc.toList.length=acc.size:=ZK
  rw[zp]
  omega
 ·intro j u e
  rw[JQ] at e
  obtain⟨k,x,e1,e2⟩:=its.2 j u e
  obtain⟨p,e3,e4,_⟩:=KV.get rel e1
  exact⟨kV p.1,by rw[qJ,e3];rfl,by rw[e4];exact zcn e2⟩
end
section
variable{X:Cx}{td ty:TE}{o e:Expr}{apos cpos:Pos}
def zf4(td ty:TE):TE:=fun σ H Q=>td σ H fun x H1=>∃a,x=.ref a/\IsD H1 a/\ty σ H1 fun y H2=>∃b kvs more,y=.ref b/\a≠b/\H2 a=some (.dK kvs)/\H2 b=some (.dK more)/\kvs.length+more.length<=sizeLine/\Q .non (upd H2 a (.dK (ju kvs more)))
theorem YM(ho:PE X o td)(he:PE X e ty)(m:M1 X o "update" apos e cpos):PE X (.Call (.Attribute o "update" apos) [e] [] cpos) (zf4 td ty):=by
 intro pins s σ H Q I h
 refine wpAny_Call_method m.base m.few m.line WZ PySem.F.slot_dict_update PySem.F.type_dict_update (thn (ho pins s σ H _ I h) fun u s1 ⟨x,H1,I1,rx,a,ex,d,q1⟩=>?_)
 subst ex
 obtain rfl:u=Value.ref a:=rx
 obtain⟨t1,t2,_⟩:=Ww I1 d
 refine⟨t1,t2,?_⟩
 rw[m.trees]
 refine VY rfl (XF (QI (thn (he pins s1 σ H1 _ I1 q1) fun iv s2 ⟨y,H2,I2,ry,b,kvs,more,ey,ne,ea,eb,l,q2⟩=>QQ ?_)))
 subst ey
 obtain rfl:iv=Value.ref b:=ry
 obtain⟨_,sa,vs,ra,da⟩:=VM I2.hok ea
 obtain⟨_,sb,ws,rb,db⟩:=VM I2.hok eb
 have la:=ra.length
 have lb:=rb.length
 refine call_meetsIn PySem.F.slot_dict_update da.typeIs PySem.F.entry_dict_update (PySem.F.args_dict_update_2 _ _) (meets_dict_update (qh X.prog X.w) a b ne sb) ⟨vs,ws,da,db,by omega,fun h' da' _ hs=>?_⟩
 have ee:∃q,h'.get? a=some q:=let ⟨q,_,_,hq,_⟩:=da';⟨q,hq⟩
 exact⟨.non,_,yU (t':=s2.toks) I2 (by rw[ea];exact True.intro) hs ee (Qt (jj (xD more kvs) l) sa (rb.merge ra) da'),rfl,q2⟩
end
theorem YX:∀{ns:List Int} {us:List Value},ns.length=us.length->(∀(j:Nat) u,us[j]? =some u->∃i t,ns[j]? =some i/\u=.int i t)->IntsAre us ns
 | [],[],_,_=>.nil
 | [],_::_,h,_=>by simp at h
 | _::_,[],h,_=>by simp at h
 | n::ns,u::us,h,f=>by
  obtain⟨i,t,e1,e2⟩:=f 0 u rfl
  cases e1
  subst e2
  refine .cons n t (YX (by simpa using h) fun j v e=>?_)
  obtain⟨i,t,e1,e2⟩:=f (j+1) v (by simpa using e)
  exact⟨i,t,by simpa using e1,e2⟩
section
variable{X:Cx}
inductive vR(xs:List V)(H:Hp)(Q:VK):Prop
 | mk (a:Addr) (kvs:List (Int×V)) (_:xs=[.ref a]) (_:Rd H a (.dK (kvs.map fun kv=>(Sum.inl kv.1,kv.2)))) (_:kvs.length<64) (_:∀(p:Addr) (ms:List Int),H p=none->ms.Perm (kvs.map (·.1))->ms.Pairwise (·<= ·)->Q (.ref p) (upd H p (.lst (ms.map V.int)))):vR xs H Q
theorem Q9(hh:X.A.handled=none):CallR X (.builtin "sorted") (vR):=by
 intro pins s σ H xs us Q I r h
 obtain⟨a,kvs,rfl,hx,h64,q⟩:=h
 obtain⟨u,rfl,ru⟩:=Vals.one r
 cases(show u=Value.ref a from ru)
 obtain⟨zz,hd,vs,rel,dd⟩:=ZE I.hok hx
 obtain⟨ep,da⟩:=dd.dictAt
 have ln:=rel.length
 rw[zp] at ln
 have sz:sizeLine=16777216:=sizeLine_eq
 refine Calls.call_function_entry kind_sorted plain_sorted entry_sorted (args_sorted1 _) ?_
 delta Builtin.«sorted»
 refine zn (m:=checkCount "sorted" 1 1 _) (zP (zn (PySem.W.kdu_collect (PySem.W.kdl_dict (prog:=X.prog) (w:=X.w) (knd:=qh X.prog X.w) (d:=a) (kvs:=vs) (ep:=ep) hd) hh da (by omega) fun h' tk acc keep its=>?_)))
 have al:acc.toList.length=vs.length:=by rw[ZK];exact its.1
 have hI:IntsAre acc.toList (kvs.map (·.1)):=YX (by rw[zp];omega) fun j u e=>by
  rw[JQ] at e
  obtain⟨k,x,e1,e2⟩:=its.2 j u e
  obtain⟨p,e3,e4,_⟩:=KV.get rel e1
  rw[qJ] at e3
  obtain⟨kv,e5,rfl⟩:=qw.mp e3
  have e4:Sum.inl kv.1=k:=e4
  subst e4
  obtain⟨t,rfl⟩:=zcn e2
  exact⟨kv.1,t,by rw[qJ,e5];rfl,rfl⟩
 refine zn (wpAny_newList ?_ (by omega))
 have at_:(h'.push (seqObj "list" acc.toList.toArray 0)).get? h'.objs.size=some (seqObj "list" acc.toList.toArray 0):=qC _ rfl
 refine zn (y6 (ww slot_list_sort ⟨_,at_,rfl⟩ entry_list_sort (list_sort_tree (s:={ s with heap:=h'.push (seqObj "list" acc.toList.toArray 0),toks:=tk }) at_ hI (by omega) fun out ms a1 a2 a3=>⟨_,rfl,?_⟩) (args_list_sort _)))
 have new:s.heap.get? h'.objs.size=none:=by
  cases z:s.heap.get? h'.objs.size with
  | none=>rfl
  | some o=>exact absurd (zO (keep _ _ z)) (vv _)
 obtain⟨ep2,fin⟩:=sortedHeap_at (out:=out) at_
 refine zP ⟨_,rfl,.ref h'.objs.size,_,I.laidN (a:=h'.objs.size) (o:=.lst (ms.map V.int)) (t':=tk) (fun b o e=>?_) new ⟨?_,out.toList,ep2,Z4 a1,?_⟩,rfl,q _ ms (I.hok.none_of new) a2 a3⟩
 ·have lt:=zO (keep b o e)
  rw[sortedHeap_old (qq lt) (by rw[xf];exact y9 lt)]
  exact qA _ (keep b o e)
 ·rw[zp,a2.length_eq,zp];omega
 ·rw[fin]
end
def zcZ(d:Addr)(o:Obj)(kvs:List (Key×V)):It:=
 ⟨fun i H=>H d=some (.frz o (.dK kvs))/\i<kvs.length,fun i H x H'=>H'=H/\∃k v,kvs[i]? =some (k,v)/\x=kV k,fun i H=>H d=some (.frz o (.dK kvs))/\kvs.length<=i⟩
theorem Jq{P:Program}{w:World}:∀{es:List DictEntry} {vs:List (Key×Value)},Pairs (qh P w) es vs->∀{i:Nat} {q:Key×Value},vs[i]? =some q->∃en,es[i]? =some en/\(qh P w).is q.1 en.key=true
 | _,_,.nil,_,_,h=>by simp at h
 | _,_,.cons h1 _ t,0,_,h=>by simp at h;subst h;exact⟨_,rfl,h1⟩
 | _,_,.cons _ _ t,i+1,_,h=>by
  obtain⟨en,e,r⟩:=Jq t (i:=i) (by simpa using h)
  exact⟨en,by simpa using e,r⟩
theorem KV.back:∀{kvs:List (Key×V)} {vs:List (Key×Value)} {j:Nat} {p:Key×V},KV kvs vs->kvs[j]? =some p->∃q,vs[j]? =some q/\p.1=q.1
 | _,_,j,_,.nil,e=>by simp at e
 | _,_,0,_,.cons h _,e=>by simp at e;subst e;exact⟨_,rfl,h.1⟩
 | _,_,j+1,_,.cons _ t,e=>by
  obtain⟨q,e1,r⟩:=KV.back (j:=j) t (by simpa using e)
  exact⟨q,by simpa using e1,r⟩
theorem VG{P:Program}{w:World}{H:Hp}{h:Heap}{d:Addr}{o:Obj}{kvs:List (Key×V)}{es:Array DictEntry}{ep:Nat}(ok:HOk P w H h)(e:H d=some (.frz o (.dK kvs)))(he:o.data=.dict es ep):RawD h d es ep/\es.size=kvs.length /\
  ∀(i:Nat) (k:Key) (v:V),kvs[i]? =some (k,v)->∃en:DictEntry,es[i]? =some en/\RelV (kV k) en.key:=by
 obtain⟨e1,z,y,vs,r,o',es',ep',h1,h2,h3,h4,h5,h6⟩:=(show ObjOk P w H h d (.frz o (.dK kvs)) from ok d _ e)
 rw[e1] at h1
 cases h1
 rw[he] at h3
 cases h3
 have l1:=h5.length
 have l2:=r.length
 have l3:es.toList.length=es.size:=ZK
 refine⟨⟨o,e1,h2,he⟩,by omega,fun i k v hk=>?_⟩
 obtain⟨q,e2,e3⟩:=KV.back r hk
 obtain⟨en,e4,e5⟩:=Jq h5 e2
 have e3:k=q.1:=e3
 exact⟨en,by rw[<- JQ];exact e4,by rw[e3];exact zcn e5⟩
theorem V6{P:Program}{w:World}{K:PySem.W.Frag}{tg:Expr}(d it:Addr)(o:Obj)(kvs:List (Key×V))(es:Array DictEntry)(ep:Nat)(he:o.data=.dict es ep):QZ P w K tg (zcZ d o kvs) [it] it (fun i h=>h.IsKeyIter it d i es.size ep) where
 mem:=by simp
 obj:=fun i h st b hb=>by
  have e:b=it:=by simpa using hb
  subst e
  obtain⟨o,e,c,d⟩:=st
  exact⟨o,e,fun v z=>by rw[d] at z;cases z⟩
 keep:=fun i h h' st k=>st.at fun o e=>k it (by simp) o e
 item:=by
  intro X hP hw hK hc i pins s σ H E I hf st hg
  subst hP hw hK
  obtain⟨hd,hi⟩:=hg
  obtain⟨rd,sz,all⟩:=VG I.hok hd he
  obtain⟨⟨k,v⟩,hx⟩:∃p,kvs[i]? =some p:=⟨kvs[i],by simp[hi]⟩
  obtain⟨en,hen,ek⟩:=all i k v hx
  obtain⟨f0,f1,f2,f3,f4,f5⟩:=hf it (by simp)
  refine zbN st rd hen fun h' st' sb=>?_
  have I1:Inv X pins σ H { s with heap:=h' }:=I.turned (t':=s.toks) (fun b o hb e=>(sb.2 b hb).trans e) f0 f1 f3 f4 f5
  obtain⟨o',e',c',d'⟩:=id st'
  exact⟨_,rfl,Y1 (s:={ s with heap:=h' }) e' c' d' (by decide) ⟨kV k,H,I1,ek,⟨rfl,k,v,hx,rfl⟩,st',fun b hb=>(hf b hb).1⟩⟩
 done:=by
  intro X hP hw hK hc i pins s σ H E I hf st hg
  subst hP hw hK
  obtain⟨hd,hi⟩:=hg
  obtain⟨rd,sz,_⟩:=VG I.hok hd he
  obtain⟨f0,f1,f2,f3,f4,f5⟩:=hf it (by simp)
  exact zda (I.ok.hd hc) st rd (by omega) fun h' eb=>⟨rfl,I.turned (t':=s.toks) (fun b o hb e=>eb b o hb e) f0 f1 f3 f4 f5⟩
 self:=fun _ _ _ _ _ st h=>wpAny_pyIter_keyiter st h
section
variable{X:Cx}{tg:Expr}
def zfC(td:TE):TI:=fun σ H R=>td σ H fun x H1=>∃d kvs,x=.ref d/\H1 d=some (.dK kvs)/\∀o,R (zcZ d o kvs) (upd H1 d (.frz o (.dK kvs)))
theorem zbU{l:Expr}{tl:TE}(hl:PE X l tl):PI X tg l (zfC tl):=by
 intro pins s σ H R I h
 refine thn (hl pins s σ H _ I h) fun v s1 ⟨x,H1,I1,r1,q1⟩=>?_
 obtain⟨d,kvs,e,hd,q⟩:=q1
 subst e
 cases r1
 obtain⟨z,y,vs,r,o,es,ep,h1,h2,h3,h4,h5,h6⟩:=(show ObjOk X.prog X.w H1 s1.heap d (.dK kvs) from I1.hok d _ hd)
 refine zbM y ⟨o,h1,h2,h3⟩ ?_
 have I2:Inv X pins σ (upd H1 d (.frz o (.dK kvs))) { s1 with heap:=s1.heap.push { cls:=.type "dict_keyiterator",data:=.fields #[.ref d,.int 0 0,.int es.size 0,.int ep 0] },toks:=s1.toks }:=by
  refine I1.write (x:=d) (e:=d) (by rw[hd];exact True.intro) (.inl rfl) (fun b u _ e=>qA _ e) ⟨o,qA _ h1⟩ ?_
  exact⟨qA _ h1,z,y,vs,r,o,es,ep,qA _ h1,h2,h3,h4,h5,h6⟩
 refine⟨s1.heap.objs.size,[s1.heap.objs.size],_,_,_,rfl,I2,V6 d _ o kvs es ep h3,⟨_,qC _ rfl,rfl,rfl⟩,fun b hb=>?_,q o⟩
 have e:b=s1.heap.objs.size:=by simpa using hb
 subst e
 refine I1.fpOk (zG _) ?_
 rw[zi (qz (zj hd (I1.hok.fresh (zG _))))]
 exact I1.hok.fresh (zG _)
end
theorem zcl{d:Addr}{o:Obj}{kvs:List (Key×V)}{n:Nat}{g:TG}{tf:TT}{te:TE}{σ0:St}{R:List V->Hp->Prop}{H:Hp}(Pv:Nat->List V->Hp->Prop)(h0:Pv 0 [] H)
  (h1:∀i zs H,Pv i zs H->H d=some (.frz o (.dK kvs)))
  (hs:∀i k v zs H,kvs[i]? =some (k,v)->Pv i zs H->g (kV k) σ0 H fun σ4 H4=>σ4.drop n=σ0.drop n/\tf σ4 H4 fun b H5=>if b=true then te σ4 H5 fun v H6=>zs.length<sizeLine/\Pv (i+1) (zs++[v]) H6 else Pv (i+1) zs H5)
  (hd:∀zs H,Pv kvs.length zs H->zs.length<=sizeLine/\R zs H) :
  ∃W:Nat->Nat->List V->Hp->Prop,(∃m,W 0 m [] H)/\∀i m zs H2,W i m zs H2 ->
   ((zcZ d o kvs).stop i H2/\zs.length<=sizeLine/\R zs H2) \/
   ((zcZ d o kvs).go i H2/\∃M:List V->Hp->Prop,(∀zs H',M zs H'->∃m',m'<m/\W (i+1) m' zs H')/\∀x H3,(zcZ d o kvs).yld i H2 x H3->g x σ0 H3 fun σ4 H4=>σ4.drop n=σ0.drop n/\tf σ4 H4 fun b H5=>
    if b=true then te σ4 H5 fun y H6=>zs.length<sizeLine/\M (zs++[y]) H6 else M zs H5):=by
 refine⟨fun i m zs H2=>m=kvs.length-i/\i<=kvs.length/\Pv i zs H2,⟨_,rfl,qu _,h0⟩,?_⟩
 rintro i m zs H2 ⟨rfl,hi,p⟩
 by_cases hlt:i<kvs.length
 ·refine .inr ⟨⟨h1 i zs H2 p,hlt⟩,Pv (i+1),fun zs' H' p'=>⟨_,by omega,rfl,hlt,p'⟩,fun x H3 y=>?_⟩
  obtain⟨e,k,v,hk,rfl⟩:=y
  subst e
  exact hs i k v zs _ hk p
 ·have e:i=kvs.length:=by omega
  subst e
  obtain⟨z1,z2⟩:=hd zs H2 p
  exact .inl ⟨⟨h1 _ zs H2 p,zG _⟩,z1,z2⟩
section
variable{X:Cx}{tg:Expr}
def zgJ(K:PySem.W.Frag)(tl:TE):TI:=fun σ H R=>tl σ H fun x H1=>∃a,x=.ref a/\(((∃xs,SqL K H1 a xs)/\R (Itl K a) H1)\/((∃xs,SqT K H1 a xs)/\R (Itt K a) H1))
theorem zbS{l:Expr}{tl:TE}(hl:PE X l tl):PI X tg l (zgJ X.K tl):=by
 intro pins s σ H R I h
 refine thn (hl pins s σ H _ I h) fun v s1 ⟨x,H1,I1,r1,q1⟩=>?_
 obtain⟨a,e,q⟩:=q1
 subst e
 cases r1
 have fp:∀b∈[s1.heap.objs.size],_:=fun b hb=>by
  have e:b=s1.heap.objs.size:=by simpa using hb
  subst e
  exact I1.fpOk (zG _) (I1.hok.fresh (zG _))
 rcases q with ⟨⟨xs,hq⟩,q⟩ | ⟨⟨xs,hq⟩,q⟩
 ·obtain⟨its,rv,p,hz⟩:=I1.list hq
  refine wpAny_pyIter_list p.isList ⟨s1.heap.objs.size,[s1.heap.objs.size],_,_,H1,rfl,I1.kept (t':=s1.toks) fun b o e=>qA _ e,Jd a _,⟨_,qC _ rfl,rfl,rfl⟩,?_,q⟩
  exact fp
 ·obtain⟨its,rv,p,hz⟩:=I1.tuple hq
  refine wpAny_pyIter_tuple (show s1.heap.IsTuple a its.toArray from p) ⟨s1.heap.objs.size,[s1.heap.objs.size],_,_,H1,rfl,I1.kept (t':=s1.toks) fun b o e=>qA _ e,Z7 a _,⟨_,qC _ rfl,rfl,rfl⟩,?_,q⟩
  exact fp
end
open Sem (wp)
theorem J7:typeLookup (.type "list") "keys" = pure none:=by rw[typeLookup_type,builtinLookup_eq_fast];kernel_rfl
theorem J8:typeLookup (.type "list") "__getattr__" = pure none:=by rw[typeLookup_type,builtinLookup_eq_fast];kernel_rfl
theorem Zh:isSubtype (.type "AttributeError") (.type "AttributeError")=pure true:=by rw[isSubtype_type];kernel_rfl
section
variable{prog:Program}{w:World}{A:Around}{E:Value->Shared->Prop}{s:Shared}
theorem Wd{α:Type}{M:Model}{o:Value}{name msg:Str}{Q:α->Shared->Prop}(hh:A.handled=none)(hm:msg.length<=sizeLine)
  (hq:∀h' t' e,(∀b p,s.heap.get? b=some p->h'.get? b=some p)->(∃ob,h'.get? e=some ob/\ob.cls=.type "AttributeError")->E (.ref e) { s with heap:=h',toks:=t' }) :
  wpAny M A (raiseAttrError o name msg:Sem α) Q E s:=by
 unfold raiseAttrError newExc newTuple
 refine zn (wpAny_mkStr (zn (zn (xZ (zn (m:=firstArgMember _ _) (wpAny_of_eq (a:=Value.none) (by simp only[firstArgMember];rfl) (xZ ?_)))))) hm)
 refine zn (wpAny_mkText (zn (show wpAny _ _ (noteAttr _ _ _) _ _ _ from ?_)))
 unfold noteAttr
 dsimp only
 unfold lacksNameAndObj
 refine zn (zn (ZJ (T:= "AttributeError") ⟨_,qC _ rfl,rfl⟩ Zh ?_))
 refine zn (wpAny_load (qC _ rfl) ?_)
 refine zP ?_
 refine zn (vK (zn (wpAny_typeOf (T:= "AttributeError") ⟨_,qC _ rfl,rfl⟩ ?_)))
 refine wpAny_layMembers (qC _ rfl) rfl ?_
 unfold raiseNew;refine zn (wpAny_handled ?_);rw[hh];refine zn (zP (wpAny_throw ?_))
 refine hq _ _ _ (fun b p e=>?_) ⟨_,QX _ (qC _ rfl) (WU (QR rfl _)),WM _ _⟩
 rw[WY _ _ (xY (jU (zO e) (by simp)))]
 exact qA _ (qA _ e)
end
section
variable{prog:Program}{w:World}{A:Around}{E:Value->Shared->Prop}{h:Heap}{g:Array GenState}{d:Drawn}{t:Nat}{os:OsState}{a:Addr}{n:Nat}{its:Array Value}
theorem ZR{tk:Tok}{Q:Fin->Shared->Prop}(hh:A.handled=none)(hx:h.get? a=some { cls:=.type "list",data:=.seq its n })
  (hq:∀h' t' e,(∀b p,h.get? b=some p->h'.get? b=some p)->(∃ob,h'.get? e=some ob/\ob.cls=.type "AttributeError")->E (.ref e) ⟨h',g,d,t',os⟩) :
  wpAny (model prog w) A (Builtin.«object.__getattribute__» ⟨[.ref a,.str "keys" tk],[]⟩) Q E ⟨h,g,d,t,os⟩:=by
 have hT:(⟨h,g,d,t,os⟩:Shared).TypeIs (.ref a) "list" :=⟨_,hx,rfl⟩
 have f4:=J7
 repeat(any_goals (first| assumption | wp_step))
 refine Wd hh ?_ hq
 rw[sizeLine_eq]
 decide +kernel
theorem Qk{tk:Tok}{R:Result->Shared->Prop}(hh:A.handled=none)(hx:h.get? a=some { cls:=.type "list",data:=.seq its n })
  (hq:∀h' t' e,(∀b p,h.get? b=some p->h'.get? b=some p)->(∃ob,h'.get? e=some ob/\ob.cls=.type "AttributeError")->R (.error (.ref e)) ⟨h',g,d,t',os⟩) :
  codeAny (model prog w) A (.call (.builtin "list.__getattribute__") ⟨[.ref a,.str "keys" tk],[]⟩) R ⟨h,g,d,t,os⟩:=
 codeAny_call_builtin XN.plain F.entry_list_ga (XN.check _ _ _ _ _ _ _ _ (show(⟨h,g,d,t,os⟩:Shared).TypeIs (.ref a) "list" from ⟨_,hx,rfl⟩) (F.args_list_getattribute_2 _ _) (ZR hh hx hq))
theorem Xa{tk:Tok}{Q:Value->Shared->Prop}(hh:A.handled=none)(hx:h.get? a=some { cls:=.type "list",data:=.seq its n })
  (hq:∀h' t' e,(∀b p,h.get? b=some p->h'.get? b=some p)->(∃ob,h'.get? e=some ob/\ob.cls=.type "AttributeError")->E (.ref e) ⟨h',g,d,t',os⟩):wpAny (model prog w) A (getAttrBy (.ref a) (.str "keys" tk) false) Q E ⟨h,g,d,t,os⟩:=by
 have hT:(⟨h,g,d,t,os⟩:Shared).TypeIs (.ref a) "list" :=⟨_,hx,rfl⟩
 have f2:=XN.lookup
 have f3:=XN.bind (.ref a)
 repeat(any_goals (first| assumption | wp_step))
 refine Qk hh hx fun h' t' e k ⟨ob,ho,hc⟩=>?_
 dsimp only
 unfold getattributeRaised
 refine zn (ZJ (T:= "AttributeError") ⟨_,ho,hc⟩ Zh ?_)
 rw[zx rfl]
 unfold hookBehind
 refine zn ?_
 rw[zq (by decide)]
 refine wpAny_of_eq J8 ?_
 unfold hookOrError attributeErrorLeaves
 dsimp only
 rw[zx (show(!false)=true from rfl)]
 first
  | exact wpAny_throw (hq h' t' e k ⟨ob,ho,hc⟩)
  | exact zn (wpAny_throw (hq h' t' e k ⟨ob,ho,hc⟩))
theorem Ql{Q:Option Value->Shared->Prop}(hh:A.handled=none)(hx:h.get? a=some { cls:=.type "list",data:=.seq its n })
  (hq:∀h' t',(∀b p,h.get? b=some p->h'.get? b=some p)->Q none ⟨h',g,d,t',os⟩):wpAny (model prog w) A (getAttr? (.ref a) "keys") Q E ⟨h,g,d,t,os⟩:=by
 unfold getAttr? getAttrBy?
 refine zn (wpAny_mkText (zn (yy (Xa hh hx fun h' t' e k ⟨ob,ho,hc⟩=>?_))))
 dsimp only
 refine zn (ZJ (T:= "AttributeError") ⟨_,ho,hc⟩ Zh ?_)
 rw[zx rfl]
 exact zP (hq h' t' k)
end
end L2
namespace L2
open PySem PySem.Spec PyProof.Rows
theorem wX:entryFor table "dict.update.loop" = some Builtin.«dict.update.loop»:=entryFor_of_tree (by kernel_rfl)
theorem xB:plainId "dict.update.loop" = true:=by decide +kernel
theorem Vx{K:Type}[DecidableEq K](kvs more:List (K×Value))(i:Nat)(kv:K×Value)(h:more[i]? =some kv):merged (stored kvs kv.1 kv.2) (more.drop (i+1))=merged kvs (more.drop i):=by
 obtain⟨h1,h2⟩:=zQ.mp h
 rw[List.drop_eq_getElem_cons h1,h2]
 rfl
section
variable{prog:Program}{w:World}{K:Type}[DecidableEq K]{knd:KeyKind prog w K}{A:Around}{R:Result->Shared->Prop}{it l D:Addr}{items:Array Value}{pairs:List (K×Value)}{res:Value}
theorem zdU(hh:A.handled=none)(hil:l≠it)(hlD:l≠D)(hiD:it≠D)(hlen:pairs.length=items.size) :
  ∀(m:Nat) (s:Shared) (i:Nat) (kvs:List (K×Value)),items.size-i=m->i<=items.size->s.heap.IsListIter it l i->s.heap.IsList l items->s.heap.DictOf knd D kvs->kvs.length+m<=sizeLine ->
   (∀(j:Nat) (u:Value),items[j]? =some u->∃(T:Addr) (k:K) (key v:Value),u=.ref T/\T≠it/\T≠D/\IsTup s.heap T #[key,v]/\knd.is k key=true/\pairs[j]? =some (k,v)) ->
   (∀h' tk,h'.DictOf knd D (merged kvs (pairs.drop i))->(∀b o,b≠it->b≠D->s.heap.get? b=some o->h'.get? b=some o)->R (.ok (.ret res)) { s with heap:=h',toks:=tk }) ->
   codeAny (model prog w) A (.builtin "dict.update.loop" ⟨[.ref D,.ref it,.int i 0,res],[]⟩) R s:=by
 intro m
 induction m with
 | zero=>
  intro s i kvs hm hi ii il dd hz ht q
  have hend:items[i]? =none:=by simp;omega
  refine codeAny_builtin wX ?_
  rw[Around.under_plainId xB _]
  show wpAny _ A.in1 (pyNext (.ref it) >>= _) _ _ s
  refine zn (wpAny_pyNext_list_end hh ii il hend fun h' hx=>?_)
  show wpAny _ _ (Builtin.Dict.addKeywords D [] >>= _) _ _ _
  refine zn (zP (zP ?_))
  have e0:merged kvs (pairs.drop i)=kvs:=by rw[List.drop_eq_nil_of_le (by omega)];rfl
  have:=q h' s.toks (by rw[e0];exact dd.extBut hx (qz hiD)) (fun b o hb _ e=>?_)
  ·exact this
  ·exact hx b o hb e
 | succ m ih=>
  intro s i kvs hm hi ii il dd hz ht q
  have hlt:i<items.size:=by omega
  obtain⟨u,hu⟩:∃u,items[i]? =some u:=⟨_,VZ hlt⟩
  obtain⟨T,k,key,v,rfl,nT,nD,tT,kk,ep⟩:=ht i u hu
  refine codeAny_builtin wX ?_
  rw[Around.under_plainId xB _]
  show wpAny _ A.in1 (pyNext (.ref it) >>= _) _ _ s
  refine zn (wpAny_pyNext_list_item ii il hu fun h1 i1 s1=>?_)
  dsimp only
  refine zn (y6 (zn ?_))
  obtain⟨oT,eT,cT,nn,dT⟩:=tT
  have k1:∀b o,b≠it->s.heap.get? b=some o->h1.get? b=some o:=fun b o hb e=>(s1.2 b hb).trans e
  have hT1:({ s with heap:=h1 }:Shared).TypeIs (.ref T) "tuple" :=⟨_,k1 _ _ nT eT,cT⟩
  show wpAny _ _ (tryCatch (Builtin.Dict.pairItems (.ref T)) _) _ _ _
  refine wpAny_tryCatch ?_
  unfold Builtin.Dict.pairItems
  refine zn (wpAny_typeOf hT1 ?_)
  rw[zx (show(Value.type "tuple" == Value.type "list" || Value.type "tuple" == Value.type "tuple")=true by decide)]
  refine zn (y8 (k1 _ _ nT eT) dT (zP ?_))
  show wpAny _ _ (holding [key,v] (dictSet D key v)) _ _ _
  refine y6 (wpAny_dictSet_pairs kk (dd.sameBut s1 (qz hiD)) (hsz:=by omega) fun h2 d2 s2=>?_)
  refine zP ⟨plainId_quiet xB _,?_⟩
  have k2:∀b o,b≠it->b≠D->s.heap.get? b=some o->h2.get? b=some o:=fun b o hb hb' e=>(s2.2 b hb').trans (k1 b o hb e)
  have lst:(stored kvs k v).length<=kvs.length+1:=stored_length_le kvs k v
  have:=ih { s with heap:=h2,toks:=s.toks+1 } (i+1) (stored kvs k v) (by omega) hlt (i1.at fun o e=>(s2.2 it hiD).trans e) (il.at fun o e=>k2 l o hil hlD e) d2 (by omega)
   (fun j u hj=>by
    obtain⟨T',k',key',v',z1,z2,z3,z4,z5,z6⟩:=ht j u hj
    obtain⟨o',e',r'⟩:=z4
    exact⟨T',k',key',v',z1,z2,z3,⟨o',k2 _ _ z2 z3 e',r'⟩,z5,z6⟩)
   (fun h' tk d' kp=>q h' tk (by rw[<- Vx kvs pairs i (k,v) ep];exact d') fun b o hb hb' e=>kp b o hb hb' (k2 b o hb hb' e))
  exact this
end
def zfL:Obj:={ cls:=.type "dict",data:=.dict #[] }
theorem Q7:(Value.type "list" != Value.type "dict")=true:=by decide
section
variable{prog:Program}{w:World}{K:Type}[DecidableEq K]{knd:KeyKind prog w K}{A:Around}{E:Value->Shared->Prop}{s:Shared}
theorem ZT{l:Addr}{items:Array Value}{n:Nat}{pairs:List (K×Value)}{Q:Value->Shared->Prop}(hh:A.handled=none)(hl:s.heap.get? l=some { cls:=.type "list",data:=.seq items n })(hlen:pairs.length=items.size)(hsz:items.size<=sizeLine)
  (ht:∀(j:Nat) (u:Value),items[j]? =some u->∃(T:Addr) (k:K) (key v:Value),u=.ref T/\IsTup s.heap T #[key,v]/\knd.is k key=true/\pairs[j]? =some (k,v))
  (h:∀h' tk,h'.DictOf knd s.heap.objs.size (merged [] pairs)->(∀b o,s.heap.get? b=some o->h'.get? b=some o)->Q (.ref s.heap.objs.size) { s with heap:=h',toks:=tk }) :
  wpAny (model prog w) A (call (.type "dict") [.ref l]) Q E s:=by
 have dk:(s.heap.push zfL).DictOf knd s.heap.objs.size []:=.new s.heap
 have hl':=qA zfL hl
 refine callType_codes (Q₁:=fun u s1=>u=.ref s.heap.objs.size/\s1={ s with heap:=s.heap.push zfL }) F.kt_called_dict (F.kt_typeCall_dict_1 _) F.entry_dict_init (kt_code_dict_new _ ⟨rfl,rfl⟩) fun u s1 e=>?_
 obtain⟨eu,es⟩:=e
 subst eu es
 refine⟨dk.typeIs,F.args_dict_init_2 _ _,?_⟩
 show wpAny _ _ (Builtin.Dict.selfAndRest _ _ >>= fun x=>Builtin.Dict.updateCommon _ _ x.1 x.2 _) _ _ _
 refine zn (zn (wpAny_notOrdered_dict dk.typeIs ?_))
 refine zP (show wpAny _ _ (Builtin.Dict.updateFrom "dict.__init__" s.heap.objs.size (.ref l) [] .none) _ _ _ from ?_)
 refine zn (wpAny_typeOf (T:= "list") ⟨_,hl',rfl⟩ ?_)
 rw[zx Q7]
 refine zn (Ql hh hl' fun h1 t1 k1=>?_)
 rw[zx (show(none:Option Value).isNone=true from rfl)]
 refine zn (vK (zn (wpAny_pyIter_list ⟨_,k1 _ _ hl',rfl,n,rfl⟩ ?_)))
 have dD:=dk.keep k1
 have ltl:=zO hl
 obtain⟨oD,_,_,eD,_⟩:=id dD
 have ltD:=zO eD
 have kk:∀b o,s.heap.get? b=some o->(h1.push { cls:=.type "list_iterator",data:=.fields #[.ref l,.int 0 0] }).get? b=some o:=fun b o e=>qA _ (k1 _ _ (qA _ e))
 have lt1:∀b o,s.heap.get? b=some o->b<h1.objs.size:=fun b o e=>zO (k1 _ _ (qA _ e))
 refine zP ⟨plainId_quiet xB _,?_⟩
 refine zdU (knd:=knd) (s:=⟨h1.push { cls:=.type "list_iterator",data:=.fields #[.ref l,.int 0 0] },s.gens,s.drawn,t1,s.os⟩) (l:=l) (it:=h1.objs.size) (D:=s.heap.objs.size) (items:=items) (pairs:=pairs) (A:=A.in1) (res:=.none) hh (qq (lt1 _ _ hl)) (qq ltl) (xY ltD) hlen items.size 0 [] rfl (qu _) ⟨_,qC _ rfl,rfl,rfl⟩ ⟨_,kk _ _ hl,rfl,n,rfl⟩ (dD.push _) (by simpa using hsz) (fun j u hj=>?_) (fun h' tk d' kp=>?_)
 ·obtain⟨T,k,key,v,rfl,⟨o,e,r⟩,z,y⟩:=ht j u hj
  exact⟨T,k,key,v,rfl,qq (lt1 _ _ e),qq (zO e),⟨o,kk _ _ e,r⟩,z,y⟩
 ·exact⟨rfl,h h' tk (by simpa using d') fun b o e=>kp b o (qq (lt1 _ _ e)) (qq (zO e)) (kk _ _ e)⟩
end
def PrsL(H:Hp)(xs:List V)(kps:List (Key×V)):Prop:=xs.length=kps.length/\∀(j:Nat) (x:V),xs[j]? =some x->∃(T:Addr) (k:Key) (v:V),x=.ref T/\H T=some (.tup [kV k,v])/\kps[j]? =some (k,v)
theorem PrsL.nil{H:Hp}:PrsL H [] []:=⟨rfl,fun j x e=>by simp at e⟩
theorem PrsL.same{H H':Hp}{xs:List V}{kps:List (Key×V)}(h:PrsL H xs kps)(s:Same H H'):PrsL H' xs kps:=⟨h.1,fun j x e=>let ⟨T,k,v,a,b,c⟩:=h.2 j x e;⟨T,k,v,a,s _ _ b,c⟩⟩
theorem PrsL.snoc{H:Hp}{xs:List V}{kps:List (Key×V)}{T:Addr}{k:Key}{v:V}(h:PrsL H xs kps)(e:H T=some (.tup [kV k,v])):PrsL H (xs++[.ref T]) (kps++[(k,v)]):=by
 refine⟨by rw[zW,zW,h.1];rfl,fun j x ex=>?_⟩
 have l:=h.1
 by_cases hj:j<xs.length
 ·rw[xt hj] at ex
  obtain⟨T',k',v',a,b,c⟩:=h.2 j x ex
  exact⟨T',k',v',a,b,by rw[xt (by omega)];exact c⟩
 ·rw[xu (by omega)] at ex
  have:j=xs.length:=by
   have:=(zQ.mp ex).1
   simp at this;omega
  subst this
  simp at ex
  subst ex
  exact⟨T,k,v,rfl,e,by rw[l,xu (zG _)];simp⟩
theorem zeF:∀{kps:List (Key×V)} {ps:List (Key×Value)},kps.length=ps.length->(∀(j:Nat) p,ps[j]? =some p->∃q,kps[j]? =some q/\q.1=p.1/\RelV q.2 p.2)->KV kps ps
 | [],[],_,_=>.nil
 | [],_::_,h,_=>by simp at h
 | _::_,[],h,_=>by simp at h
 | x::xs,u::us,h,f=>by
  refine .cons ?_ (zeF (by simpa using h) fun j v e=>?_)
  ·obtain⟨y,e1,r⟩:=f 0 u rfl
   cases e1
   exact r
  ·obtain⟨y,e1,r⟩:=f (j+1) v (by simpa using e)
   exact⟨y,by simpa using e1,r⟩
theorem ZH{α β:Type}:∀(P:Nat->α->β->Prop) (l:List α),(∀j u,l[j]? =some u->∃b,P j u b)->∃bs:List β,bs.length=l.length/\∀j u,l[j]? =some u->∃b,bs[j]? =some b/\P j u b
 | _,[],_=>⟨[],rfl,fun j u e=>by simp at e⟩
 | P,x::l,f=>by
  obtain⟨b,hb⟩:=f 0 x rfl
  obtain⟨bs,h1,h2⟩:=ZH (fun j=>P (j+1)) l fun j u e=>f (j+1) u (by simpa using e)
  refine⟨b::bs,by simp[h1],fun j u e=>?_⟩
  cases j with
  | zero=>simp at e;subst e;exact⟨b,rfl,hb⟩
  | succ j=>
   obtain⟨c,h3,h4⟩:=h2 j u (by simpa using e)
   exact⟨c,by simpa using h3,h4⟩
theorem Vals.at:∀{xs:List V} {us:List Value} {i:Nat} {u:Value},Vals xs us->us[i]? =some u->∃x,xs[i]? =some x/\RelV x u:=fun {xs us i u} r e=>by
 have l:=Vals.length r
 have h:=(zQ.mp e).1
 obtain⟨v,e1,r1⟩:=r.get (i:=i) (x:=xs[i]'(by omega)) (qX _)
 rw[e] at e1
 cases e1
 exact⟨_,qX _,r1⟩
section
variable{X:Cx}
inductive Zf(xs:List V)(H:Hp)(Q:VK):Prop
 | mk (a:Addr) (ys:List V) (kps:List (Key×V)) (_:xs=[.ref a]) (_:H a=some (.lst ys)) (_:PrsL H ys kps) (_:∀p,H p=none->Q (.ref p) (upd H p (.dK (ju [] kps)))):Zf xs H Q
theorem WC(hh:X.A.handled=none):CallR X (.type "dict") (Zf):=by
 intro pins s σ H xs us Q I r h
 obtain⟨a,ys,kps,rfl,hx,pr,q⟩:=h
 obtain⟨u,rfl,ru⟩:=Vals.one r
 cases(show u=Value.ref a from ru)
 obtain⟨zz,its,n,rel,hl⟩:=(show ObjOk X.prog X.w H s.heap a (.lst ys) from I.hok a _ hx)
 have ln:=rel.length
 have kn:=pr.1
 have at_:∀(j:Nat) (u:Value),its[j]? =some u->∃(T:Addr) (k:Key) (key v:Value) (y:V),u=.ref T/\IsTup s.heap T #[key,v]/\(qh X.prog X.w).is k key=true/\kps[j]? =some (k,y)/\RelV y v:=fun j u hj=>by
  obtain⟨x,ex,rx⟩:=Vals.at rel hj
  obtain⟨T,k,v,rfl,eT,ek⟩:=pr.2 j x ex
  cases(show u=Value.ref T from rx)
  obtain⟨_,ts,rt,it,_⟩:=(show ObjOk X.prog X.w H s.heap T (.tup [kV k,v]) from I.hok T _ eT)
  obtain⟨u1,u2,rfl,r1,r2⟩:=Vals.two rt
  exact⟨T,k,u1,u2,v,rfl,it,wU r1,ek,r2⟩
 obtain⟨ps,lp,hp⟩:=ZH (fun j u (p:Key×Value)=>∃(T:Addr) (key:Value) (y:V),u=.ref T/\IsTup s.heap T #[key,p.2]/\(qh X.prog X.w).is p.1 key=true/\kps[j]? =some (p.1,y)/\RelV y p.2) its fun j u e=>by
  obtain⟨T,k,key,v,y,a,b,c,d,f⟩:=at_ j u e
  exact⟨(k,v),T,key,y,a,b,c,d,f⟩
 have kv:KV kps ps:=zeF (by omega) fun j p e=>by
  have hj:=(zQ.mp e).1
  obtain⟨b,e1,T,key,y,_,_,_,e2,r2⟩:=hp j _ (qX (by omega))
  rw[e] at e1
  cases e1
  exact⟨_,e2,rfl,r2⟩
 have mg:(ju [] kps).length<=sizeLine:=by
  have:=xD kps []
  rw[Xv] at this
  omega
 have hn:H s.heap.objs.size=none:=I.hok.fresh (zG _)
 refine ZT (knd:=qh X.prog X.w) (pairs:=ps) (items:=its.toArray) hh hl (by simp[lp]) (by simp;omega) (fun j u e=>?_) fun h' tk d' kp=>?_
 ·rw[List.getElem?_toArray] at e
  obtain⟨p,e1,T,key,y,a,b,c,d,f⟩:=hp j u e
  exact⟨T,p.1,key,p.2,a,b,c,e1⟩
 ·have ns:(s.heap.objs.size==sysModules)=false:=beq_eq_false_iff_ne.mpr (xY I.big)
  exact⟨.ref s.heap.objs.size,_,I.laid (a:=s.heap.objs.size) (o:=.dK (ju [] kps)) (t':=tk) kp (zG _) (Qt mg ns (KV.merge kv .nil) d'),rfl,q _ hn⟩
theorem zdh{K:PySem.W.Frag}(h:X.K=K){tg l:Expr}{tl:TE}(hl:PE X l tl):PI X tg l (zgJ K tl):=by rw[<- h];exact zbS hl
end
section
variable{X:Cx}{elt tg iter:Expr}{ifs:List Expr}{scope:Scope}{pos:Pos}{wi:TI}{g:TG}{tf:TT}{te:TE}{x:Str}
theorem ze6{yt:Str}{py spos:Pos}{g2:TG}(fr:List Str)(js:List Nat)(hc:X.calm=true)(hk:scope.kind=.function)(hb:Xj scope.names X.env.scope.names X.N x fr js=true)(hi:PI X tg iter wi)
  (hg:∀C s H ex,PG (jR X ([x]++fr) scope x C s H ex) tg g) (hf:∀C s H ex,PF (jR X ([x]++fr) scope x C s H ex) ifs tf) (he:∀C s H ex,PE (jR X ([x]++fr) scope x C s H ex) elt te)
  (hg2:PG X (.Name yt py) g2) (hsw:swapsWith (.ListComp elt [⟨tg,iter,ifs,0⟩] scope pos) (some (.Name yt py)) spos.line X.env=pure true:=by rfl)
  (hs:∀x,foldedSetIterable iter X.env x=pure x:=by intro _;rfl):PS X (.Assign [.Name yt py] (.ListComp elt [⟨tg,iter,ifs,0⟩] scope pos) spos) (V9 (tLC wi 1 js g tf te) g2):=by
 intro pins s σ H Dn I h
 have B:=JK hb
 have hasF:∀y∈scope.names,y.2=NameKind.free->∃c,X.env.cells.lookup y.1=some c:=fun y hy e=>I.ok.has y.1 (B.free y hy e)
 rw[exec_Assign_Name_used _ _ _ _ hsw]
 refine zn (Zx (zn ?_))
 show wpAny _ X.A (do let _<-comprehension (.ListComp elt [⟨tg,iter,ifs,0⟩] scope pos) scope X.env _ (newList []) false (eval iter X.env) (some (assign (.Name yt py) X.env))) _ _ s
 refine zn (xp (wpAny_comprehension_free (use:=some (assign (.Name yt py) X.env)) (Q:=fun _ s'=>∃σ' H',Inv X pins σ' H' s'/\Dn.nx σ' H') rfl hs (zad hasF) hk (fun y hy e=>B.loc y hy e) (thn (hi pins s σ H _ I h) fun v s1 h1=>thn h1 fun itv s2 h2=>?_)) (fun _ s' hq=>zP (zP hq)) fun _ _ e=>e)
 obtain⟨it,fp,tn,J,H2,e,I2,T,st2,f2,W,⟨m0,w0⟩,turn⟩:=h2
 subst e
 have fl:∀b∈fp,b<s2.heap.objs.size:=fun b hb=>let ⟨o,e,_⟩:=T.obj _ _ st2 b hb;zO e
 refine xZ (Wp B.one ?_)
 dsimp only
 generalize e3:s2.heap.push { cls:=.type "list",dict:=none,data:=.seq ([]:List Value).toArray }=h3
 have hns:((h3.push { cls:=.type "dict",data:=.dict #[] }).push { cls:=.type "cell",data:=.cell none }).Ns h3.objs.size (fun _=>none):=(Heap.Ns.new h3 (.type "dict")).keeps fun b o e=>qA _ e
 have hcell:((h3.push { cls:=.type "dict",data:=.dict #[] }).push { cls:=.type "cell",data:=.cell none }).IsCell (h3.objs.size+1) none:=⟨_,by have:=qC (h3.push { cls:=.type "dict",data:=.dict #[] }) (o:={ cls:=.type "cell",data:=.cell none }) rfl;rwa[xf] at this,rfl⟩
 have k4:∀b o,h3.get? b=some o->((h3.push { cls:=.type "dict",data:=.dict #[] }).push { cls:=.type "cell",data:=.cell none }).get? b=some o:=fun b o e=>qA _ (qA _ e)
 generalize (h3.push { cls:=.type "dict",data:=.dict #[] }).push { cls:=.type "cell",data:=.cell none }=h1 at hns hcell k4
 have k3:∀b o,s2.heap.get? b=some o->h3.get? b=some o:=fun b o e=>by rw[<- e3];exact qA _ e
 have I4:Inv (jR X ([x]++fr) scope x h3.objs.size { s2 with heap:=h3 } H2 (s2.heap.objs.size::fp)) [] (upS 1 js σ) H2 { s2 with heap:=h1 }:=
  WD fr js I2 B hk f2 fl rfl e3.symm rfl hns hcell k4
 have I3:Inv X pins σ H2 { s2 with heap:=h3 }:=I2.kept (t':=s2.toks) k3
 have hz:h3.objs.size=s2.heap.objs.size+1:=by rw[<- e3,xf]
 have hDl:s2.heap.objs.size≠h3.objs.size:=by rw[hz];exact qq (QG _)
 have hacc:h1.get? s2.heap.objs.size=some { cls:=.type "list",data:=.seq ([]:List Value).toArray }:=k4 _ _ (by rw[<- e3];exact qC _ rfl)
 have fpC:=(I3.fpOk (b:=h3.objs.size) (zG _) (I3.hok.fresh (zG _))).2
 generalize eD:s2.heap.objs.size=D at *
 generalize eC:h3.objs.size=C at *
 have fD:∀b∈fp,D≠b:=fun b hb=>xY (fl b hb)
 have look:∀y c,((x,C+1)::jv X.env.cells scope.names []).lookup y=some c->c=C+1\/X.env.cells.lookup y=some c:=fun y c e=>by
  rw[jE] at e
  by_cases q:(y==x)=true
  ·rw[q] at e
   exact .inl (jK e).symm
  ·rw[(Xw _).mp q] at e
   exact .inr (qF e hasF)
 have hx:∀y c,((x,C+1)::jv X.env.cells scope.names []).lookup y=some c->c≠D:=fun y c e=>by
  rcases look y c e with z | z
  ·rw[z,hz];exact xY (y9 (QG _))
  ·obtain⟨v,q⟩:=I2.cell y c z
   rw[<- eD];exact qq q.lt
 have hx2:∀b∈fp,∀y c,((x,C+1)::jv X.env.cells scope.names []).lookup y=some c->c≠b:=fun b hb y c e=>by
  rcases look y c e with z | z
  ·rw[z,hz];exact xY (y9 (y9 (fl b hb)))
  ·exact(f2 b hb).2.2.2.2.1 y c z
 have nfs:∀b∈D::fp,b∉frs X.stack:=I4.ok.exfs
 have fpB:∀{pins':List (Addr×Obj)} {H':Hp} {b:Addr},b∈fp->H' b=none->(∀p∈pins',p.1≠b)->x8 (jR X ([x]++fr) scope x C { s2 with heap:=h3 } H2 (D::fp)) pins' H' b:=fun {pins' H' b} hb hn hp=>
  ⟨hn,(I4.ok.exf b (qV _ hb)).1,nfs b (qV _ hb),.inl (qV _ hb),fun x c e=>hx2 b hb x c e,fun p h=>hp p (by simpa using h)⟩
 have fpD:∀{pins':List (Addr×Obj)} {H':Hp},H' D=none->(∀p∈pins',p.1≠D)->x8 (jR X ([x]++fr) scope x C { s2 with heap:=h3 } H2 (D::fp)) pins' H' D:=fun {pins' H'} hn hp=>
  ⟨hn,hDl,nfs D qP,.inl qP,fun x c e=>hx x c e,fun p h=>hp p (by simpa using h)⟩
 have loop:∀s4:Shared,s4={ s2 with heap:=h1 } ->
   codeAny (model X.prog X.w) X.A (.compLoop (.ListComp elt [⟨tg,iter,ifs,0⟩] scope pos) 0 (.ref it) (.ref D) (compEnvC scope ((x,C+1)::jv X.env.cells scope.names []) C X.env))
    (compPost (model X.prog X.w) X.A X.xe (some (assign (.Name yt py) X.env)) (fun _ s'=>∃σ' H',Inv X pins σ' H' s'/\Dn.nx σ' H') (.ref D) C) s4:=by
  intro s4 e4
  refine VW (fun n s'=>∃i ys its H',∃z:Nat,Inv (jR X ([x]++fr) scope x C { s2 with heap:=h3 } H2 (D::fp)) [] (upS 1 js σ) H' s'/\tn i s'.heap/\(∀b∈fp,H' b=none)/\H' D=none /\
   s'.heap.get? D=some { cls:=.type "list",data:=.seq (its:List Value).toArray z }/\Vals ys its/\W i n ys H') ?_ m0 ?_
  ·rintro n s5 ⟨i,ys,its,H5,z5,I5,st5,fr5,hD5,ho5,rv5,w5⟩
   have I5':=I5.pinned (fp:=[D]) (fun b hb=>by rw[qg.mp hb];exact fpD hD5 (fun p hp=>absurd hp (by simp))) (fun b hb=>by
    rw[qg.mp hb];exact⟨_,ho5,fun v q=>nomatch q⟩)
   have pD:∀p∈[]++jf [D] s5.heap,p.1=D:=fun p hp=>by
    rw[Xt] at hp
    exact qg.mp (Zr hp).1
   have mD:(D,({ cls:=.type "list",data:=.seq its.toArray z5 }:Obj))∈[]++jf [D] s5.heap:=by
    rw[Xt];exact jO (qg.mpr rfl) ho5
   have fp5:∀{H':Hp},(∀b∈fp,H' b=none)->∀b∈fp,x8 (jR X ([x]++fr) scope x C { s2 with heap:=h3 } H2 (D::fp)) ([]++jf [D] s5.heap) H' b:=fun hn b hb=>fpB hb (hn b hb) fun p hp=>by
    rw[pD p hp];exact fD b hb
   rcases turn i n ys H5 w5 with ⟨stop,hlen,q⟩ | ⟨go,N,hN,step⟩
   ·refine thn (T.done (jR X ([x]++fr) scope x C { s2 with heap:=h3 } H2 (D::fp)) rfl rfl rfl hc i _ s5 _ H5 _ I5' (fp5 fr5) st5 stop) fun r s6 ⟨hr,I6⟩=>?_
    subst hr
    obtain⟨m6,hn6,_⟩:=I6.loc
    obtain⟨o6,nD6,_⟩:=I6.pin (D,_) (qH _ mD)
    have k7:∀b o,b≠C->s6.heap.get? b=some o->s6.heap.get? b=some o:=fun b o _ e=>e
    have J0:Inv X pins σ (upd H5 D (.lst ys)) s6:=by
     refine I3.call' (s':=s6) (ch:=D::fp) I6.os (XY (zbe I6.base (yr eC) k7) qP (I2.hok.fresh ?_)) (Jz (YZ I6.hok I6.free k7) nD6 ⟨hlen,its,z5,rv5,k7 D _ hDl o6⟩) I6.bare fun b hb=>?_
     ·rw[<- eD];exact zG _
     ·rcases zS.mp hb with y | hb
      ·subst y
       refine⟨.inr (by rw[<- eD];exact I2.sz),by rw[<- eD];exact xY I2.lt,fun x c e=>?_,fun p hp=>?_⟩
       ·obtain⟨v,q⟩:=I2.cell x c e
        rw[<- eD];exact qq q.lt
       ·rw[<- eD];exact qq (zO (I2.pin p hp).1)
      ·obtain⟨_,g1,_,g3,g4,g5⟩:=f2 b hb
       exact⟨g3,g1,g4,g5⟩
    obtain⟨oC,eoC,dC⟩:∃o,s6.heap.get? C=some o/\∀v,o.data≠.cell v:=by
     obtain⟨o,es,ep,ho,hd,_⟩:=hn6
     exact⟨o,ho,fun v z=>by rw[hd] at z;cases z⟩
    have hC0:(upd H5 D (.lst ys)) C=none:=by
     rw[zi (qz hDl)];exact I6.free
    have J1:=J0.pinned (fp:=[C]) (fun b hb=>by rw[qg.mp hb];exact⟨hC0,fpC⟩) (fun b hb=>by rw[qg.mp hb];exact⟨oC,eoC,dC⟩)
    have mC:(C,oC)∈pins++jf [C] s6.heap:=qH _ (jO (qg.mpr rfl) eoC)
    refine thn (hg2 _ s6 σ _ (.ref D) (.ref D) _ J1 rfl (q D nD6)) fun _ s8 ⟨σ8,H8,I8,q8⟩=>?_
    obtain⟨e8,n8,_⟩:=I8.pin (C,oC) (qH _ mC)
    refine⟨m6,?_,fun h9 hs9=>⟨σ8,H8,?_,q8⟩⟩
    ·obtain⟨o,es,ep,ho,r⟩:=hn6
     have ho':s6.heap.get? C=some o:=ho
     rw[eoC] at ho';cases ho'
     exact⟨oC,es,ep,e8,r⟩
    ·obtain⟨g1,_,g3,g4,g5⟩:=fpC
     exact(I8.unpinned).turned (t':=s8.toks) (it:=C) (fun b o hb e=>hs9.extBut b o hb e) n8 g1 g3 g4 g5
   ·refine thn (T.item (jR X ([x]++fr) scope x C { s2 with heap:=h3 } H2 (D::fp)) rfl rfl rfl hc i _ s5 _ H5 _ I5' (fp5 fr5) st5 go) fun r s6 ⟨u,hr,h6⟩=>?_
    subst hr
    refine thn h6 fun _ s7 ⟨x7,H7,I7,r7,y7,st7,fr7⟩=>?_
    have I7':=I7.pinned (fp5 fr7) (T.obj _ _ st7)
    refine thn (hg _ _ _ _ _ s7 _ H7 x7 u _ I7' r7 (step x7 H7 y7)) fun _ s8 ⟨σ8,H8,I8,hd8,q8⟩=>?_
    refine thn (hf _ _ _ _ _ s8 σ8 H8 _ I8 q8) fun ok s9 ⟨H9,I9,q9⟩=>?_
    have weak:∀{H':Hp} {s':Shared},Inv (jR X ([x]++fr) scope x C { s2 with heap:=h3 } H2 (D::fp)) (([]++jf [D] s5.heap)++jf fp s7.heap) σ8 H' s' ->
      Inv (jR X ([x]++fr) scope x C { s2 with heap:=h3 } H2 (D::fp)) [] (upS 1 js σ) H' s':=fun {H' s'} J=>by
     refine(J.unpinned).unpinned.weak (I5.len.trans J.len.symm) fun k v e=>?_
     obtain⟨hn,e1,_⟩:=yE e
     rw[<- hd8,WO] at e1
     rw[<- e1]
     congr 1
     omega
    have mF:∀b∈fp,∀o,s7.heap.get? b=some o->(b,o)∈([]++jf [D] s5.heap)++jf fp s7.heap:=fun b hb o e=>qH _ (jO hb e)
    have mD':=ji (jf fp s7.heap) mD
    have frB:∀{H':Hp} {s':Shared},Inv (jR X ([x]++fr) scope x C { s2 with heap:=h3 } H2 (D::fp)) (([]++jf [D] s5.heap)++jf fp s7.heap) σ8 H' s'->∀b∈fp,H' b=none:=fun {H' s'} J b hb=>by
     obtain⟨o,e,_⟩:=T.obj _ _ st7 b hb
     exact(J.pin (b,o) (qH _ (mF b hb o e))).2.1
    cases ok with
    | false=>
     have q9':N ys H9:=by simpa using q9
     obtain⟨m',hm,w'⟩:=hN _ _ q9'
     obtain⟨o9,nD9,_⟩:=I9.pin (D,_) (qH _ mD')
     exact⟨m',hm,i+1,ys,its,H9,z5,weak I9,T.keep _ _ _ st7 fun b hb o e=>(I9.pin (b,o) (qH _ (mF b hb o e))).1,frB I9,nD9,o9,rv5,w'⟩
    | true=>
     have q9':te σ8 H9 fun y H6=>ys.length<sizeLine/\N (ys++[y]) H6:=by simpa using q9
     refine thn (he _ _ _ _ _ s9 σ8 H9 _ I9 q9') fun yv s10 ⟨y,H10,I10,r10,hlt,w10⟩=>?_
     obtain⟨m',hm,w'⟩:=hN _ _ w10
     obtain⟨o10,nD10,_⟩:=I10.pin (D,_) (qH _ mD')
     refine wpAny_list_append_plain (l:=D) (items:=its.toArray) (hsz:=by rw[qi,<- rv5.length];exact yw hlt) ⟨_,o10⟩ fun h11 hl11 hs11=>?_
     obtain⟨z11,e11⟩:=hl11
     refine⟨m',hm,i+1,ys++[y],its++[yv],H10,z11,?_,T.keep _ _ _ st7 fun b hb o e=>hs11.extBut b o (qz (fD b hb)) (I10.pin (b,o) (qH _ (mF b hb o e))).1,frB I10,nD10,?_,rv5.append (.cons r10 .nil),w'⟩
     ·exact(weak I10).turned (t':=s10.toks) (it:=D) (fun b o hb e=>hs11.extBut b o hb e) nD10 hDl (.inl qP) (fun x c e=>hx x c e) fun p hp=>absurd (show p∈([]:List (Addr×Obj)) from hp) (by simp)
     ·rw[e11];simp
  ·subst e4
   exact⟨0,[],[],H2,0,I4,T.keep _ _ _ st2 fun b hb o e=>k4 b o (k3 b o e),fun b hb=>(f2 b hb).1,I2.hok.fresh (by rw[<- eD];exact zG _),hacc,.nil,w0⟩
 exact codeAny_compStart_list (loop _ rfl) (T.self X.A 0 _ _ _ (T.keep _ _ _ st2 fun b hb o e=>k4 b o (k3 b o e)) (loop _ rfl))
theorem ze5{px:Pos}{yt:Str}{py spos:Pos}{g2:TG}(fr:List Str)(js:List Nat)(hc:X.calm=true)(hk:scope.kind=.function)(hb:Xj scope.names X.env.scope.names X.N x fr js=true)(hi:PI X (.Name x px) iter wi)
  (hf:∀C s H ex,PF (jR X ([x]++fr) scope x C s H ex) ifs tf) (he:∀C s H ex,PE (jR X ([x]++fr) scope x C s H ex) elt te)
  (hg2:PG X (.Name yt py) g2) (hsw:swapsWith (.ListComp elt [⟨.Name x px,iter,ifs,0⟩] scope pos) (some (.Name yt py)) spos.line X.env=pure true:=by rfl)
  (hs:∀x,foldedSetIterable iter X.env x=pure x:=by intro _;rfl):PS X (.Assign [.Name yt py] (.ListComp elt [⟨.Name x px,iter,ifs,0⟩] scope pos) spos) (V9 (tLC wi 1 js (vN 0) tf te) g2):=by
 have B:=JK hb
 refine ze6 fr js hc hk hb hi (fun C s H ex=>?_) hf he hg2 hsw hs
 have lk:(compEnvC scope ((x,C+1)::jv X.env.cells scope.names []) C X.env).scope.names.lookup x=some .cell:=yi B.lk
 exact zy (X:=jR X ([x]++fr) scope x C s H ex) B.nd rfl (.inr lk) (.inl (by show(x==x)=true;simp))
variable{y:Str}{px py tp:Pos}{kk:Nat}
theorem zdj{K:PySem.W.Frag}(hK:X.K=K)(fr:List Str)(js:List Nat)(hc:X.calm=true)(hk:scope.kind=.function)(hb:yq scope.names X.env.scope.names X.N [x,y] fr js=true)(hi:PI X (.Tuple [.Name x px,.Name y py] kk tp) iter wi)
  (hf:∀C s H ex,PF (qR X ([x,y]++fr) scope C s H ex) ifs tf) (he:∀C s H ex,PE (qR X ([x,y]++fr) scope C s H ex) elt te)
  (hs:∀x,foldedSetIterable iter X.env x=pure x:=by intro _;rfl):PE X (.ListComp elt [⟨.Tuple [.Name x px,.Name y py] kk tp,iter,ifs,0⟩] scope pos) (tLC wi 2 js (zcr K 2 (ZD (vN 0) (ZD (vN 1) zdQ))) tf te):=by
 subst hK
 exact wa fr js hc hk hb hi hf he hs
end
def Up(xs:Array Nat):Prop:=xs.toList.Pairwise (·< ·)
theorem Up.lt{xs:Array Nat}(h:Up xs){i j:Nat}{a b:Nat}(hi:xs[i]? =some a)(hj:xs[j]? =some b)(hij:i<j):a<b:=by
 have h1:=W5.mp hi
 have h2:=W5.mp hj
 obtain⟨l1,e1⟩:=h1
 obtain⟨l2,e2⟩:=h2
 have:=zcL.mp h i j (by simpa using l1) (by simpa using l2) hij
 simpa [e1,e2] using this
structure TabOk(b:Bool)(t:SetTable):Prop where
 up:Up t.place
 no:t.dummies=#[]
 led:t.led=b
theorem zbc(n:Nat):Up (Array.range n):=by
 unfold Up
 rw[Array.toList_range]
 exact List.pairwise_lt_range
theorem TabOk.stand{b:Bool}{t:SetTable}(h:TabOk b t)(n:Nat):TabOk b (t.standIn n):=⟨zbc n,rfl,h.led⟩
theorem TabOk.plain{b p:Bool}{t:SetTable}(h:TabOk b t):TabOk b { t with plain:=p }:=⟨h.up,h.no,h.led⟩
theorem TabOk.or{b:Bool}{t:SetTable}(h:TabOk b t)(n:Nat):TabOk b (t.orStandIn n):=by
 unfold SetTable.orStandIn
 split
 ·exact h
 ·exact h.stand n
theorem TabOk.fresh(b:Bool):TabOk b (.fresh 0 0 b):=⟨List.Pairwise.nil,rfl,rfl⟩
theorem Vo{α β:Type}{R:α->β->Prop}{ys ys':List β}(p:ys'.Perm ys):∀{xs:List α},Paired R xs ys->∃xs',xs'.Perm xs/\Paired R xs' ys':=by
 induction p with
 | nil=>intro xs h;exact⟨xs,.refl _,h⟩
 | cons y _ ih=>
  intro xs h
  cases h with
  | cons r t=>
   obtain⟨xs',p',h'⟩:=ih t
   exact⟨_::xs',p'.cons _,.cons r h'⟩
 | swap y z l=>
  intro xs h
  cases h with
  | cons r t=>
   cases t with
   | cons r2 t2=>exact⟨_,.swap _ _ _,.cons r2 (.cons r t2)⟩
 | trans _ _ ih1 ih2=>
  intro xs h
  obtain⟨x1,p1,h1⟩:=ih2 h
  obtain⟨x2,p2,h2⟩:=ih1 h1
  exact⟨x2,p2.trans p1,h2⟩
theorem Qh{α β:Type}{R:α->β->Prop}{x:α}{y:β}(r:R x y):∀{xs:List α} {ys:List β},Paired R xs ys->Paired R (xs++[x]) (ys++[y])
 | _,_,.nil=>.cons r .nil
 | _,_,.cons h t=>.cons h (Qh r t)
theorem Qg{α β:Type}{R:α->β->Prop}:∀{xs:List α} {ys:List β},Paired R xs ys->(∀x∈xs,∃y∈ys,R x y)/\∀y∈ys,∃x∈xs,R x y
 | _,_,.nil=>⟨fun x h=>(nomatch h),fun y h=>(nomatch h)⟩
 | _,_,.cons h t=>by
  obtain⟨a,b⟩:=Qg t
  refine⟨fun x hx=>?_,fun y hy=>?_⟩
  ·rcases zS.mp hx with z | z
   ·rw[z];exact⟨_,qP,h⟩
   ·obtain⟨y,hy,r⟩:=a x z
    exact⟨y,qV _ hy,r⟩
  ·rcases zS.mp hy with z | z
   ·rw[z];exact⟨_,qP,h⟩
   ·obtain⟨x,hx,r⟩:=b y z
    exact⟨x,qV _ hx,r⟩
section
variable{prog:Program}{w:World}{K:Type}[DecidableEq K](knd:KeyKind prog w K)
def ElX(es:List (Int×Value))(ks:List K):Prop:=ElemsOf knd es/\∃ks',ks'.Perm ks/\Paired (fun k (e:Int×Value)=>knd.is k e.2=true) ks' es
def ObX(b:Bool)(o:Obj)(ks:List K):Prop:=∃es ep t,o.ExactSet/\o.data=.set es ep t/\ElX knd es.toList ks/\ks.Nodup/\es.size<scanBound/\t.fits es.size=true/\TabOk b t
def SetX(b:Bool)(h:Heap)(a:Addr)(ks:List K):Prop:=∃o,h.get? a=some o/\ObX knd b o ks
variable{knd}
theorem ElX.perm{es es':List (Int×Value)}{ks:List K}(h:ElX knd es ks)(p:es'.Perm es):ElX knd es' ks:=by
 obtain⟨h1,ks',p',pr⟩:=h
 obtain⟨ks2,p2,pr2⟩:=Vo p pr
 exact⟨h1.perm p,ks2,p2.trans p',pr2⟩
theorem ElX.len{es:List (Int×Value)}{ks:List K}(h:ElX knd es ks):es.length=ks.length:=by
 obtain⟨_,ks',p',pr⟩:=h
 rw[<- p'.length_eq]
 exact(Xp pr).symm
theorem ElX.mem{es:List (Int×Value)}{ks:List K}(h:ElX knd es ks)(k:K):k∈ks↔∃e∈es,knd.is k e.2=true:=by
 obtain⟨_,ks',p',pr⟩:=h
 obtain⟨a,b⟩:=Qg pr
 rw[<- p'.mem_iff]
 refine⟨a k,fun ⟨e,he,r⟩=>?_⟩
 obtain⟨k',hk,r'⟩:=b e he
 rwa[knd.inj _ _ _ r r']
theorem ElX.snoc{es:List (Int×Value)}{ks:List K}(h:ElX knd es ks){k:K}{x:Value}(hk:knd.is k x=true)(hx:x.scannable=true):ElX knd (es++[(knd.hash k,x)]) (ks++[k]):=by
 obtain⟨h1,ks',p',pr⟩:=h
 exact⟨h1.push hk hx,ks'++[k],p'.append_right _,Qh (R:=fun k (e:Int×Value)=>knd.is k e.2=true) hk pr⟩
theorem SetX.at{b:Bool}{h h':Heap}{a:Addr}{ks:List K}(x:SetX knd b h a ks)(k:∀o,h.get? a=some o->h'.get? a=some o):SetX knd b h' a ks:=let ⟨o,e,r⟩:=x;⟨o,k o e,r⟩
variable{A:Around}{E:Value->Shared->Prop}{s:Shared}
end
section
variable{K:Type}[DecidableEq K]
variable{prog:Program}{w:World}{knd:KeyKind prog w K}{A:Around}{R:Result->Shared->Prop}{it l S:Addr}{items:Array Value}{keys:List K}{b:Bool}
end
section
variable{prog:Program}{w:World}{A:Around}{E:Value->Shared->Prop}{s:Shared}
end
section
variable{prog:Program}{w:World}{K:Type}[DecidableEq K]{knd:KeyKind prog w K}{A:Around}{E:Value->Shared->Prop}{s:Shared}
end
section
variable{M:Model}{A:Around}{E:Value->Shared->Prop}{s:Shared}
end
section
variable{prog:Program}{w:World}{A:Around}{E:Value->Shared->Prop}{h:Heap}{g:Array GenState}{d:Drawn}{tk:Nat}{os:OsState}{it a:Addr}{o:Obj}{es:Array (Int×Value)}{ep:Nat}{t:SetTable}{i:Nat}
end
section
variable{prog:Program}{w:World}{A:Around}{E:Value->Shared->Prop}{s:Shared}{a:Addr}{o:Obj}{es:Array (Int×Value)}{ep:Nat}{t:SetTable}{i sl:Nat}
end
section
variable{prog:Program}{w:World}{A:Around}{E:Value->Shared->Prop}{h:Heap}{g:Array GenState}{d:Drawn}{tk:Nat}{os:OsState}{it a T:Addr}{o oT:Obj}{es:Array (Int×Value)}{ep:Nat}{t:SetTable}{i n c:Nat}{ps:Array Value}
end
section
variable{prog:Program}{w:World}{A:Around}{E:Value->Shared->Prop}{s:Shared}{it:Addr}{oi:Obj}
end
section
variable{prog:Program}{w:World}{A:Around}
variable{it a T:Addr}{o oT:Obj}{es:Array (Int×Value)}{ep c:Nat}{t:SetTable}
end
section
variable{prog:Program}{w:World}{A:Around}{E:Value->Shared->Prop}{s:Shared}{a:Addr}{o:Obj}{es:Array (Int×Value)}{ep:Nat}{t:SetTable}
end
section
variable{X:Cx}
end
theorem Inv.drawn{X:Cx}{pins:List (Addr×Obj)}{σ:St}{H:Hp}{s:Shared}(I:Inv X pins σ H s)(d:Drawn):Inv X pins σ H { s with drawn:=d }:=
 I.call' (s':={ s with drawn:=d }) (ch:=[]) rfl Un.refl I.hok I.bare fun b hb=>(nomatch hb)
section
variable{X:Cx}
end
section
variable{X:Cx}{elt iter1 iter:Expr}{ifs1 ifs:List Expr}{scope:Scope}{pos:Pos}{wi wi1:TI}{tf tf1:TT}{te:TE}{x y z u:Str}{px py pz pu tp tp2:Pos}{kk kk2:Nat}
variable{oo e:Expr}{ees:List Expr}{to:TE}{tt:TA}{name:Str}{apos cpos:Pos}{T id:String}{r:V->List V->Hp->VK->Prop}
end
end L2
namespace L2
open PySem PySem.Spec PyProof.Rows PySem.W
def KRun{α:Type}(bt:Nat->Nat->Bool)(n:Nat):KasT α->(α->Prop)->Prop
 | .ret a,Q=>Q a
 | .ask i j k,Q=>i<n/\j<n/\KRun bt n (k (bt i j)) Q
theorem KRun.mono{α:Type}{bt:Nat->Nat->Bool}{n:Nat}{Q Q':α->Prop}(h:∀a,Q a->Q' a):∀{t:KasT α},KRun bt n t Q->KRun bt n t Q'
 | .ret a,x=>h a x
 | .ask i j k,⟨a,b,c⟩=>⟨a,b,KRun.mono h c⟩
theorem KRun.bind{α β:Type}{bt:Nat->Nat->Bool}{n:Nat}{f:α->KasT β}{Q:β->Prop}:∀{t:KasT α},KRun bt n t (fun a=>KRun bt n (f a) Q)->KRun bt n (t.bind f) Q
 | .ret a,x=>x
 | .ask i j k,⟨a,b,c⟩=>⟨a,b,KRun.bind c⟩
theorem KRun.wp{α:Type}{bt:Nat->Nat->Bool}{n:Nat}{ask:Nat->Nat->(Bool->Shared->Prop)->Shared->Prop}{J:Shared->Prop}{Q:α->Prop}{G:α->Shared->Prop}
  (ha:∀i j,i<n->j<n->∀(C:Bool->Shared->Prop) s,J s->(∀s',J s'->C (bt i j) s')->ask i j C s) (hg:∀a s,Q a->J s->G a s):∀{t:KasT α} {s:Shared},KRun bt n t Q->J s->t.kasWp ask G s
 | .ret a,s,x,j=>hg a s x j
 | .ask i j k,s,⟨a,b,c⟩,js=>ha i j a b _ s js fun s' js'=>KRun.wp ha hg c js'
section
variable{n:Nat}{r:Nat->Nat}
def vA(r:Nat->Nat)(p:Array Nat)(k:Nat):Nat:=r (p.getD k 0)
structure Gd(n:Nat)(p:Array Nat):Prop where
 pm:p.toList.Perm (List.range n)
theorem Gd.sz{p:Array Nat}(g:Gd n p):p.size=n:=by have:=g.pm.length_eq;rwa[ZK,vd] at this
theorem Gd.at{p:Array Nat}(g:Gd n p){k:Nat}(h:k<n):p[k]? =some (p.getD k 0):=by
 rw[zcQ,VZ (by rw[g.sz];exact h)]
 rfl
theorem Gd.lt{p:Array Nat}(g:Gd n p)(hn:0<n)(k:Nat):p.getD k 0<n:=by
 by_cases h:k<n
 ·have:=g.at h
  rw[<- JQ] at this
  exact xK.mp (g.pm.mem_iff.mp (qG this))
 ·rw[zcQ,Array.getElem?_eq_none (by rw[g.sz];omega)]
  exact hn
theorem Gd.inj{p:Array Nat}(g:Gd n p)(ri:∀i j,i<n->j<n->r i=r j->i=j){i j:Nat}(hi:i<n)(hj:j<n)(e:vA r p i=vA r p j):i=j:=by
 have hn:0<n:=by omega
 have h1:=ri _ _ (g.lt hn i) (g.lt hn j) e
 have nd:p.toList.Nodup:=g.pm.nodup_iff.mpr Zz
 have a1:=g.at hi
 have a2:=g.at hj
 rw[<- JQ] at a1 a2
 obtain⟨b1,c1⟩:=zQ.mp a1
 obtain⟨b2,c2⟩:=zQ.mp a2
 exact(QH nd).mp (by rw[c1,c2,h1])
theorem Gd.rev{p:Array Nat}(g:Gd n p)(i j:Nat):Gd n (kas_rev p i j):=⟨(Array.perm_iff_toList_perm.mp (mirror_perm p i j _)).trans g.pm⟩
def AscA(r:Nat->Nat)(p:Array Nat)(m:Nat):Prop:=∀i j,i<j->j<m->vA r p i<vA r p j
def DscA(r:Nat->Nat)(p:Array Nat)(m:Nat):Prop:=∀i j,i<j->j<m->vA r p j<vA r p i
theorem AscA.step{p:Array Nat}{m:Nat}(h:AscA r p m)(h1:1<=m)(h2:vA r p (m-1)<vA r p m):AscA r p (m+1):=fun i j hij hj=>by
 by_cases e:j=m
 ·subst e
  by_cases e2:i=j-1
  ·subst e2;exact h2
  ·have:=h i (j-1) (by omega) (by omega)
   omega
 ·exact h i j hij (by omega)
theorem DscA.step{p:Array Nat}{m:Nat}(h:DscA r p m)(h1:1<=m)(h2:vA r p m<vA r p (m-1)):DscA r p (m+1):=fun i j hij hj=>by
 by_cases e:j=m
 ·subst e
  by_cases e2:i=j-1
  ·subst e2;exact h2
  ·have:=h i (j-1) (by omega) (by omega)
   omega
 ·exact h i j hij (by omega)
variable{bt:Nat->Nat->Bool}(ri:∀i j,i<n->j<n->r i=r j->i=j)(hb:∀i j,i<n->j<n->bt i j=decide (r i<r j))
include ri hb
end
end L2
namespace L2
open PySem PySem.Spec PyProof.Rows PySem.W
section
variable{prog:Program}{w:World}{A:Around}{E:Value->Shared->Prop}{s:Shared}
end
end L2
namespace L2
open PySem PySem.Spec PyProof.Rows PySem.W
section
variable{X:Cx}{pins:List (Addr×Obj)}{σ:St}{s:Shared}
end
end L2
namespace L2
open PySem PySem.Spec PyProof.Rows PySem.W
section
variable{X:Cx}
end
end L2
namespace L2
open PySem PySem.Spec PyProof.Rows
section
variable{X:Cx}
variable{elt iter:Expr}{ifs:List Expr}{scope:Scope}{pos:Pos}{wi:TI}{tf:TT}{te:TE}{x y z:Str}{px py pz tp:Pos}{kk:Nat}
end
section
variable{X:Cx}
end
section
variable{X:Cx}{elt tg iter:Expr}{ifs:List Expr}{scope:Scope}{pos:Pos}{wi:TI}{g:TG}{tf:TT}{te:TE}{x:Str}
end
end L2
namespace L2
open PySem PySem.Spec PyProof.Rows PySem.W
section
variable{prog:Program}{w:World}{A:Around}{E:Value->Shared->Prop}{s:Shared}
end
end L2
namespace L2
open PySem PySem.Spec PyProof.Rows PySem.W
def PrR(H:Hp)(zs:List V)(ps:List (Int×Int)):Prop:=zs.length=ps.length/\∀(j:Nat) q,ps[j]? =some q->∃T,zs[j]? =some (.ref T)/\H T=some (.tup [.int q.1,.int q.2])
theorem PrR.nil{H:Hp}:PrR H [] []:=⟨rfl,fun j q e=>by simp at e⟩
theorem PrR.same{H H':Hp}{zs:List V}{ps:List (Int×Int)}(h:PrR H zs ps)(s:Same H H'):PrR H' zs ps:=⟨h.1,fun j k e=>let ⟨T,a,b⟩:=h.2 j k e;⟨T,a,s _ _ b⟩⟩
theorem PrR.snoc{H:Hp}{zs:List V}{ps:List (Int×Int)}{q:Int×Int}{T:Addr}(h:PrR H zs ps)(e:H T=some (.tup [.int q.1,.int q.2])):PrR H (zs++[.ref T]) (ps++[q]):=by
 refine⟨by rw[zW,zW,h.1];rfl,fun j r hr=>?_⟩
 by_cases hj:j<ps.length
 ·rw[xt hj] at hr
  obtain⟨U,e1,e2⟩:=h.2 j r hr
  exact⟨U,by rw[xt (by rw[h.1];exact hj)];exact e1,e2⟩
 ·have hl:=(zQ.mp hr).1
  rw[zW] at hl
  have ej:j=ps.length:=by simp at hl;omega
  subst ej
  rw[xu (zG _),wx] at hr
  have:q=r:=by simpa using hr
  subst this
  exact⟨T,by rw[<- h.1,xu (zG _),wx];rfl,e⟩
theorem PrR.rev{H:Hp}{zs:List V}{ps:List (Int×Int)}(h:PrR H zs ps):PrR H zs.reverse ps.reverse:=by
 refine⟨by rw[QT,QT,h.1],fun j q e=>?_⟩
 have hj:=(zQ.mp e).1
 rw[QT] at hj
 rw[List.getElem?_reverse hj] at e
 obtain⟨T,e1,e2⟩:=h.2 _ q e
 exact⟨T,by rw[List.getElem?_reverse (by rw[h.1];exact hj),h.1];exact e1,e2⟩
section
variable{X:Cx}
end
end L2
namespace L2
open PySem PySem.Spec PyProof.Rows
section
variable{X:Cx}
end
def AtQ(K:PySem.W.Frag)(H:Hp)(t:Bool)(a:Addr)(xs:List V):Prop:=if t=true then SqT K H a xs else H a=some (.lst xs)
def SqQ(K:PySem.W.Frag)(H:Hp)(t:Bool)(a:Addr)(xs:List V):Prop:=if t=true then SqT K H a xs else SqL K H a xs
theorem AtQ.sq{K:PySem.W.Frag}{H:Hp}{t:Bool}{a:Addr}{xs:List V}(h:AtQ K H t a xs):SqQ K H t a xs:=by
 cases t with
 | true=>exact h
 | false=>exact SqL.of h
theorem AtQ.same{K:PySem.W.Frag}{H H':Hp}{t:Bool}{a:Addr}{xs:List V}(h:AtQ K H t a xs)(s:Same H H'):AtQ K H' t a xs:=by
 cases t with
 | true=>exact s.sqT h
 | false=>exact s _ _ h
def oQ(t:Bool)(xs:List V):HO:=if t=true then .tup xs else .lst xs
def Tkn(H:Hp)(ex:List Addr):Prop:=∀e∈ex,∃o,H e=some o
theorem Tkn.out{H:Hp}{ex:List Addr}{p:Addr}(h:Tkn H ex)(hp:H p=none):p∉ex:=fun z=>by
 obtain⟨o,e⟩:=h p z
 rw[hp] at e
 cases e
theorem AtQ.new{K:PySem.W.Frag}{H:Hp}{ex:List Addr}{p:Addr}(T:Tkn H ex)(hp:H p=none)(t:Bool)(xs:List V):AtQ K (WX ex (upd H p (oQ t xs))) t p xs:=by
 have:=WX.at (T.out hp) (zb (H:=H) (a:=p) (o:=oQ t xs))
 cases t with
 | true=>exact SqT.of this
 | false=>exact this
section
variable{X:Cx}
def zfY(i j l:Nat)(ta:TA):TS:=fun D σ H=>ta σ H fun vs H1=>∃v w u,vs=[v,w,u]/\D.nx (((σ.set l (some u)).set j (some w)).set i (some v)) H1
theorem zdc{pos:Pos}{i j l:Nat}{x y z:Str}{a b c:Expr}{ta:TA}{px py pz pt:Pos}{kt k2 pt2}(hc:X.calm=true)(hN:X.N.Nodup)(hi:X.N[i]? =some x)(hj:X.N[j]? =some y)(hl:X.N[l]? =some z)
  (hx:X.env.scope.names.lookup x=some .local) (hy:X.env.scope.names.lookup y=some .local) (hz:X.env.scope.names.lookup z=some .local) (ha:PA X [a,b,c] ta)
  (hw:swappedStores [.Tuple [.Name x px,.Name y py,.Name z pz] kt pt] (.Tuple [a,b,c] k2 pt2) X.env=pure (some [x,y,z]))
  (hs:swapsWithSole [.Tuple [.Name x px,.Name y py,.Name z pz] kt pt] (.Tuple [a,b,c] k2 pt2) pos.line X.env=pure false:=by rfl) :
  PS X (.Assign [.Tuple [.Name x px,.Name y py,.Name z pz] kt pt] (.Tuple [a,b,c] k2 pt2) pos) (zfY i j l ta):=by
 intro pins s σ H D I h
 rw[exec_Assign_arm]
 refine zn (Zx ?_)
 rw[hs]
 refine zn (zP ?_)
 rw[zq (by decide)]
 refine zn (Tuple_ (thn (ha _ pins s σ H _ I h) fun us s1 ⟨vs,H1,I1,r1,q1⟩=>?_))
 obtain⟨v,w,u,e1,q1⟩:=q1
 subst e1
 obtain⟨u1,u2,u3,rfl,rv,rw',ru⟩:∃u1 u2 u3,us=[u1,u2,u3]/\RelV v u1/\RelV w u2/\RelV u u3:=by
  obtain _ | ⟨p1,_ | ⟨p2,_ | ⟨p3,q⟩⟩⟩:=r1
  cases q
  exact⟨_,_,_,rfl,p1,p2,p3⟩
 refine xZ ?_ (by show 3<=sizeLine;decide)
 have I2:Inv X pins σ H1 { s1 with heap:=s1.heap.push { cls:=.type "tuple",data:=.seq [u1,u2,u3].toArray } }:=I1.kept (t':=s1.toks) fun b o e=>qA _ e
 rw[hw]
 refine zn (zP ?_)
 show wpAny (model X.prog X.w) X.A (do rule "assign.swapped-stores";let items<-unpackItems (.ref s1.heap.objs.size) 3 none;assignInOrder [fun v=>bindName X.env z v,fun v=>bindName X.env y v,fun v=>bindName X.env x v] items.reverse;pure Flow.next) _ _ _
 refine zn (vK (zn (unpackItems_tuple (items:=#[u1,u2,u3]) (I.ok.hd hc) (QM s1.heap _) fun h' hx'=>?_)))
 have I3:=I2.kept (h':=h') (t':=s1.toks) fun b o e=>hx' b o (qq (zO e)) e
 show wpAny _ _ (assignInOrder [fun v=>bindName X.env z v,fun v=>bindName X.env y v,fun v=>bindName X.env x v] [u3,u2,u1] >>= fun _=>pure Flow.next) _ _ _
 refine zn (assignInOrder_cons (wpAny_bindName (xU I3 hN hl (.inl hz) ru (fun s2 I4=>?_) (.inr hz))))
 refine assignInOrder_cons (wpAny_bindName (xU I4 hN hj (.inl hy) rw' (fun s3 I5=>?_) (.inr hy)))
 exact assignInOrder_cons (wpAny_bindName (xU I5 hN hi (.inl hx) rv (fun s4 I6=>assignInOrder_nil (zP ⟨_,H1,I6,q1⟩)) (.inr hx)))
end
end L2
namespace PySem
section
variable{prog:Program}{w:World}{A:Around}{d:Addr}{es:Array DictEntry}{ep:Nat}
end
end PySem
namespace L2
open PySem PySem.Spec PyProof.Rows
section
variable{X:Cx}
end
section
variable{X:Cx}
variable{o e:Expr}{es:List Expr}{to:TE}{t:TA}{name:Str}{apos cpos:Pos}{id:String}{r:V->List V->Hp->VK->Prop}
end
end L2
namespace L2
open PySem PySem.Spec PyProof.Rows PySem.W
section
variable{X:Cx}
end
end L2
namespace L2
open PySem PySem.Spec PyProof.Rows PySem.W
section
variable{X:Cx}
end
end L2
namespace L2
open PySem PySem.Spec PyProof.Rows PySem.W
section
variable{X:Cx}
end
end L2
namespace L2
open PySem PySem.Spec PyProof.Rows PySem.W
section
variable{prog:Program}{w:World}{A:Around}{E:Value->Shared->Prop}{s:Shared}
inductive za8(prog:Program)(w:World)(A:Around)(s:Shared):List Value->List Value->Bool->Prop
 | nil:za8 prog w A s [] [] false
 | nl {y ys}:za8 prog w A s [] (y::ys) true
 | ln {x xs}:za8 prog w A s (x::xs) [] false
 | eq {x y xs ys b} (h:∀(Q:Bool->Shared->Prop) E,Q true s->wpAny (model prog w) A (eqBool x y) Q E s) (t:za8 prog w A s xs ys b):za8 prog w A s (x::xs) (y::ys) b
 | ne {x y xs ys b} (h:∀(Q:Bool->Shared->Prop) E,Q false s->wpAny (model prog w) A (eqBool x y) Q E s) (g:∀(Q:Value->Shared->Prop) E,Q (.bool b) s->wpAny (model prog w) A (richCompare .Lt x y) Q E s):za8 prog w A s (x::xs) (y::ys) b
theorem eq_int(x y:Int)(t u:Tok){Q:Bool->Shared->Prop}(h:Q (decide (x=y)) s):wpAny (model prog w) A (eqBool (.int x t) (.int y u)) Q E s:=by
 refine(qh prog w).eqBool (a:=Sum.inl x) (b:=Sum.inl y) (wU ⟨t,rfl⟩) (wU ⟨u,rfl⟩) ?_
 rw[show decide ((Sum.inl x:Key)=Sum.inl y)=decide (x=y) from decide_eq_decide.mpr ⟨fun z=>wZ z,fun z=>by rw[z]⟩]
 exact h
end
section
variable{prog:Program}{w:World}{A:Around}{R:Result->Shared->Prop}{I S:Addr}{fp wr:List Addr}{n:Nat}{P:Nat->Value->Prop}{St:Nat->Heap->Prop}
end
end L2
namespace L2
open PySem PySem.Spec PyProof.Rows PySem.W
def WkR(H:Hp)(zs:List V)(ps:List (Int×List Int)):Prop:=zs.length=ps.length/\∀(j:Nat) q,ps[j]? =some q->∃T U,zs[j]? =some (.ref T)/\H T=some (.tup [.int q.1,.ref U])/\H U=some (.tup (q.2.map V.int))
theorem WkR.nil{H:Hp}:WkR H [] []:=⟨rfl,fun j q e=>by simp at e⟩
theorem WkR.same{H H':Hp}{zs:List V}{ps:List (Int×List Int)}(h:WkR H zs ps)(s:Same H H'):WkR H' zs ps:=⟨h.1,fun j k e=>let ⟨T,U,a,b,c⟩:=h.2 j k e;⟨T,U,a,s _ _ b,s _ _ c⟩⟩
theorem WkR.snoc{H:Hp}{zs:List V}{ps:List (Int×List Int)}{q:Int×List Int}{T U:Addr}(h:WkR H zs ps)(e:H T=some (.tup [.int q.1,.ref U]))(e':H U=some (.tup (q.2.map V.int))):WkR H (zs++[.ref T]) (ps++[q]):=by
 refine⟨by rw[zW,zW,h.1];rfl,fun j r hr=>?_⟩
 by_cases hj:j<ps.length
 ·rw[xt hj] at hr
  obtain⟨T',U',e1,e2,e3⟩:=h.2 j r hr
  exact⟨T',U',by rw[xt (by rw[h.1];exact hj)];exact e1,e2,e3⟩
 ·have hl:=(zQ.mp hr).1
  rw[zW] at hl
  have ej:j=ps.length:=by simp at hl;omega
  subst ej
  rw[xu (zG _),wx] at hr
  have:q=r:=by simpa using hr
  subst this
  exact⟨T,U,by rw[<- h.1,xu (zG _),wx];rfl,e,e'⟩
theorem WkR.set{H:Hp}{zs:List V}{ps:List (Int×List Int)}{q:Int×List Int}{T U:Addr}{i:Nat}(h:WkR H zs ps)(e:H T=some (.tup [.int q.1,.ref U]))(e':H U=some (.tup (q.2.map V.int))):WkR H (zs.set i (.ref T)) (ps.set i q):=by
 refine⟨by rw[w8,w8,h.1],fun j r hr=>?_⟩
 by_cases hj:i=j
 ·subst hj
  have hl:=(zQ.mp hr).1
  rw[w8] at hl
  rw[XJ hl] at hr
  cases hr
  exact⟨T,U,XJ (by rw[h.1];exact hl),e,e'⟩
 ·rw[XG hj] at hr
  obtain⟨T',U',e1,e2,e3⟩:=h.2 j r hr
  exact⟨T',U',by rw[XG hj];exact e1,e2,e3⟩
section
variable{X:Cx}
end
end L2
namespace L2
open PySem PySem.Spec PyProof.Rows PySem.W
section
variable{X:Cx}
end
end L2
namespace L2
open PySem PySem.Spec PyProof.Rows
section
variable{X:Cx}
end
section
variable{prog:Program}{w:World}{K:Type}[DecidableEq K]{knd:KeyKind prog w K}{A:Around}{E:Value->Shared->Prop}{s:Shared}
end
section
variable{X:Cx}
end
end L2
namespace L2
open PySem PySem.Spec PyProof.Rows PySem.W
section
variable{prog:Program}{w:World}{A:Around}{R:Result->Shared->Prop}{I S:Addr}{fp wr:List Addr}{n:Nat}{P:Nat->Value->Prop}{St:Nat->Heap->Prop}
end
section
variable{X:Cx}
end
end L2
namespace L2
open PySem PySem.Spec PyProof.Rows
section
variable{X:Cx}
end
end L2
namespace L2
open PySem PySem.Spec PyProof.Rows PySem.W
section
variable{X:Cx}
end
end L2
namespace L2
open PySem PySem.Spec PyProof.Rows
section
variable{X:Cx}
end
section
variable{prog:Program}{w:World}{A:Around}{E:Value->Shared->Prop}{s:Shared}
end
section
variable{X:Cx}
end
section
variable{prog:Program}{w:World}{A:Around}{E:Value->Shared->Prop}{R:Result->Shared->Prop}{s:Shared}
variable{K:Type}[DecidableEq K]{knd:KeyKind prog w K}
end
section
variable{X:Cx}{elt tg iter:Expr}{ifs:List Expr}{scope:Scope}{pos:Pos}{wi:TI}{g:TG}{tf:TT}{te:TE}
end
section
variable{X:Cx}{x y:Str}{px py tp:Pos}{kk:Nat}{elt iter:Expr}{ifs:List Expr}{scope:Scope}{pos:Pos}{wi:TI}{tf:TT}{te:TE}
end
section
variable{X:Cx}
end
open Sem (wp)
section
variable{X:Cx}
end
end L2
namespace L2
open PySem PySem.Spec PyProof.Rows
section
variable{X:Cx}{pos:Pos}
end
end L2
namespace L2
open PySem PySem.Spec PyProof.Rows PySem.W
section
variable{X:Cx}
variable{tg:Expr}
end
end L2
namespace L2
open PySem PySem.Spec PyProof.Rows
section
variable{prog:Program}{w:World}{K:Type}[DecidableEq K](knd:KeyKind prog w K)
def IsPK(h:Heap)(k:List K×List K)(a:Addr):Prop:=∃o n B C,h.get? a=some o/\o.cls=.type "tuple" /\ o.data=.seq #[.ref B,.ref C] n/\IsTupleKey knd h k.1 B/\IsTupleKey knd h k.2 C
variable{knd}
theorem IsPK.ty{s:Shared}{k:List K×List K}{a:Addr}(x:IsPK knd s.heap k a):s.TypeIs (.ref a) "tuple" :=let ⟨o,_,_,_,p,q,_⟩:=x;⟨o,p,q⟩
theorem IsPK.inj{h:Heap}{a:Addr}{x y:List K×List K}(p:IsPK knd h x a)(q:IsPK knd h y a):x=y:=by
 obtain⟨o,n,B,C,e,_,d,b,c⟩:=p
 obtain⟨o',n',B',C',e',_,d',b',c'⟩:=q
 rw[e] at e'
 cases e'
 rw[d] at d'
 cases d'
 exact Prod.ext (b.inj b') (c.inj c')
theorem IsPK.keeps{h h':Heap}{k:List K×List K}{a d:Addr}{o:Obj}{es ep}(x:IsPK knd h k a)(ho:h.get? d=some o)(hd:o.data=.dict es ep)(hs:Heap.SameBut d h h'):IsPK knd h' k a:=by
 obtain⟨p,n,B,C,e,t,q,b,c⟩:=x
 refine⟨p,n,B,C,(hs.2 a fun z=>?_).trans e,t,q,b.keeps ho hd hs,c.keeps ho hd hs⟩
 subst z
 rw[e] at ho
 cases ho
 rw[hd] at q
 exact nomatch q
variable{A:Around}{E:Value->Shared->Prop}{s:Shared}
end
end L2
namespace PySem
section
variable{prog:Program}{w:World}{A:Around}{E:Value->Shared->Prop}{s:Shared}{d it:Addr}{es:Array DictEntry}{ep i:Nat}
end
end PySem
namespace L2
open PySem PySem.Spec PyProof.Rows PySem.W
section
variable{X:Cx}{pins:List (Addr×Obj)}{σ:St}{H:Hp}{s:Shared}
end
end L2
namespace L2
open PySem PySem.Spec PyProof.Rows PySem.W
section
variable{X:Cx}
end
end L2
namespace L2
open PySem PySem.Spec PyProof.Rows
abbrev zfR:=Addr->V->V->Hp->(Hp->Prop)->Prop
section
variable{X:Cx}{kx vx tg iter:Expr}{ifs:List Expr}{scope:Scope}{pos:Pos}{wi:TI}{g:TG}{tf:TT}{tk tv:TE}{mk:Addr->HO}{t:zfR}
end
end L2
namespace L2
open PySem PySem.Spec PyProof.Rows PySem.W
section
variable{X:Cx}{elt kx vx iter:Expr}{ifs:List Expr}{scope:Scope}{pos:Pos}{wi:TI}{tf:TT}{te tk tv:TE}{mk:Addr->HO}{t:zfR}{x y z u:Str}{px py pz pu tp tp2 tp3:Pos}{kk kk2 kk3:Nat}
end
def zgV(K:PySem.W.Frag)(H:Hp)(a:Addr)(p:Int×List Int):Prop:=∃U,SqT K H a [.int p.1,.ref U]/\SqT K H U (p.2.map V.int)
def WkO(h:Heap)(a:Addr)(p:Int×List Int):Prop:=∃o n t U,h.get? a=some o/\o.cls=.type "tuple" /\ o.data=.seq #[.int p.1 t,.ref U] n/\∃o' n' xs,h.get? U=some o'/\o'.cls=.type "tuple" /\ o'.data=.seq xs n'/\Vals (p.2.map V.int) xs.toList
theorem WkO.keep{h h':Heap}{a:Addr}{p:Int×List Int}(x:WkO h a p)(k:∀b o,h.get? b=some o->h'.get? b=some o):WkO h' a p:=
 let ⟨o,n,t,U,a1,a2,a3,o',n',xs,b1,b2,b3,b4⟩:=x;⟨o,n,t,U,k _ _ a1,a2,a3,o',n',xs,k _ _ b1,b2,b3,b4⟩
end L2
namespace L2
open PySem PySem.Spec PyProof.Rows
section
variable{X:Cx}{kx vx tg iter:Expr}{ifs:List Expr}{scope:Scope}{pos:Pos}{wi:TI}{g:TG}{tf:TT}{tk tv:TE}{mk:Addr->HO}{t:zfR}
end
end L2
namespace L2
open PySem PySem.Spec PyProof.Rows PySem.W
def WkS(K:PySem.W.Frag)(H:Hp)(zs:List V)(ps:List (Int×List Int)):Prop:=zs.length=ps.length/\∀(j:Nat) q,ps[j]? =some q->∃T,zs[j]? =some (.ref T)/\zgV K H T q
theorem WkS.nil{K:PySem.W.Frag}{H:Hp}:WkS K H [] []:=⟨rfl,fun j q e=>by simp at e⟩
theorem WkS.snoc{K:PySem.W.Frag}{H:Hp}{zs:List V}{ps:List (Int×List Int)}{q:Int×List Int}{T:Addr}(h:WkS K H zs ps)(e:zgV K H T q):WkS K H (zs++[.ref T]) (ps++[q]):=by
 refine⟨by rw[zW,zW,h.1];rfl,fun j r hr=>?_⟩
 by_cases hj:j<ps.length
 ·rw[xt hj] at hr
  obtain⟨T',e1,e2⟩:=h.2 j r hr
  exact⟨T',by rw[xt (by rw[h.1];exact hj)];exact e1,e2⟩
 ·have hl:=(zQ.mp hr).1
  rw[zW] at hl
  have ej:j=ps.length:=by simp at hl;omega
  subst ej
  rw[xu (zG _),wx] at hr
  cases(show some q=some r from hr)
  exact⟨T,by rw[<- h.1,xu (zG _),wx];rfl,e⟩
end L2
namespace L2
open PySem PySem.W PySem.Spec PyProof.Rows
section
variable{X:Cx}
end
end L2
namespace L2
open PySem PySem.Spec PyProof.Rows
def pr2(q:Int×Int):List V:=[.int q.1,.int q.2]
theorem zdd{p q:Int×Int}(h:pr2 p=pr2 q):p=q:=by
 unfold pr2 at h
 have h1:=V.int.inj (Xn h).1
 have h2:=V.int.inj (Xn (Xn h).2).1
 exact Prod.ext h1 h2
theorem ze8(p q:Int×Int):zaX (pr2 p) (pr2 q)=decide (p=q):=by
 have e:∀a b:Int,eqV (.int a) (.int b)=decide (a=b):=fun a b=>by
  show(a==b)=_
  rw[xP,jZ,jT]
 show(eqV (.int p.1) (.int q.1)&&(eqV (.int p.2) (.int q.2)&&true))=_
 rw[e,e,Zw,xP,jk,jT,jT,jT,Prod.ext_iff]
section
variable{X:Cx}{pins:List (Addr×Obj)}{σ:St}{H:Hp}{s:Shared}
theorem zfI(I:Inv X pins σ H s){A:Around}(hu:A.units<cLine){a c:Addr}{p q:Int×Int}(hc:SqT X.K H c (pr2 q))(ha:SqT X.K H a (pr2 p)):SeqAt.EqAt A s (.ref c) (.ref a) (decide (q=p)):=by
 by_cases e:c=a
 ·subst e
  rw[qv (zdd (I.tuple_inj hc ha))]
  exact WI _
 ·obtain⟨its1,r1,p1,z1⟩:=I.tuple hc
  obtain⟨its2,r2,p2,z2⟩:=I.tuple ha
  have l1:=r1.length
  have l2:=r2.length
  have h:=SeqAt.EqAt.of_refs e (SeqAt.RcAt.tuples (A:=A) (s:=s) (e:=fun j=>eqV ((pr2 q).getD j .non) ((pr2 p).getD j .non)) p1 p2 hu (fun j h1 h2=>?_))
  ·rw[qi,qi,<- l1,<- l2,Qs,ze8] at h
   exact h
  ·have j1:j<(pr2 q).length:=by rw[qi] at h1;omega
   have j2:j<(pr2 p).length:=by rw[qi] at h2;omega
   obtain⟨w1,e1,q1⟩:=r1.get (i:=j) (x:=(pr2 q)[j]) (qX j1)
   obtain⟨w2,e2,q2⟩:=r2.get (i:=j) (x:=(pr2 p)[j]) (qX j2)
   have g1:its1.toArray[j]=w1:=by simpa using (zQ.mp e1).2
   have g2:its2.toArray[j]=w2:=by simpa using (zQ.mp e2).2
   have fl:∀(o:Int×Int) (v:V),v∈pr2 o->jQ v=true:=fun o v hv=>by
    rcases zS.mp hv with rfl | hv
    ·rfl
    ·cases qg.mp hv;rfl
   rw[g1,g2,W4,W4,qX j1,qX j2]
   exact Wz q1 q2 (fl _ _ (wv j1)) (fl _ _ (wv j2))
end
section
variable{X:Cx}
end
def eqS:Dat->V->Bool
 | .non,.non=>true
 | .bl a,.bl b=>a==b
 | .bl a,.int b=>(if a then 1 else 0)==b
 | .int a,.bl b=>a==(if b then 1 else 0)
 | .int a,.int b=>a==b
 | .str a,.str b=>a==b
 | _,_=>false
section
variable{X:Cx}
inductive JV(K:PySem.W.Frag)(x:V)(y:V)(H:Hp)(Q:VK):Prop
 | mk (d:_) (_:Rep K H d x) (_:jQ y=true) (_:Q (.bl (eqS d y)) H):JV K x y H Q
theorem zdn(hu:X.A.units<cLine):OpR X (compareOp .Eq) (JV X.K):=by
 intro pins s σ H x y v u Q I rx ry h
 obtain⟨d,rd,fy,q⟩:=h
 have fin:∀{b:Bool},b=eqS d y->SeqAt.RcAt X.A s v u b->wpAny (model X.prog X.w) X.A (compareOp .Eq v u) (fun w' s'=>∃z H',Inv X pins σ H' s'/\RelV z w'/\Q z H') X.xe s:=fun e r=>r _ _ _ _ ⟨.bl _,H,I,rfl,by rw[e];exact q⟩
 cases d with
 | non=>
  cases(show x=_ from rd)
  cases(show v=_ from rx)
  cases y with
  | non=>cases ry;exact fin rfl SeqAt.RcAt.none_none
  | bl b=>cases ry;exact fin rfl (SeqAt.RcAt.none_bool b)
  | int b=>obtain⟨t,rfl⟩:=ry;exact fin rfl (SeqAt.RcAt.none_int b t)
  | str b=>obtain⟨t,rfl⟩:=ry;exact fin rfl (SeqAt.RcAt.none_str b t)
  | _=>exact absurd (show false=true from fy) qm
 | bl a=>
  cases(show x=_ from rd)
  cases(show v=_ from rx)
  cases y with
  | non=>cases ry;exact fin rfl (SeqAt.RcAt.bool_none a)
  | bl b=>cases ry;exact fin rfl (SeqAt.RcAt.bool_bool a b)
  | int b=>obtain⟨t,rfl⟩:=ry;exact fin rfl (SeqAt.RcAt.bool_int a b t)
  | str b=>obtain⟨t,rfl⟩:=ry;exact fin rfl (SeqAt.RcAt.bool_str a b t)
  | _=>exact absurd (show false=true from fy) qm
 | int a=>
  cases(show x=_ from rd)
  obtain⟨ta,rfl⟩:=rx
  cases y with
  | non=>cases ry;exact fin rfl (SeqAt.RcAt.int_none a ta)
  | bl b=>cases ry;exact fin rfl (SeqAt.RcAt.int_bool a ta b)
  | int b=>obtain⟨t,rfl⟩:=ry;exact fin rfl (SeqAt.RcAt.int_int a ta b t)
  | str b=>obtain⟨t,rfl⟩:=ry;exact fin rfl (SeqAt.RcAt.int_str a ta b t)
  | _=>exact absurd (show false=true from fy) qm
 | str a=>
  cases(show x=_ from rd)
  obtain⟨ta,rfl⟩:=rx
  cases y with
  | non=>cases ry;exact fin rfl (SeqAt.RcAt.str_none a ta)
  | bl b=>cases ry;exact fin rfl (SeqAt.RcAt.str_bool a ta b)
  | int b=>obtain⟨t,rfl⟩:=ry;exact fin rfl (SeqAt.RcAt.str_int a ta b t)
  | str b=>obtain⟨t,rfl⟩:=ry;exact fin rfl (SeqAt.RcAt.str_str a ta b t)
  | _=>exact absurd (show false=true from fy) qm
 | lst ds=>
  obtain⟨a,xs,rfl,hq,_⟩:=id rd
  cases(show v=_ from rx)
  obtain⟨its,r,pl,hz⟩:=I.list hq
  cases y with
  | non=>cases ry;exact fin rfl (SeqAt.RcAt.list_none pl.isList hu)
  | bl b=>cases ry;exact fin rfl (SeqAt.RcAt.list_bool b pl.isList hu)
  | int b=>obtain⟨t,rfl⟩:=ry;exact fin rfl (SeqAt.RcAt.list_int b t pl.isList hu)
  | str b=>obtain⟨t,rfl⟩:=ry;exact fin rfl (SeqAt.RcAt.list_str b t pl.isList hu)
  | _=>exact absurd (show false=true from fy) qm
 | tup ds=>
  obtain⟨a,xs,rfl,hq,_⟩:=id rd
  cases(show v=_ from rx)
  obtain⟨its,r,pl,hz⟩:=I.tuple hq
  cases y with
  | non=>cases ry;exact fin rfl (SeqAt.RcAt.tuple_none pl hu)
  | bl b=>cases ry;exact fin rfl (SeqAt.RcAt.tuple_bool b pl hu)
  | int b=>obtain⟨t,rfl⟩:=ry;exact fin rfl (SeqAt.RcAt.tuple_int b t pl hu)
  | str b=>obtain⟨t,rfl⟩:=ry;exact fin rfl (SeqAt.RcAt.tuple_str b t pl hu)
  | _=>exact absurd (show false=true from fy) qm
end
inductive zex(K:PySem.W.Frag)(x:V)(y:V)(H:Hp)(Q:VK):Prop
 | mk (a b c c':Addr) (k k':Str) (p q:Int×Int) (_:x=.ref a) (_:y=.ref b) (_:SqT K H a [.str k,.ref c]) (_:SqT K H c [.int p.1,.int p.2]) (_:SqT K H b [.str k',.ref c']) (_:SqT K H c' [.int q.1,.int q.2]) (_:Q (.bl (!((k==k')&&decide (p=q)))) H):zex K x y H Q
section
variable{X:Cx}
theorem zdl(hu:X.A.units+64<cLine):OpR X (compareOp .NotEq) (zex X.K):=by
 intro pins s σ H x y v u Q I rx ry h
 obtain⟨a,b,c,c',k,k',p,q,rfl,rfl,ha,hc,hb,hc',r⟩:=h
 cases rx
 cases ry
 obtain⟨its1,r1,p1,z1⟩:=I.tuple ha
 obtain⟨its2,r2,p2,z2⟩:=I.tuple hb
 obtain⟨u1,w1,rfl,⟨t1,rfl⟩,e1⟩:=ZA r1
 obtain⟨u2,w2,rfl,⟨t2,rfl⟩,e2⟩:=ZA r2
 cases(show w1=Value.ref c from e1)
 cases(show w2=Value.ref c' from e2)
 refine SeqAt.RcNeAt.tuples (e:=fun j=>if j=0 then(k==k') else decide (p=q)) p1 p2 (by omega) (fun j h1 h2=>?_) _ _ _ _ ⟨.bl _,H,I,rfl,?_⟩
 rotate_left
 ·have:((k==k')&&decide (p=q))=(((List.range 2).all fun j=>if j=0 then(k==k') else decide (p=q))&&(2==2)):=by
   show _=(((k==k')&&(decide (p=q)&&true))&&true)
   rw[Zw,Zw]
  rw[this] at r
  exact r
 match j,h1,h2 with
 | 0,_,_=>exact SeqAt.EqAt.str_str k t1 k' t2
 | 1,_,_=>exact zfI I (by show X.A.units+1<cLine;omega) hc hc'
end
def BoxAt(H:Hp)(b:Addr)(n:Int):Prop:=∃b0 b1 b2:Int,H b=some (.lst [.int b0,.int b1,.int b2])/\0<=b0/\0<=b1/\b1<2147483648/\0<=b2/\b2<=n
def SameB(b:Addr)(H H':Hp):Prop:=∀c o,H c=some o->c≠b->H' c=some o
theorem ZG{i j:Int}(h1:0<=i)(h2:i<18446744073709551616):CMul i j:=by
 have e1:(-(2^64):Int)= -18446744073709551616:=by decide
 have e2:((2^64):Int)=18446744073709551616:=by decide
 refine .inl ⟨?_,?_⟩
 ·rw[e1];omega
 ·rw[e2];exact h2
theorem zeH{a m j:Int}(h:0<m)(h2:m<18446744073709551616):CMul (a % m) j:=ZG (w6 _ (by omega)) (Int.lt_trans (yb _ h) h2)
section
variable{P:Program}{w:World}{K:PySem.W.Frag}{mg:Str->Option Value}{base:Heap}
inductive X2(vs:List V)(H:Hp)(Q:VK):Prop
 | mk (b:Addr) (size n:Int) (_:vs=[.ref b,.int size]) (_:BoxAt H b n) (_:n<1099511627776) (_:0<size) (_:size<1073741824) (_:∀(r:Int) H',0<=r->r<size->BoxAt H' b (n+1)->SameB b H H'->Q (.int r) H'):X2  vs H Q
def xg:Sp:=fun vs H Q _=>X2  vs H Q
theorem zbw:zK ["_law_box_here", "_law_size", "_law_found", "_law_step", "_law_once", "_law_twice"] ["_law_box_here", "_law_size"] (zu (topL 18)):=⟨rfl,rfl,rfl,by decide +kernel,rfl,by decide +kernel,by decide +kernel⟩
theorem zdq{f:Addr}{fd:FuncData}(F:Fun K "_law_take" "_law_take" (topL 18) f fd)(B:Blt mg):FnOk P w K mg base CX0 1 f fd ["_law_box_here", "_law_size"] xg:=by
 have nd:=zbw.nd
 refine F.ok zbw (fun vs H Q E h=>?_) (fun cdv A outer s H vs Q E hr h=>?_)
 ·obtain⟨b,size,n,rfl,_⟩:=h
  rfl
 ·obtain⟨b,size,n,rfl,⟨b0,b1,b2,hb,p0,p1,p1',p2,p2'⟩,hn,hs0,hs1,k⟩:=h
  refine⟨_,(zg (qY (zC Jr (zr zJ (pv 0) zf (fun _ _=>rfl)) zf (zE _))
   (zg (j7 (zo VS rfl B.divmod VU (za (zr zJ (pv 0) zf (fun _ _=>rfl)) (za (pv 1) zd))) (xi rfl (zR (vB (pv 0) zf xh) (zR (zy (i:=2) nd rfl (Or.inl rfl)) jH))))
    (zm (zH (pv 2))))
   qK)
   (zg (j7 (zB qE (zr zJ (pv 0) zf (fun _ _=>rfl)) zf) (vB (pv 0) zf xh))
   (zg (zD (i:=3) nd rfl (Or.inl rfl) (zB qE zf (zB xX (zr zJ (pv 0) zf (fun _ _=>rfl)) (zr zJ (pv 0) zf (fun _ _=>rfl)))))
   (zg (zD (i:=4) nd rfl (Or.inl rfl) (zB xv (zB xX (zB qE (zr zJ (pv 0) zf (fun _ _=>rfl)) (zB xX zf (zr zJ (pv 0) zf (fun _ _=>rfl)))) (pv 3)) zf))
   (zg (zD (i:=5) nd rfl (Or.inl rfl) (zB xv (zB qE (zB xX (pv 4) (zB qE (zB xv (pv 4) zf) zf)) (zr zJ (pv 0) zf (fun _ _=>rfl))) zf))
   (zm (zH (zB xv (zB YO (zB xv (zB xX (pv 5) (zB qE (zB xv (pv 5) zf) zf)) zf) zf) (pv 1))))))))),?_⟩
  refine⟨_,rfl,b,_,_,_,rfl,rfl,SqL.of hb,rfl,_,_,rfl,rfl,_,rfl,?_⟩
  refine jD (fun c=>?_) (fun c=>?_)
  ·refine⟨_,rfl,b,_,_,_,rfl,rfl,SqL.of hb,rfl,_,rfl,_,_,rfl,⟨hs0,hs1⟩,fun p hp=>?_⟩
   have hbp:b≠p:=zj hb hp
   refine⟨p,_,rfl,SqT.of zb,rfl,_,_,rfl,_,rfl,b,_,_,_,rfl,rfl,(by rw[zi hbp];exact hb),rfl,_,_,rfl,rfl,_,rfl,?_⟩
   refine k _ _ (w6 _ (by omega)) (yb _ hs0) ⟨_,b1,b2,zb,Int.ediv_nonneg p0 (by omega),p1,p1',p2,by omega⟩ fun d o e hd=>?_
   rw[zi hd,zi (zj e hp)]
   exact e
  ·refine⟨_,rfl,b,_,_,_,rfl,rfl,SqL.of hb,rfl,_,_,rfl,rfl,_,rfl,b,_,_,_,rfl,rfl,hb,rfl,?_⟩
   have hb1:upd H b (.lst [.int b0,.int b1,.int (b2+1)]) b=some (.lst [.int b0,.int b1,.int (b2+1)]):=zb
   refine⟨_,rfl,b,_,_,_,rfl,rfl,SqL.of hb1,rfl,_,rfl,b,_,_,_,rfl,rfl,SqL.of hb1,rfl,_,_,rfl,rfl,ZG (by omega) (by omega),_,_,rfl,rfl,?_⟩
   refine⟨_,rfl,b,_,_,_,rfl,rfl,SqL.of hb1,rfl,_,rfl,b,_,_,_,rfl,rfl,SqL.of hb1,rfl,_,_,rfl,rfl,ZG (by omega) (by omega),_,_,rfl,rfl,_,rfl,_,_,rfl,rfl,ZG (by omega) (by omega),_,_,rfl,rfl,(by show(0:Int)<_;decide),?_⟩
   refine⟨_,rfl,_,rfl,_,_,rfl,rfl,(by show(0:Int)<_;decide),_,_,rfl,rfl,_,_,rfl,rfl,zeH (by decide) (by decide),_,rfl,b,_,_,_,rfl,rfl,SqL.of hb1,rfl,_,_,rfl,rfl,_,_,rfl,rfl,(by show(0:Int)<_;decide),?_⟩
   refine⟨_,rfl,_,rfl,_,_,rfl,rfl,(by show(0:Int)<_;decide),_,_,rfl,rfl,_,_,rfl,rfl,zeH (by decide) (by decide),_,_,rfl,rfl,(by show(0:Int)<_;decide),_,_,rfl,rfl,⟨by decide,by decide⟩,_,rfl,_,_,rfl,rfl,hs0,?_⟩
   refine k _ _ (w6 _ (by omega)) (yb _ hs0) ⟨b0,b1,b2+1,hb1,p0,p1,p1',by omega,by omega⟩ fun d o e hd=>?_
   rw[zi hd]
   exact e
inductive Yx(K:PySem.W.Frag)(vs:List V)(H:Hp)(Q:VK):Prop
 | mk (a:Addr) (ns:List Int) (j:Nat) (_:vs=[.ref a,.int j]) (_:SqL K H a (ns.map V.int)) (_:j<=100) (_:∀p o,H p=none->BoxAt (upd H p o) p 0->Q (.ref p) (upd H p o)):Yx K vs H Q
def zej(K:PySem.W.Frag):Sp:=fun vs H Q _=>Yx K vs H Q
theorem zet:zK ["_law_script", "_law_k", "_law_cell"] ["_law_script", "_law_k"] (zu (topL 17)):=⟨rfl,rfl,rfl,by decide +kernel,rfl,by decide +kernel,by decide +kernel⟩
theorem zaf{c:Int}{j:Nat}(hj:j<=100):CMul (yB c) (if decide (10^18<=yB c)=true then 1 else 0):=by
 refine .inr ?_
 split
 ·exact⟨by decide,by decide⟩
 ·exact⟨by decide,by decide⟩
theorem zcH{c:Int}:0<=yB c*(if decide (10^18<=yB c)=true then 1 else 0):=by
 have h:0<=yB c:=by unfold yB;split<;>omega
 split
 ·rw[Int.mul_one];exact h
 ·rw[Int.mul_zero];exact Int.le_refl 0
theorem zfr{f:Addr}{fd:FuncData}(F:Fun K "_law_box" "_law_box" (topL 17) f fd)(B:Blt mg):FnOk P w K mg base CX0 1 f fd ["_law_script", "_law_k"] (zej K):=by
 have nd:=zet.nd
 refine F.ok zet (fun vs H Q E h=>?_) (fun cdv A outer s H vs Q E hr h=>?_)
 ·obtain⟨a,ns,j,rfl,_⟩:=h
  rfl
 ·obtain⟨a,ns,j,rfl,hS,hj,k⟩:=h
  refine⟨_,(zg (zD (i:=2) nd rfl (Or.inl rfl) (xm (zC zeD (pv 1) (zo zw rfl B.len boot_len (za (pv 0) zd)) (zE _)) (zr zJ (pv 0) (pv 1) (fun _ _=>rfl)) zf))
   (zm (zH (zN (za (zB xX (zo yX rfl B.abs yZ (za (pv 2) zd)) (jc wO rfl B.int vq (za (qL zgt (zo yX rfl B.abs yZ (za (pv 2) zd)) (zB zfh zf zf) (zE _)) zd))) (za (zB xv (zB xX (zB qE (zB qE (zB xv (pv 2) zf) (zB xX zf (pv 1))) zf) zf) zf) (za zf zd))))))),?_⟩
  refine⟨_,rfl,_,rfl,a,_,rfl,.inl hS,_,_,rfl,rfl,_,rfl,?_⟩
  refine jD (fun c=>?_) (fun c=>?_)
  ·have hl:j<ns.length:=by
    have:=jA c
    rw[zp] at this
    omega
   refine⟨_,rfl,_,rfl,a,_,_,.int ns[j],rfl,rfl,hS,zT (by simp[hl]),?_⟩
   generalize ns[j]=z
   refine⟨_,rfl,_,rfl,_,rfl,_,rfl,_,_,rfl,rfl,⟨by decide,by decide,by decide⟩,_,_,rfl,rfl,.inr ⟨_,rfl,_,_,rfl,rfl,zaf hj,_,rfl,_,_,rfl,rfl,(by show(0:Int)<_;decide),_,rfl,_,_,rfl,rfl,ZG (by decide) (by decide),_,_,rfl,rfl,_,_,rfl,rfl,_,_,rfl,rfl,?_,_,_,rfl,rfl,(by show(0:Int)<_;decide),(by rw[sizeLine_eq];exact(by decide:3<=16777216)),fun p hp=>k p _ hp ⟨_,_,_,zb,?_,?_,?_,by decide,by decide⟩⟩⟩
   ·refine ZG ?_ ?_
    ·have:=w6 z (show(2147483629:Int)≠0 by decide)
     omega
    ·have:=yb z (show(0:Int)<2147483629 by decide)
     omega
   ·exact zcH
   ·exact w6 _ (by decide)
   ·exact Int.lt_trans (yb _ (by decide)) (by decide)
  ·refine⟨_,rfl,_,rfl,_,rfl,_,rfl,_,_,rfl,rfl,⟨by decide,by decide,by decide⟩,_,_,rfl,rfl,.inr ⟨_,rfl,_,_,rfl,rfl,zaf hj,_,rfl,_,_,rfl,rfl,(by show(0:Int)<_;decide),_,rfl,_,_,rfl,rfl,ZG (by decide) (by decide),_,_,rfl,rfl,_,_,rfl,rfl,_,_,rfl,rfl,?_,_,_,rfl,rfl,(by show(0:Int)<_;decide),(by rw[sizeLine_eq];exact(by decide:3<=16777216)),fun p hp=>k p _ hp ⟨_,_,_,zb,?_,?_,?_,by decide,by decide⟩⟩⟩
   ·refine ZG ?_ ?_
    ·have:=w6 0 (show(2147483629:Int)≠0 by decide)
     omega
    ·have:=yb 0 (show(0:Int)<2147483629 by decide)
     omega
   ·exact zcH
   ·exact w6 _ (by decide)
   ·exact Int.lt_trans (yb _ (by decide)) (by decide)
end
theorem zcB{xs:List V}{lo hi:Option Int}{x:V}(h:x∈jN xs lo hi):x∈xs:=XE (QV h)
theorem xE{n j:Nat}(h:j<n):ixN n (j:Int)=some j:=by
 unfold ixN
 rw[zx (by omega),zx (by omega)];simp
theorem zcC(ns:List Int)(lo hi:Option Int):∃ms:List Int,jN (ns.map V.int) lo hi=ms.map V.int:=by
 refine⟨(ns.drop (HT.sIx ns.length 0 lo)).take (HT.sIx ns.length ns.length hi-HT.sIx ns.length 0 lo),?_⟩
 unfold jN
 rw[zp,List.map_take,List.map_drop]
theorem zdY(ns:List Int)(z:Nat):(jN (ns.map V.int) none (some (z:Int))).length=min z ns.length:=by
 unfold jN
 rw[HT.sIx_nat,HT.sIx_none,qT,ya,zp]
 omega
theorem zdZ(ns:List Int)(z:Nat)(hi:Option Int):(jN (ns.map V.int) (some (z:Int)) hi).length<=ns.length-min z ns.length:=by
 unfold jN
 rw[HT.sIx_nat,qT,ya,zp]
 omega
section
variable{P:Program}{w:World}{K:PySem.W.Frag}{mg:Str->Option Value}{base:Heap}
inductive X9(K:PySem.W.Frag)(vs:List V)(H:Hp)(Q:VK):Prop
 | mk (a:Addr) (ns:List Int) (z:Nat) (_:vs=[.ref a,.int z]) (_:SqL K H a (ns.map V.int)) (_:ns.length<=63) (_:1<=z) (_:z<=63) (_:∀(p:Addr) (ms:List Int) H',Same H H'->SqL K H' p (ms.map V.int)->ms.length<=z->Q (.ref p) H'):X9 K vs H Q
def zbs(K:PySem.W.Frag):Sp:=fun vs H Q _=>X9 K vs H Q
theorem zbD:zK ["_law_script", "_law_size", "_law_cells", "_law_k", "_law_cell"] ["_law_script", "_law_size"] (zu (topL 19)):=⟨rfl,rfl,rfl,by decide +kernel,rfl,by decide +kernel,by decide +kernel⟩
def zav(a:_)(z:Nat)(p:_)(H:_)(q:_)(ns:List Int):=fun(i:Nat) (σ:St) (H2:Hp)=>(Ex3 fun(ms:List Int) (v3 v4:Option V)=>An5 (σ=[some (.ref a),some (.int z),some (.ref p),v3,v4]) (Same H H2) (H2 p=some (.lst (ms.map V.int))) (H2 q=some (.lst (jN (ns.map V.int) (some (z:Int)) (some 63)))) (ms.length=min z ns.length):Prop)
theorem zdy{f:Addr}{fd:FuncData}(F:Fun K "_law_folded" "_law_folded" (topL 19) f fd)(B:Blt mg):FnOk P w K mg base CX0 1 f fd ["_law_script", "_law_size"] (zbs K):=by
 have nd:=zbD.nd
 refine F.ok zbD (fun vs H Q E h=>?_) (fun cdv A outer s H vs Q E hr h=>?_)
 ·obtain⟨a,ns,z,rfl,_⟩:=h
  rfl
 ·obtain⟨a,ns,z,rfl,hS,hlen,hz1,hz2,k⟩:=h
  refine⟨_,(zg (zD (i:=2) nd rfl (Or.inl rfl) (jc yW rfl B.list jq (za (xj ZX (pv 0) x9 (xA (pv 1))) zd)))
   (zg (qO jw rfl (zdi rfl B.enumerate (za (xj ZX (pv 0) (xA (pv 1)) (xA zf)) zd)) (xi rfl (zR (zy (i:=3) nd rfl (Or.inl rfl)) (zR (zy (i:=4) nd rfl (Or.inl rfl)) jH)))
   (zm (j7 (zB qE (zr zJ (pv 2) (zB xv (pv 3) (pv 1)) (fun _ _=>rfl)) (zB xX (pv 4) (zB qE (pv 3) zf))) (vB (pv 2) (zB xv (pv 3) (pv 1)) xh))))
   (zm (zH (pv 2))))),?_⟩
  refine⟨_,rfl,_,rfl,_,rfl,a,_,rfl,hS,fun l hl=>⟨l,_,rfl,.inl (SqL.of zb),fun p hp=>?_⟩⟩
  have s1:Same H (upd (upd H l (.lst (jN (ns.map V.int) none (some (z:Int))))) p (.lst (jN (ns.map V.int) none (some (z:Int))))):=(ze hl).trans (ze hp)
  generalize hH1:upd (upd H l (.lst (jN (ns.map V.int) none (some (z:Int))))) p (.lst (jN (ns.map V.int) none (some (z:Int))))=H1 at s1
  have hp1:H1 p=some (.lst (jN (ns.map V.int) none (some (z:Int)))):=by rw[<- hH1];exact zb
  have np:H p=none:=(ze hl).free hp
  refine⟨_,rfl,_,rfl,_,rfl,_,rfl,a,_,rfl,s1.seq hS,fun q hq=>⟨q,rfl,⟨_,SqL.of zb⟩,?_⟩⟩
  have npq:p≠q:=zj hp1 hq
  obtain⟨ms0,hms0⟩:=zcC ns none (some (z:Int))
  have lo:=zdY ns z
  have hi:=zdZ ns z (some 63)
  refine zct (K:=K) (a:=q) (xs:=jN (ns.map V.int) (some (z:Int)) (some 63)) (zav a z p H q ns)
   ⟨ms0,none,none,rfl,s1.trans (ze hq),by rw[zi npq,hp1,hms0],zb,by rw[<- lo,hms0,zp]⟩ (fun i σ H2 _ ⟨_,_,_,_,_,_,h,_⟩=>SqL.of h) ?_ ?_
  ·rintro i x σ H2 T hx ⟨ms,v3,v4,rfl,sm,hp2,hq2,hml⟩ hT
   have hil:i<(jN (ns.map V.int) (some (z:Int)) (some 63)).length:=(zQ.mp hx).1
   obtain⟨c,rfl⟩:∃c,x=V.int c:=by
    have:=zcB (qG hx)
    obtain⟨c,_,e⟩:=qo.mp this
    exact⟨c,e.symm⟩
   have hj:i % z<ms.length:=by
    have:=Nat.mod_lt i (show 0<z by omega)
    omega
   have npT:p≠T:=zj hp2 hT
   have nqT:q≠T:=zj hq2 hT
   have hp3:upd H2 T (.tup [.int i,.int c]) p=some (.lst (ms.map V.int)):=by rw[zi npT];exact hp2
   have em:((i % z:Nat):Int)=(i:Int) % (z:Int):=Int.natCast_emod i z
   have hz0:(0:Int)<(z:Int):=by omega
   refine⟨T,_,rfl,SqT.of zb,rfl,_,_,rfl,_,_,rfl,rfl,?_⟩
   refine⟨_,rfl,_,rfl,_,rfl,_,_,rfl,rfl,hz0,p,_,_,.int ms[i % z],rfl,rfl,SqL.of hp3,(by rw[<- em];exact zT (by simp[hj])),?_⟩
   refine⟨_,rfl,_,rfl,_,_,rfl,rfl,_,_,rfl,rfl,.inr ⟨?_,?_⟩,_,_,rfl,rfl,?_⟩
   ·have e1:(-(2^64):Int)= -18446744073709551616:=by decide
    rw[e1];omega
   ·have e2:((2^64):Int)=18446744073709551616:=by decide
    rw[e2];omega
   refine⟨_,rfl,_,rfl,_,rfl,_,_,rfl,rfl,hz0,p,_,_,i % z,rfl,rfl,hp3,(by rw[<- em,zp];exact xE hj),?_⟩
   refine⟨ms.set (i % z) (ms[i % z]+c*((i:Int)+2)),_,_,rfl,fun d o e=>?_,by rw[zb,List.map_set],?_,by rw[w8];exact hml⟩
   ·rw[zi (zj e np),zi (zj (sm d o e) hT)]
    exact sm d o e
   ·rw[zi (qz npq),zi nqT]
    exact hq2
  ·rintro σ H2 ⟨ms,v3,v4,rfl,sm,hp2,hq2,hml⟩
   exact⟨_,rfl,k p ms H2 sm (SqL.of hp2) (by omega)⟩
end
theorem V3:[V.ty "list",V.ty "tuple"].length<=sizeLine:=by rw[sizeLine_eq];exact(by decide:2<=16777216)
section
variable{P:Program}{w:World}{K:PySem.W.Frag}{mg:Str->Option Value}{base:Heap}
def spS(K:PySem.W.Frag):Nat->Sp
 | 0=>fun _ _ _ _=>False
 | n+1=>fun vs H Q _=>∃d f v,vs=[f,v]/\Rep K H d f/\Rep K H d v/\Dat.ok n d/\∀H',Same H H'->Q (.bl true) H'
theorem zby:zK ["_law_found", "_law_due"] ["_law_found", "_law_due"] (zu (topL 20)):=⟨rfl,rfl,rfl,by decide +kernel,rfl,by decide +kernel,by decide +kernel⟩
theorem YQ{f:Addr}{fd:FuncData}(F:Fun K "_law_same" "_law_same" (topL 20) f fd)(B:Blt mg)(hm:mg "_law_same" = some (.ref f))(hb:Binds K fd ["_law_found", "_law_due"] []) :
  ∀n:Nat,FnOk P w K mg base CX0 n f fd ["_law_found", "_law_due"] (spS K n)
 | 0=>⟨fun _ _ _ _ h=>h.elim,fun _ _ _ _ _ _ _ _ _ _ _ _ _ h=>h.elim⟩
 | n+1=>by
  have D_same:Dfn P w K mg base "_law_same" n ["_law_found", "_law_due"] (spS K n):=⟨f,fd,YQ F B hm hb n,hm,F.kp,hb⟩
  have nd:=zby.nd
  refine F.ok zby (fun vs H Q E h=>?_) (fun cdv A outer s H vs Q E hr h=>?_)
  ·obtain⟨d,g,v,rfl,_⟩:=h
   rfl
  ·obtain⟨d,g,v,rfl,rg,rv,ok,k⟩:=h
   refine⟨_,(zg (qY (jV (zo JI rfl B.isinstance boot_isinstance (za (pv 1) (za (zX (za (qQ (v:=.ty "list") rfl B.list jq rfl) (za (qQ (v:=.ty "tuple") rfl B.tuple jB rfl) zd))) zd))))
   (zg (qY (PW.pt (yI (Zm (jV (zo JI rfl B.isinstance boot_isinstance (za (pv 0) (za (zX (za (qQ (v:=.ty "list") rfl B.list jq rfl) (za (qQ (v:=.ty "tuple") rfl B.tuple jB rfl) zd))) zd))))) (vX (zC zbZ (zo qS rfl B.isinstance boot_isinstance (za (pv 0) (za (qQ (v:=.ty "list") rfl B.list jq rfl) zd))) (zo qS rfl B.isinstance boot_isinstance (za (pv 1) (za (qQ (v:=.ty "list") rfl B.list jq rfl) zd))) (zE _)))))
    (zm (zH xH))
    qK)
    (zm (zH (xW (qL ja (zo zw rfl B.len boot_len (za (pv 0) zd)) (zo zw rfl B.len boot_len (za (pv 1) zd)) (zE _)) (xV (zo (wQ rfl) rfl B.all boot_all (za (wa [] [] rfl rfl (by kernel_rfl) (Wi rfl B.zip (za (pv 0) (za (pv 1) zd))) (fun _ _ _ _=>jF) (fun _ _ _ _=>(zk D_same (hr.mono (by omega)) rfl (za (pv 0) (za (pv 1) zd))))) zd)))))))
   qK)
   (zg (qY (PW.pt (yI (zC zfi (pv 1) zfd (zE _)) (vX (jV (zo qS rfl B.isinstance boot_isinstance (za (pv 1) (za (qQ (v:=.ty "str") rfl B.str QB rfl) zd)))))))
   (zm (zH (xW (qL ja (pv 0) (pv 1) (zE _)) (xV (qL ja (zo qS rfl B.isinstance boot_isinstance (za (pv 0) (za (qQ (v:=.ty "str") rfl B.str QB rfl) zd))) (zo qS rfl B.isinstance boot_isinstance (za (pv 1) (za (qQ (v:=.ty "str") rfl B.str QB rfl) zd))) (zE _))))))
   qK)
   (zm (zH (xW (zo qS rfl B.isinstance boot_isinstance (za (pv 0) (za (qQ (v:=.ty "int") rfl B.int vq rfl) zd))) (xW (qL ja (zo qS rfl B.isinstance boot_isinstance (za (pv 0) (za (qQ (v:=.ty "bool") rfl B.bool vt rfl) zd))) (zo qS rfl B.isinstance boot_isinstance (za (pv 1) (za (qQ (v:=.ty "bool") rfl B.bool vt rfl) zd))) (zE _)) (xV (qL ja (pv 0) (pv 1) (zE _))))))))),?_⟩
   refine⟨_,rfl,V3,fun p hp=>⟨v,d.tyN,p,["list", "tuple"],rfl,(rv.same (ze hp)).ty,zb,(by decide),_,rfl,?_⟩⟩
   have s1:Same H (upd H p (.tup [V.ty "list",V.ty "tuple"])):=ze hp
   have rg1:=rg.same s1
   have rv1:=rv.same s1
   generalize upd H p (.tup [V.ty "list",V.ty "tuple"])=H1 at s1 rg1 rv1
   cases d with
   | non=>
    cases(show g=_ from rg);cases(show v=_ from rv)
    refine ifF rfl ⟨_,rfl,rfl,_,rfl,ifT (by simp) (ifT rfl ?_)⟩
    refine⟨_,rfl,_,rfl,rfl,_,rfl,ifT (by simp) ⟨_,rfl,_, "NoneType", "str",rfl,rg1.ty,(by decide),_,rfl,_, "NoneType", "str",rfl,rv1.ty,(by decide),rfl,?_⟩⟩
    have:=k H1 s1
    simpa using this
   | str x=>
    cases(show g=_ from rg);cases(show v=_ from rv)
    refine ifF rfl ⟨_,rfl,rfl,_,rfl,ifF (by simp) ⟨_,rfl,_, "str", "str",rfl,rv1.ty,(by decide),_,rfl,ifT (by decide) ?_⟩⟩
    refine⟨_,rfl,_,rfl,rfl,_,rfl,ifT (by simp) ⟨_,rfl,_, "str", "str",rfl,rg1.ty,(by decide),_,rfl,_, "str", "str",rfl,rv1.ty,(by decide),rfl,?_⟩⟩
    have:=k H1 s1
    simpa using this
   | bl b=>
    cases(show g=_ from rg);cases(show v=_ from rv)
    refine ifF rfl ⟨_,rfl,rfl,_,rfl,ifF (by simp) ⟨_,rfl,_, "bool", "str",rfl,rv1.ty,(by decide),_,rfl,ifF (by decide) ?_⟩⟩
    refine⟨_,rfl,_, "bool", "int",rfl,rg1.ty,(by decide),_,rfl,ifT (by decide) ⟨_,rfl,_, "bool", "bool",rfl,rg1.ty,(by decide),_,rfl,_, "bool", "bool",rfl,rv1.ty,(by decide),rfl,_,rfl,ifT (by simp) ⟨_,rfl,_,rfl,rfl,?_⟩⟩⟩
    have:=k H1 s1
    simpa using this
   | int b=>
    cases(show g=_ from rg);cases(show v=_ from rv)
    refine ifF rfl ⟨_,rfl,rfl,_,rfl,ifF (by simp) ⟨_,rfl,_, "int", "str",rfl,rv1.ty,(by decide),_,rfl,ifF (by decide) ?_⟩⟩
    refine⟨_,rfl,_, "int", "int",rfl,rg1.ty,(by decide),_,rfl,ifT (by decide) ⟨_,rfl,_, "int", "bool",rfl,rg1.ty,(by decide),_,rfl,_, "int", "bool",rfl,rv1.ty,(by decide),rfl,_,rfl,ifT (by simp) ⟨_,rfl,_,rfl,rfl,?_⟩⟩⟩
    have:=k H1 s1
    simpa using this
   | lst ds=>
    obtain⟨a,xs,rfl,hx,rx⟩:=rg1
    obtain⟨b,ys,rfl,hy,ry⟩:=rv1
    cases n with
    | zero=>exact(show False from ok).elim
    | succ n=>
     obtain⟨hlen,hall⟩:ds.length<=1000000/\∀d∈ds,Dat.ok n d:=ok
     have lx:=rx.len
     have ly:=ry.len
     have hbig:1000000<sizeLine:=by rw[sizeLine_eq];decide
     refine ifT rfl ?_
     refine⟨_,rfl,V3,fun p2 hp2=>⟨.ref a, "list",p2,["list", "tuple"],rfl,(.inl ⟨rfl,xs,(ze hp2).seq hx⟩),zb,(by decide),_,rfl,ifF rfl ?_⟩⟩
     have s2:Same H1 (upd H1 p2 (.tup [V.ty "list",V.ty "tuple"])):=ze hp2
     have hx2:=s2.seq hx
     have hy2:=s2.seq hy
     have rx2:=rx.same s2
     have ry2:=ry.same s2
     have s3:=s1.trans s2
     generalize upd H1 p2 (.tup [V.ty "list",V.ty "tuple"])=H2 at s2 s3 hx2 hy2 rx2 ry2
     refine⟨_,rfl,.ref a, "list", "list",rfl,(.inl ⟨rfl,xs,hx2⟩),(by decide),_,rfl,.ref b, "list", "list",rfl,(.inl ⟨rfl,ys,hy2⟩),(by decide),rfl,_,rfl,ifF (by decide) ?_⟩
     refine⟨_,rfl,a,xs,rfl,(.inl hx2),_,rfl,b,ys,rfl,(.inl hy2),rfl,_,rfl,ifT (by simp[lx,ly]) ?_⟩
     refine⟨_,rfl,_,rfl,true,true,a,b,rfl,⟨xs,hx2⟩,⟨ys,hy2⟩,?_⟩
     refine J9 (K:=K) (k1:=true) (k2:=true) (xs:=xs) (ys:=ys) (fun i zs H3=>zs=List.replicate i (V.bl true)/\Same H2 H3) ⟨rfl,Same.refl _⟩ (fun i zs H3 ⟨_,sm⟩=>⟨sm.seq hx2,sm.seq hy2⟩) ?_ ?_
     ·rintro i x y zs H3 T e1 e2 ⟨rfl,sm⟩ hT
      have hi:i<ds.length:=by have:=(zQ.mp e1).1;omega
      obtain⟨d1,q1,r1⟩:=rx2.get e1
      obtain⟨d2,q2,r2⟩:=ry2.get e2
      rw[q1] at q2;cases q2
      have s4:=sm.trans (ze (o:=.tup [x,y]) hT)
      refine⟨T,_,rfl,SqT.of zb,rfl,_,_,rfl,_,_,rfl,rfl,rfl,?_⟩
      refine⟨_,rfl,_,rfl,d1,x,y,rfl,r1.same s4,r2.same s4,hall d1 (qG q1),fun H5 s5=>⟨?_,?_,s4.trans s5⟩⟩
      ·rw[ZL];omega
      ·rw[WS]
     ·rintro zs H3 ⟨rfl,sm⟩
      refine⟨by rw[ZL];omega,fun D hD=>⟨D,List.replicate (min xs.length ys.length) true,rfl,?_,?_⟩⟩
      ·refine SqL.of ?_
       rw[zb,WN]
      ·have:=k _ (s3.trans (sm.trans (ze (o:=.lst (List.replicate (min xs.length ys.length) (V.bl true))) hD)))
       simpa using this
   | tup ds=>
    obtain⟨a,xs,rfl,hx,rx⟩:=rg1
    obtain⟨b,ys,rfl,hy,ry⟩:=rv1
    cases n with
    | zero=>exact(show False from ok).elim
    | succ n=>
     obtain⟨hlen,hall⟩:ds.length<=1000000/\∀d∈ds,Dat.ok n d:=ok
     have lx:=rx.len
     have ly:=ry.len
     have hbig:1000000<sizeLine:=by rw[sizeLine_eq];decide
     refine ifT rfl ?_
     refine⟨_,rfl,V3,fun p2 hp2=>⟨.ref a, "tuple",p2,["list", "tuple"],rfl,(.inr ⟨rfl,xs,(ze hp2).sqT hx⟩),zb,(by decide),_,rfl,ifF rfl ?_⟩⟩
     have s2:Same H1 (upd H1 p2 (.tup [V.ty "list",V.ty "tuple"])):=ze hp2
     have hx2:=s2.sqT hx
     have hy2:=s2.sqT hy
     have rx2:=rx.same s2
     have ry2:=ry.same s2
     have s3:=s1.trans s2
     generalize upd H1 p2 (.tup [V.ty "list",V.ty "tuple"])=H2 at s2 s3 hx2 hy2 rx2 ry2
     refine⟨_,rfl,.ref a, "tuple", "list",rfl,(.inr ⟨rfl,xs,hx2⟩),(by decide),_,rfl,.ref b, "tuple", "list",rfl,(.inr ⟨rfl,ys,hy2⟩),(by decide),rfl,_,rfl,ifF (by decide) ?_⟩
     refine⟨_,rfl,a,xs,rfl,(.inr hx2),_,rfl,b,ys,rfl,(.inr hy2),rfl,_,rfl,ifT (by simp[lx,ly]) ?_⟩
     refine⟨_,rfl,_,rfl,false,false,a,b,rfl,⟨xs,hx2⟩,⟨ys,hy2⟩,?_⟩
     refine J9 (K:=K) (k1:=false) (k2:=false) (xs:=xs) (ys:=ys) (fun i zs H3=>zs=List.replicate i (V.bl true)/\Same H2 H3) ⟨rfl,Same.refl _⟩ (fun i zs H3 ⟨_,sm⟩=>⟨sm.sqT hx2,sm.sqT hy2⟩) ?_ ?_
     ·rintro i x y zs H3 T e1 e2 ⟨rfl,sm⟩ hT
      have hi:i<ds.length:=by have:=(zQ.mp e1).1;omega
      obtain⟨d1,q1,r1⟩:=rx2.get e1
      obtain⟨d2,q2,r2⟩:=ry2.get e2
      rw[q1] at q2;cases q2
      have s4:=sm.trans (ze (o:=.tup [x,y]) hT)
      refine⟨T,_,rfl,SqT.of zb,rfl,_,_,rfl,_,_,rfl,rfl,rfl,?_⟩
      refine⟨_,rfl,_,rfl,d1,x,y,rfl,r1.same s4,r2.same s4,hall d1 (qG q1),fun H5 s5=>⟨?_,?_,s4.trans s5⟩⟩
      ·rw[ZL];omega
      ·rw[WS]
     ·rintro zs H3 ⟨rfl,sm⟩
      refine⟨by rw[ZL];omega,fun D hD=>⟨D,List.replicate (min xs.length ys.length) true,rfl,?_,?_⟩⟩
      ·refine SqL.of ?_
       rw[zb,WN]
      ·have:=k _ (s3.trans (sm.trans (ze (o:=.lst (List.replicate (min xs.length ys.length) (V.bl true))) hD)))
       simpa using this
end
theorem le0:([]:List V).length<=sizeLine:=qu _
theorem le2{x y:V}:[x,y].length<=sizeLine:=by rw[sizeLine_eq];exact(by decide:2<=16777216)
theorem SameB.refl(b:Addr)(H:Hp):SameB b H H:=fun _ _ e _=>e
theorem SameB.trans{b:Addr}{H H1 H2:Hp}(a:SameB b H H1)(c:SameB b H1 H2):SameB b H H2:=fun d o e hd=>c d o (a d o e hd) hd
theorem SameB.of{b:Addr}{H H1:Hp}(a:Same H H1):SameB b H H1:=fun d o e _=>a d o e
theorem SameB.new{b p:Addr}{o:HO}{H H1:Hp}(a:SameB b H H1)(h:H1 p=none):SameB b H (upd H1 p o):=a.trans (.of (ze h))
theorem BoxAt.new{b p:Addr}{o:HO}{H:Hp}{n:Int}(a:BoxAt H b n)(h:H p=none):BoxAt (upd H p o) b n:=by
 obtain⟨b0,b1,b2,e,r⟩:=a
 exact⟨b0,b1,b2,by rw[zi (zj e h)];exact e,r⟩
theorem BoxAt.same{b:Addr}{H H':Hp}{n:Int}(a:BoxAt H b n)(s:Same H H'):BoxAt H' b n:=by
 obtain⟨b0,b1,b2,e,r⟩:=a
 exact⟨b0,b1,b2,s _ _ e,r⟩
theorem BoxAt.ne{b t:Addr}{H:Hp}{n:Int}{o:HO}(a:BoxAt H b n)(h:H t=some o)(hl:∀x y z,o≠.lst [x,y,z]):t≠b:=by
 obtain⟨b0,b1,b2,e,r⟩:=a
 exact YR h e (hl _ _ _)
theorem BoxAt.some{b:Addr}{H:Hp}{n:Int}(a:BoxAt H b n):∃o,H b=.some o:=let ⟨_,_,_,e,_⟩:=a;⟨_,e⟩
theorem BoxAt.mono{b:Addr}{H:Hp}{n m:Int}(a:BoxAt H b n)(h:n<=m):BoxAt H b m:=by
 obtain⟨b0,b1,b2,e,p0,p1,p2,p3,p4⟩:=a
 exact⟨b0,b1,b2,e,p0,p1,p2,p3,by omega⟩
theorem le1{x:V}:[x].length<=sizeLine:=by rw[sizeLine_eq];exact(by decide:1<=16777216)
theorem le3{x y z:V}:[x,y,z].length<=sizeLine:=by rw[sizeLine_eq];exact(by decide:3<=16777216)
theorem le4{x y z u:V}:[x,y,z,u].length<=sizeLine:=by rw[sizeLine_eq];exact(by decide:4<=16777216)
theorem leN{xs:List V}(h:xs.length<=1000):xs.length<=sizeLine:=by rw[sizeLine_eq];omega
theorem QE{α:Type}{xs:List α}{i:Int}(h:0<=i)(h':i<xs.length):∃v,atI xs i=some v/\xs[i.toNat]? =some v:=by
 have hl:i.toNat<xs.length:=by omega
 refine⟨xs[i.toNat],?_,by simp[hl]⟩
 have:=zT (xs:=xs) (j:=i.toNat) (v:=xs[i.toNat]) (by simp[hl])
 rwa[show((i.toNat:Nat):Int)=i by omega] at this
theorem zeA{α:V->Prop}{xs:List V}{r:Int}(h0:0<=r)(h1:r<xs.length)(all:∀x∈xs,α x):∃v,atI xs r=some v/\α v:=by
 obtain⟨v,e,e'⟩:=QE h0 h1
 exact⟨v,e,all v (qG e')⟩
theorem SameB.put{b m:Addr}{H H':Hp}{o:HO}(s:SameB b H H')(h:H m=none):SameB b H (upd H' m o):=fun c u e hc=>by
 rw[zi (zj e h)];exact s c u e hc
theorem SameB.none{b m:Addr}{H H':Hp}(s:SameB b H H')(h:H' m=none)(hm:m≠b):H m=none:=by
 cases q:H m with
 | none=>rfl
 | some o=>have:=s m o q hm;rw[h] at this;cases this
def vE(x:Str):Prop:=(x.cps.toList.map VB).all id=true
theorem zfu{r:Int}(h0:0<=r)(h1:r<26):∃c,atI zgi.cps.toList r=some c/\VB c=true:=by
 rw[zci]
 obtain⟨c,e,e'⟩:=QE (xs:=List.range' 97 26) h0 (by rw[List.length_range'];omega)
 have hm:=List.mem_range'_1.mp (qG e')
 refine⟨c,e,?_⟩
 unfold VB
 rw[qv (by omega),qv (by omega)]
 rfl
theorem zch{c:Nat}{y:Str}(h:VB c=true)(hy:vE y):vE ((⟨#[c]⟩:Str)++y):=by
 unfold vE at hy ⊢
 show((#[c]++y.cps).toList.map VB).all id=true
 rw[Array.toList_append,zZ,List.all_append,hy,Zw]
 show(VB c&&true)=true
 rw[h];rfl
theorem zcj{c:Nat}{y:Str}:((⟨#[c]⟩:Str)++y).length=y.length+1:=by
 show(#[c]++y.cps).size=y.cps.size+1
 rw[Array.size_append]
 show 1+_=_
 omega
theorem BoxAt.nne{b p:Addr}{H:Hp}{n:Int}(a:BoxAt H b n)(h:H p=none):p≠b:=by
 obtain⟨o,e⟩:=a.some
 exact(zj e h).symm
theorem BoxAt.other{b l:Addr}{H:Hp}{n:Int}{o:HO}(a:BoxAt H b n)(h:l≠b):BoxAt (upd H l o) b n:=by
 obtain⟨b0,b1,b2,e,r⟩:=a
 exact⟨b0,b1,b2,by rw[zi (qz h)];exact e,r⟩
def Nm(x:Str):Prop:=x.length<=8/\∀c∈x.cps.toList,c<1000000
theorem zgA{x:Str}(h:x.length<=8)(l:vE x):Nm x:=⟨h,fun c hc=>by
 unfold vE at l
 have:=xM.mp l (VB c) (qo.mpr ⟨c,hc,rfl⟩)
 unfold VB at this
 simp at this
 omega⟩
theorem Zi:∀(ns:List Str),(ns.map V.str).all jQ=true
 | []=>rfl
 | n::ns=>by
  show(true&&(ns.map V.str).all jQ)=true
  rw[Zi ns];rfl
section
variable{P:Program}{w:World}{K:PySem.W.Frag}{mg:Str->Option Value}{base:Heap}
inductive Jj(vs:List V)(H:Hp)(Q:VK):Prop
 | mk (num size:Int) (_:vs=[.int num,.int size]) (_:0<=num) (_:1<=size) (_:size<=8) (_:∀y:Str,(y.length:Int)=size->vE y->Q (.str y) H):Jj  vs H Q
def Ym:Sp:=fun vs H Q _=>Jj  vs H Q
theorem YC:zK ["_law_number", "_law_size", "_law_word", "_law_k"] ["_law_number", "_law_size"] (zu (topL 21)):=⟨rfl,rfl,rfl,by decide +kernel,rfl,by decide +kernel,by decide +kernel⟩
def zau(size:_)(H:_):=fun(i:Nat) (σ:St) (H4:Hp)=>(Ex3 fun(num':Int) (y:Str) (v3:Option V)=>An5 (σ=[some (.int num'),some (.int size),some (.str y),v3]) (0<=num') (y.length=i) (vE y) (H4=H):Prop)
theorem zb3{f:Addr}{fd:FuncData}(F:Fun K "_law_spelled" "_law_spelled" (topL 21) f fd)(B:Blt mg):FnOk P w K mg base CX0 1 f fd ["_law_number", "_law_size"] Ym:=by
 have nd:=YC.nd
 refine F.ok YC (fun vs H Q E h=>?_) (fun cdv A outer s H vs Q E hr h=>?_)
 ·obtain⟨num,size,rfl,_⟩:=h
  rfl
 ·obtain⟨num,size,rfl,n0,s0,s1,k⟩:=h
  have hbig:100000<sizeLine:=by rw[sizeLine_eq];decide
  have e62:(2:Int)^62=4611686018427387904:=by decide
  refine⟨_,(zg (zD (i:=2) nd rfl (Or.inl rfl) zL)
   (zg (qO jw rfl (qx rfl B.range (za (pv 1) zd)) (zy (i:=3) nd rfl (Or.inl rfl))
   (zg (zD (i:=2) nd rfl (Or.inl rfl) (zB Wj (zr zfz zL (zB xv (pv 0) zf) (fun _ _=>rfl)) (pv 2)))
    (zm (zD (i:=0) nd rfl (Or.inl rfl) (zB YO (pv 0) zf)))))
   (zm (zH (pv 2))))),?_⟩
  refine⟨_,rfl,_,rfl,(by rw[e62];omega),(by rw[e62];omega),?_⟩
  refine jd (zau size H) ⟨num,_,_,rfl,n0,rfl,rfl,rfl⟩ ?_ ?_
  ·rintro i σ H4 hi ⟨num',y,v3,rfl,m0,ly,al,rfl⟩
   obtain⟨c,hc,lc⟩:=zfu (r:=num' % 26) (w6 _ (by decide)) (yb _ (by decide))
   refine⟨_,rfl,_,_,rfl,rfl,(by show(0:Int)<26;decide),_,_,c,rfl,rfl,(by rw[sizeLine_eq];decide),hc,_,rfl,_,_,rfl,rfl,?_,?_⟩
   ·show 1+y.length<=sizeLine
    omega
   ·exact⟨_,rfl,_,_,rfl,rfl,⟨by decide,by decide⟩,_,_,_,rfl,Int.ediv_nonneg m0 (by decide),by rw[zcj,ly],zch lc al,rfl⟩
  ·rintro σ H4 ⟨num',y,v3,rfl,m0,ly,al,rfl⟩
   exact⟨_,rfl,k y (by omega) al⟩
inductive Yr(vs:List V)(H:Hp)(Q:VK):Prop
 | mk (b t:Addr) (n:Int) (ts:List Str) (_:vs=[.ref b,.ref t]) (_:BoxAt H b n) (_:n<1099511000000) (_:t≠b) (_:H t=some (.lst (ts.map V.str))) (_:ts.length<=1000) (_:∀(y:Str) H',SameB b H H'->BoxAt H' b (n+12)->1<=y.length->y.length<=8->vE y->Q (.str y) H'):Yr  vs H Q
def zeg:Sp:=fun vs H Q _=>Yr  vs H Q
theorem zen:zK ["_law_box_here", "_law_taken", "_law_size", "_law_number", "_law_k", "_law_word", "_law_turn"] ["_law_box_here", "_law_taken"] (zu (topL 22)):=⟨rfl,rfl,rfl,by decide +kernel,rfl,by decide +kernel,by decide +kernel⟩
theorem zfa{r:Int}(h0:0<=r)(h1:r<4):∃z:Int,atI [V.int 3,V.int 3,V.int 3,V.int 8] r=some (.int z)/\3<=z/\z<=8:=by
 have hc:r=0\/r=1\/r=2\/r=3:=by omega
 rcases hc with rfl | rfl | rfl | rfl
 ·exact⟨3,rfl,by decide,by decide⟩
 ·exact⟨3,rfl,by decide,by decide⟩
 ·exact⟨3,rfl,by decide,by decide⟩
 ·exact⟨8,rfl,by decide,by decide⟩
def zat(b:_)(t:_)(r2:_)(H:_)(n:_):=fun(i:Nat) (σ:St) (H4:Hp)=>(Ex2 fun(num:Int) (v4:Option V)=>An4 (σ=[some (.ref b),some (.ref t),some (.int (1+r2)),some (.int num),v4,none,none]) (0<=num) (SameB b H H4) (BoxAt H4 b (n+2+i)):Prop)
def zas(b:_)(t:_)(r2:_)(num:_)(H4:_):=fun(i:Nat) (σ:St) (H5:Hp)=>(Ex3 fun(v4 v6:Option V) (y:Str)=>An5 (σ=[some (.ref b),some (.ref t),some (.int (1+r2)),some (.int num),v4,some (.str y),v6]) (1<=y.length) (y.length<=8) (vE y) (H5=H4):Prop)
theorem zfl{f:Addr}{fd:FuncData}(F:Fun K "_law_name" "_law_name" (topL 22) f fd)(B:Blt mg)(D_take:Dfn P w K mg base "_law_take" 1 ["_law_box_here", "_law_size"] xg)(D_spelled:Dfn P w K mg base "_law_spelled" 1 ["_law_number", "_law_size"] Ym):FnOk P w K mg base CX0 2 f fd ["_law_box_here", "_law_taken"] zeg:=by
 have nd:=zen.nd
 refine F.ok zen (fun vs H Q E h=>?_) (fun cdv A outer s H vs Q E hr h=>?_)
 ·obtain⟨b,t,n,ts,rfl,_⟩:=h
  rfl
 ·obtain⟨b,t,n,ts,rfl,B0,hn,ntb,ht,htl,k⟩:=h
  have e62:(2:Int)^62=4611686018427387904:=by decide
  refine⟨_,(zg (zD (i:=2) nd rfl (Or.inl rfl) (zB qE zf (zk D_take (hr.mono (by decide)) rfl (za (pv 0) (za (zr zJ (zN (za zf (za zf (za zf (za zf zd))))) (zk D_take (hr.mono (by decide)) rfl (za (pv 0) (za zf zd))) (fun _ _=>rfl)) zd)))))
   (zg (zD (i:=3) nd rfl (Or.inl rfl) zf)
   (zg (qO jw rfl (qx rfl B.range (za (pv 2) zd)) (zy (i:=4) nd rfl (Or.inl rfl))
   (zm (zD (i:=3) nd rfl (Or.inl rfl) (zB qE (zB xX (pv 3) zf) (zk D_take (hr.mono (by decide)) rfl (za (pv 0) (za zf zd)))))))
   (zg (zD (i:=5) nd rfl (Or.inl rfl) (zk D_spelled (hr.mono (by decide)) rfl (za (pv 3) (za (pv 2) zd))))
   (zg (qO jw rfl (qx rfl B.range (za (zB qE (zo zw rfl B.len boot_len (za (pv 1) zd)) zf) zd)) (zy (i:=6) nd rfl (Or.inl rfl))
   (zm (qY (zC wD (pv 5) (pv 1) (by with_unfolding_all rfl))
    (zm (zD (i:=5) nd rfl (Or.inl rfl) (zk D_spelled (hr.mono (by decide)) rfl (za (zB qE (pv 3) (pv 6)) (za zf zd)))))
    qK)))
   (zm (zH (pv 5)))))))),?_⟩
  refine⟨_,rfl,le4,fun l hl=>⟨_,rfl,b,4,n,rfl,B0.new hl,by omega,by decide,by decide,fun r H1 r0 r1 B1 S1=>?_⟩⟩
  have L1:=S1 l _ (zb (H:=H)) ((B0.new hl).ne (zb (H:=H) (o:=.lst [.int 3,.int 3,.int 3,.int 8])) (by intro x y z e;cases e))
  have S1':=((SameB.refl b H).new (o:=.lst [.int 3,.int 3,.int 3,.int 8]) hl).trans S1
  obtain⟨z,ez,z0,z1⟩:=zfa r0 r1
  refine⟨l,_,_,_,rfl,rfl,SqL.of L1,ez,b,z,n+1,rfl,B1,by omega,by omega,by omega,fun r2 H2 a0 a1 B2 S2=>⟨_,_,rfl,rfl,?_⟩⟩
  have S2':=S1'.trans S2
  refine⟨_,rfl,_,rfl,(by rw[e62];omega),(by rw[e62];omega),?_⟩
  refine jd (zat b t r2 H n) ⟨0,_,rfl,by decide,S2',B2.mono (by omega)⟩ ?_ ?_
  ·rintro i σ H4 hi ⟨num,v4,rfl,m0,S4,B4⟩
   refine⟨_,rfl,_,_,rfl,rfl,.inr ⟨by decide,by decide⟩,_,rfl,b,26,_,rfl,B4,by omega,by decide,by decide,fun r3 H5 c0 c1 B5 S5=>⟨_,_,rfl,rfl,_,_,rfl,?_,S4.trans S5,B5.mono (by omega)⟩⟩
   omega
  ·rintro σ H4 ⟨num,v4,rfl,m0,S4,B4⟩
   refine⟨_,rfl,_,rfl,num,1+r2,rfl,m0,by omega,by omega,fun y ly al=>?_⟩
   have ht4:=S4 t _ ht ntb
   have el:(ts.map V.str).length=ts.length:=zp ..
   refine⟨_,rfl,t,_,rfl,.inl (SqL.of ht4),_,_,rfl,rfl,_,rfl,(by rw[e62,el];omega),(by rw[e62,el];omega),?_⟩
   refine jd (zas b t r2 num H4) ⟨_,_,y,rfl,by omega,by omega,al,rfl⟩ ?_ ?_
   ·rintro i σ H5 hi ⟨v4,v6,y,rfl,y0,y1,al,rfl⟩
    refine⟨_,rfl,_,rfl,t,_,rfl,.inl (SqL.of ht4),rfl,Zi ts,_,rfl,jD (fun c=>?_) (fun c=>⟨_,_,y,rfl,y0,y1,al,rfl⟩)⟩
    exact⟨_,rfl,_,rfl,_,_,rfl,rfl,_,8,rfl,by omega,by decide,by decide,fun y' ly' al'=>⟨_,_,y',rfl,by omega,by omega,al',rfl⟩⟩
   ·rintro σ H5 ⟨v4,v6,y,rfl,y0,y1,al,rfl⟩
    exact⟨_,rfl,k y _ S4 (B4.mono (by omega)) y0 y1 al⟩
def Row(H:Hp)(l:Addr)(ns:List Str):Prop:=H l=some (.lst (ns.map V.str))/\∀x∈ns,Nm x
theorem Row.same{H H':Hp}{l:Addr}{ns:List Str}(r:Row H l ns)(s:Same H H'):Row H' l ns:=⟨s _ _ r.1,r.2⟩
theorem Row.draw{H H':Hp}{b l:Addr}{ns:List Str}(r:Row H l ns)(s:SameB b H H')(h:l≠b):Row H' l ns:=⟨s _ _ r.1 h,r.2⟩
inductive Jn(vs:List V)(H:Hp)(Q:VK):Prop
 | mk (b:Addr) (m n:Int) (_:vs=[.ref b,.int m]) (_:BoxAt H b n) (_:n<1000000) (_:0<=m) (_:m<=12) (_:∀(l:Addr) (ns:List Str) H',SameB b H H'->BoxAt H' b (n+150)->l≠b->H l=none->Row H' l ns->(ns.length:Int)=m->Q (.ref l) H'):Jn  vs H Q
def Yq:Sp:=fun vs H Q _=>Jn  vs H Q
theorem YF:zK ["_law_box_here", "_law_many", "_law_found", "_law_k"] ["_law_box_here", "_law_many"] (zu (topL 23)):=⟨rfl,rfl,rfl,by decide +kernel,rfl,by decide +kernel,by decide +kernel⟩
def zar(b:_)(m:_)(l:_)(H:_)(n:_):=fun(i:Nat) (σ:St) (H4:Hp)=>(Ex2 fun(ns:List Str) (v3:Option V)=>An5 (σ=[some (.ref b),some (.int m),some (.ref l),v3]) (SameB b H H4) (BoxAt H4 b (n+12*i)) (Row H4 l ns) (ns.length=i):Prop)
theorem zb6{f:Addr}{fd:FuncData}(F:Fun K "_law_names" "_law_names" (topL 23) f fd)(B:Blt mg)(D_name:Dfn P w K mg base "_law_name" 2 ["_law_box_here", "_law_taken"] zeg):FnOk P w K mg base CX0 3 f fd ["_law_box_here", "_law_many"] Yq:=by
 have nd:=YF.nd
 refine F.ok YF (fun vs H Q E h=>?_) (fun cdv A outer s H vs Q E hr h=>?_)
 ·obtain⟨b,m,n,rfl,_⟩:=h
  rfl
 ·obtain⟨b,m,n,rfl,B0,hn,m0,m1,k⟩:=h
  have hbig:100000<sizeLine:=by rw[sizeLine_eq];decide
  have e62:(2:Int)^62=4611686018427387904:=by decide
  refine⟨_,(zg (zD (i:=2) nd rfl (Or.inl rfl) (zN zd))
   (zg (qO jw rfl (qx rfl B.range (za (pv 1) zd)) (zy (i:=3) nd rfl (Or.inl rfl))
   (zm (zU (qZ qW jM jL zV (pv 2) (za (zk D_name (hr.mono (by decide)) rfl (za (pv 0) (za (pv 2) zd))) zd)))))
   (zm (zH (pv 2))))),?_⟩
  refine⟨le0,fun l hl=>?_⟩
  have nl:=B0.nne hl
  refine⟨_,rfl,_,rfl,(by rw[e62];omega),(by rw[e62];omega),?_⟩
  refine jd (zar b m l H n) ⟨[],_,rfl,(SameB.refl b H).new hl,(B0.new hl).mono (by omega),⟨zb,fun x h=>nomatch h⟩,rfl⟩ ?_ ?_
  ·rintro i σ H4 hi ⟨ns,v3,rfl,S4,B4,R4,nsl⟩
   refine⟨_,rfl,.inl ⟨rfl,_,SqL.of R4.1⟩,_,rfl,_,rfl,b,l,_,ns,rfl,B4,by omega,nl,R4.1,by omega,fun y H5 S5 B5 y0 y1 al=>⟨l,_,_,rfl,rfl,(R4.draw S5 nl).1,by rw[zp,nsl];omega,?_⟩⟩
   refine⟨ns++[y],_,rfl,(S4.trans S5).put hl,(B5.other nl).mono (by omega),⟨by rw[zb,zZ];rfl,fun x hx=>?_⟩,by rw[zW,nsl];rfl⟩
   rcases zY.mp hx with q | q
   ·exact R4.2 x q
   ·rw[qg.mp q];exact zgA y1 al
  ·rintro σ H4 ⟨ns,v3,rfl,S4,B4,R4,nsl⟩
   exact⟨_,rfl,k l ns H4 S4 (B4.mono (by omega)) nl hl R4 (by omega)⟩
def PlA(H:Hp)(a:Addr):Prop:=∃x y:Int,H a=some (.tup [.int x,.int y])/\0<=x/\x<=1000/\0<=y/\y<=1000
theorem PlA.imp{H H':Hp}{a:Addr}(h:PlA H a)(f:∀o,H a=some o->H' a=some o):PlA H' a:=let ⟨x,y,e,r⟩:=h;⟨x,y,f _ e,r⟩
theorem PlA.draw{H H':Hp}{a b:Addr}{n:Int}(h:PlA H a)(B:BoxAt H b n)(s:SameB b H H'):PlA H' a:=by
 obtain⟨x,y,e,r⟩:=h
 obtain⟨b0,b1,b2,eb,_⟩:=B
 exact⟨x,y,s a _ e (YR e eb (by intro z;cases z)),r⟩
inductive Jl(K:PySem.W.Frag)(vs:List V)(H:Hp)(Q:VK):Prop
 | mk (b t:Addr) (n:Int) (as:List Addr) (_:vs=[.ref b,.ref t]) (_:BoxAt H b n) (_:n<1099511627000) (_:t≠b) (_:H t=some (.lst (as.map V.ref))) (_:as.length<=1000) (_:(∀a∈as,PlA H a)) (_:∀(p:Addr) H',SameB b H H'->BoxAt H' b (n+3)->H p=none->PlA H' p->Q (.ref p) H'):Jl K vs H Q
def ZW(K:PySem.W.Frag):Sp:=fun vs H Q _=>Jl K vs H Q
theorem YD:zK ["_law_box_here", "_law_taken", "_law_most", "_law_x", "_law_y", "_law_turn"] ["_law_box_here", "_law_taken"] (zu (topL 24)):=⟨rfl,rfl,rfl,by decide +kernel,rfl,by decide +kernel,by decide +kernel⟩
def zaq(b:_)(t:_)(y:_)(H:_)(n:_):=fun(i:Nat) (σ:St) (H4:Hp)=>(Ex3 fun(v2 v5:Option V) (x:Int)=>An5 (σ=[some (.ref b),some (.ref t),v2,some (.int x),some (.int y),v5]) (0<=x) (x<=1000) (SameB b H H4) (BoxAt H4 b (n+1+1+1)):Prop)
theorem zb4{f:Addr}{fd:FuncData}(F:Fun K "_law_place" "_law_place" (topL 24) f fd)(B:Blt mg)(D_take:Dfn P w K mg base "_law_take" 1 ["_law_box_here", "_law_size"] xg):FnOk P w K mg base CX0 2 f fd ["_law_box_here", "_law_taken"] (ZW K):=by
 have nd:=YD.nd
 refine F.ok YD (fun vs H Q E h=>?_) (fun cdv A outer s H vs Q E hr h=>?_)
 ·obtain⟨b,t,n,as,rfl,_⟩:=h
  rfl
 ·obtain⟨b,t,n,as,rfl,B0,hn,ntb,ht,hal,pa,k⟩:=h
  have hu64:=hr.units
  have e62:(2:Int)^62=4611686018427387904:=by decide
  have el:(as.map V.ref).length=as.length:=zp ..
  refine⟨_,(zg (zD (i:=2) nd rfl (Or.inl rfl) (xm (zC ja (zk D_take (hr.mono (by decide)) rfl (za (pv 0) (za zf zd))) zf (zE _)) zf zf))
   (zg (vY (i:=3) (j:=4) rfl nd rfl rfl (by decide) rfl rfl (za (zk D_take (hr.mono (by decide)) rfl (za (pv 0) (za (pv 2) zd))) (za (zk D_take (hr.mono (by decide)) rfl (za (pv 0) (za (pv 2) zd))) zd)) (by rfl))
   (zg (qO jw rfl (qx rfl B.range (za (zB qE (zo zw rfl B.len boot_len (za (pv 1) zd)) zf) zd)) (zy (i:=5) nd rfl (Or.inl rfl))
   (zm (qY (zC (zdm hu64) (zX (za (pv 3) (za (pv 4) zd))) (pv 1) (by with_unfolding_all rfl))
    (zm (zD (i:=3) nd rfl (Or.inl rfl) (zB xv (zB qE (pv 3) zf) zf)))
    qK)))
   (zm (zH (zX (za (pv 3) (za (pv 4) zd)))))))),?_⟩
  refine⟨_,rfl,b,4,n,rfl,B0,by omega,by decide,by decide,fun r H1 r0 r1 B1 S1=>⟨rfl,_,rfl,jD (fun c=>?_) (fun c=>?_)⟩⟩
  all_goals
   refine⟨_,rfl,_,rfl,b,_,n+1,rfl,B1,by omega,by decide,by decide,fun x H2 x0 x1 B2 S2=>⟨_,rfl,_,rfl,b,_,n+1+1,rfl,B2,by omega,by decide,by decide,fun y H3 y0 y1 B3 S3=>⟨_,_,rfl,?_⟩⟩⟩
   have S4:=S1.trans (S2.trans S3)
   have ht3:=S4 t _ ht ntb
   refine⟨_,rfl,t,_,rfl,.inl (SqL.of ht3),_,_,rfl,rfl,_,rfl,(by rw[e62,el];omega),(by rw[e62,el];omega),?_⟩
   refine jd (zaq b t y H n) ⟨_,none,x,rfl,x0,by omega,S4,B3⟩ ?_ ?_
   ·rintro i σ H4 _ ⟨v2,v5,x,rfl,x0',x1',S5,B5⟩
    refine⟨_,rfl,_,rfl,le2,fun p hp=>⟨_,rfl,p,t,_,_,rfl,rfl,SqT.of zb,rfl,SqL.of ((S5.new hp) t _ ht ntb),fun v hv=>?_,fun q=>⟨_,rfl,jD (fun d=>?_) (fun d=>?_)⟩⟩⟩
    ·obtain⟨c,hc,rfl⟩:=qo.mp hv
     obtain⟨cx,cy,hcc,_⟩:=(pa c hc).draw B0 (S5.new (o:=.tup [.int x,.int y]) hp)
     exact⟨c,_,rfl,SqT.of hcc,rfl⟩
    ·exact⟨_,rfl,_,_,rfl,rfl,_,_,rfl,rfl,(by show(0:Int)<1001;decide),_,_,_,rfl,w6 _ (by decide),by have:=yb (x+1) (by decide:(0:Int)<1001);omega,S5.new hp,B5.new hp⟩
    ·exact⟨_,_,x,rfl,x0',x1',S5.new hp,B5.new hp⟩
   ·rintro σ H4 ⟨v2,v5,x,rfl,x0',x1',S5,B5⟩
    have B6:BoxAt H4 b (n+3):=by
     have e:n+3=n+1+1+1:=by omega
     rw[e];exact B5
    exact⟨_,rfl,_,rfl,le2,fun p hp=>k p _ (S5.new hp) (B6.new hp) (S5.none hp (B5.nne hp)) ⟨x,y,zb,x0',x1',y0,by omega⟩⟩
inductive Z9(vs:List V)(H:Hp)(Q:VK):Prop
 | mk (b:Addr) (m n:Int) (_:vs=[.ref b,.int m]) (_:BoxAt H b n) (_:n<1000000) (_:0<=m) (_:m<=100) (_:∀(l:Addr) (as:List Addr) H',SameB b H H'->BoxAt H' b (n+400)->l≠b->H l=none->H' l=some (.lst (as.map V.ref))->(∀a∈as,PlA H' a)->(as.length:Int)=m->Q (.ref l) H'):Z9  vs H Q
def X5:Sp:=fun vs H Q _=>Z9  vs H Q
theorem Vf:zK ["_law_box_here", "_law_many", "_law_found", "_law_k"] ["_law_box_here", "_law_many"] (zu (topL 25)):=⟨rfl,rfl,rfl,by decide +kernel,rfl,by decide +kernel,by decide +kernel⟩
def zap(b:_)(m:_)(l:_)(H:_)(n:_):=fun(i:Nat) (σ:St) (H4:Hp)=>(Ex2 fun(as:List Addr) (v3:Option V)=>An6 (σ=[some (.ref b),some (.int m),some (.ref l),v3]) (SameB b H H4) (BoxAt H4 b (n+3*i)) (H4 l=some (.lst (as.map V.ref))) ((∀a∈as,PlA H4 a)) (as.length=i):Prop)
theorem zaF{f:Addr}{fd:FuncData}(F:Fun K "_law_places" "_law_places" (topL 25) f fd)(B:Blt mg)(D_place:Dfn P w K mg base "_law_place" 2 ["_law_box_here", "_law_taken"] (ZW K)):FnOk P w K mg base CX0 3 f fd ["_law_box_here", "_law_many"] X5:=by
 have nd:=Vf.nd
 refine F.ok Vf (fun vs H Q E h=>?_) (fun cdv A outer s H vs Q E hr h=>?_)
 ·obtain⟨b,m,n,rfl,_⟩:=h
  rfl
 ·obtain⟨b,m,n,rfl,B0,hn,m0,m1,k⟩:=h
  have hbig:100000<sizeLine:=by rw[sizeLine_eq];decide
  have e62:(2:Int)^62=4611686018427387904:=by decide
  refine⟨_,(zg (zD (i:=2) nd rfl (Or.inl rfl) (zN zd))
   (zg (qO jw rfl (qx rfl B.range (za (pv 1) zd)) (zy (i:=3) nd rfl (Or.inl rfl))
   (zm (zU (qZ qW jM jL zV (pv 2) (za (zk D_place (hr.mono (by decide)) rfl (za (pv 0) (za (pv 2) zd))) zd)))))
   (zm (zH (pv 2))))),?_⟩
  refine⟨le0,fun l hl=>?_⟩
  have nl:=B0.nne hl
  refine⟨_,rfl,_,rfl,(by rw[e62];omega),(by rw[e62];omega),?_⟩
  refine jd (zap b m l H n) ⟨[],_,rfl,(SameB.refl b H).new hl,(B0.new hl).mono (by omega),zb,(fun x h=>nomatch h),rfl⟩ ?_ ?_
  ·rintro i σ H4 hi ⟨as,v3,rfl,S4,B4,L4,P4,asl⟩
   refine⟨_,rfl,.inl ⟨rfl,_,SqL.of L4⟩,_,rfl,_,rfl,b,l,_,as,rfl,B4,by omega,nl,L4,by omega,P4,fun p H5 S5 B5 pN pp=>⟨l,_,_,rfl,rfl,S5 l _ L4 nl,by rw[zp,asl];omega,?_⟩⟩
   have L5:=S5 l _ L4 nl
   have keep:∀{a:Addr},PlA H5 a->PlA (upd H5 l (.lst (as.map V.ref++[.ref p]))) a:=fun {a} h=>by
    obtain⟨x,y,e,r⟩:=h
    exact⟨x,y,by rw[zi (YR e L5 (by intro z;cases z))];exact e,r⟩
   refine⟨as++[p],_,rfl,(S4.trans S5).put hl,(B5.other nl).mono (by omega),by rw[zb,zZ];rfl,fun a ha=>?_,by rw[zW,asl];rfl⟩
   rcases zY.mp ha with q | q
   ·exact keep ((P4 a q).draw B4 S5)
   ·rw[qg.mp q];exact keep pp
  ·rintro σ H4 ⟨as,v3,rfl,S4,B4,L4,P4,asl⟩
   exact⟨_,rfl,k l as H4 S4 (B4.mono (by omega)) nl hl L4 P4 (by omega)⟩
inductive X3(K:PySem.W.Frag)(vs:List V)(H:Hp)(Q:VK):Prop
 | mk (b a:Addr) (n:Int) (xs:List V) (_:vs=[.ref b,.ref a]) (_:BoxAt H b n) (_:n<1000000) (_:a≠b) (_:H a=some (.lst xs)) (_:xs.length<=1000) (_:∀(l:Addr) (ys:List V) H',SameB b H H'->BoxAt H' b (n+xs.length)->l≠b->H l=none->H' l=some (.lst ys)->ys.Perm xs->Q (.ref l) H'):X3 K vs H Q
def JW(K:PySem.W.Frag):Sp:=fun vs H Q _=>X3 K vs H Q
theorem zbx:zK ["_law_box_here", "_law_some", "_law_found", "_law_one"] ["_law_box_here", "_law_some"] (zu (topL 26)):=⟨rfl,rfl,rfl,by decide +kernel,rfl,by decide +kernel,by decide +kernel⟩
def zao(b:_)(a:_)(l:_)(H:_)(n:_)(xs:List V):=fun(i:Nat) (σ:St) (H4:Hp)=>(Ex2 fun(ys:List V) (v3:Option V)=>An6 (σ=[some (.ref b),some (.ref a),some (.ref l),v3]) (SameB b H H4) (BoxAt H4 b (n+i)) (H4 a=some (.lst xs)) (H4 l=some (.lst ys)) (ys.Perm (xs.take i)):Prop)
theorem zdr{f:Addr}{fd:FuncData}(F:Fun K "_law_shuffled" "_law_shuffled" (topL 26) f fd)(B:Blt mg)(D_take:Dfn P w K mg base "_law_take" 1 ["_law_box_here", "_law_size"] xg):FnOk P w K mg base CX0 2 f fd ["_law_box_here", "_law_some"] (JW K):=by
 have nd:=zbx.nd
 refine F.ok zbx (fun vs H Q E h=>?_) (fun cdv A outer s H vs Q E hr h=>?_)
 ·obtain⟨b,a,n,xs,rfl,_⟩:=h
  rfl
 ·obtain⟨b,a,n,xs,rfl,B0,hn,nab,ha,hxl,k⟩:=h
  have hbig:100000<sizeLine:=by rw[sizeLine_eq];decide
  have e62:(2:Int)^62=4611686018427387904:=by decide
  refine⟨_,(zg (zD (i:=2) nd rfl (Or.inl rfl) (zN zd))
   (zg (qO jw rfl (qN (pv 1)) (zy (i:=3) nd rfl (Or.inl rfl))
   (zm (zU (qZ qW XM XL wI (pv 2) (za (zk D_take (hr.mono (by decide)) rfl (za (pv 0) (za (zB qE (zo zw rfl B.len boot_len (za (pv 2) zd)) zf) zd))) (za (pv 3) zd))))))
   (zm (zH (pv 2))))),?_⟩
  refine⟨le0,fun l hl=>?_⟩
  have nl:=B0.nne hl
  have nal:a≠l:=zj ha hl
  refine⟨_,rfl,a,rfl,⟨_,SqL.of ((ze hl) _ _ ha)⟩,jP (K:=K) (a:=a) (xs:=xs) (zao b a l H n xs)
   ⟨[],_,rfl,(SameB.refl b H).new hl,(B0.new hl).mono (by omega),(ze hl) _ _ ha,zb,.nil⟩ (fun i σ H4 _ ⟨_,_,_,_,_,h,_,_⟩=>SqL.of h) ?_ ?_⟩
  ·rintro i x σ H4 hx ⟨ys,v3,rfl,S4,B4,A4,L4,pm⟩
   have hi:=(zQ.mp hx).1
   have yl:ys.length=i:=by rw[pm.length_eq,qT];omega
   refine⟨_,rfl,.inl ⟨rfl,_,SqL.of L4⟩,_,rfl,_,rfl,l,_,rfl,.inl (SqL.of L4),_,_,rfl,rfl,b,_,_,rfl,B4,by omega,by omega,by omega,fun q H5 q0 q1 B5 S5=>⟨_,rfl,?_⟩⟩
   refine⟨l,ys,q,x,rfl,rfl,S5 l _ L4 nl,q0,by rw[e62];omega,by omega,?_⟩
   refine⟨_,_,rfl,(S4.trans S5).put hl,(B5.other nl).mono (by omega),by rw[zi nal];exact S5 a _ A4 nab,zb,?_⟩
   have e1:xs.take (i+1)=xs.take i++[x]:=by
    obtain⟨h1,h2⟩:=zQ.mp hx
    rw[<- h2,yd]
   rw[e1]
   refine List.perm_middle.trans ?_
   rw[XH]
   exact((List.Perm.cons x pm).trans (List.perm_append_singleton x _).symm)
  ·rintro σ H4 ⟨ys,v3,rfl,S4,B4,A4,L4,pm⟩
   rw[jh] at pm
   exact⟨_,rfl,k l ys H4 S4 B4 nl hl L4 pm⟩
end
def SameT(H H':Hp):Prop:=∀a u,H a=some u->(∀xs,u≠.lst xs)->(∀kvs,u≠.dK kvs)->H' a=some u
theorem SameT.refl(H:Hp):SameT H H:=fun _ _ e _ _=>e
theorem SameT.trans{H H1 H2:Hp}(a:SameT H H1)(b:SameT H1 H2):SameT H H2:=fun c u e h i=>b c u (a c u e h i) h i
theorem SameT.of{H H':Hp}(s:Same H H'):SameT H H':=fun a u e _ _=>s a u e
theorem SameT.draw{H H':Hp}{b:Addr}{n:Int}(B:BoxAt H b n)(s:SameB b H H'):SameT H H':=fun a u e h _=>by
 obtain⟨b0,b1,b2,eb,_⟩:=B
 exact s a u e (fun z=>by rw[z,eb] at e;cases e;exact h _ rfl)
theorem SameT.put{H:Hp}{l:Addr}{xs ys:List V}(h:H l=some (.lst xs)):SameT H (upd H l (.lst ys)):=fun a u e hu _=>by
 rw[zi (fun z=>by rw[z,h] at e;cases e;exact hu _ rfl)];exact e
mutual
def Dat.imm:Dat->Bool
 | .lst _=>false
 | .tup ds=>Dat.imms ds
 | _=>true
def Dat.imms:List Dat->Bool
 | []=>true
 | d::ds=>d.imm&&Dat.imms ds
end
section
variable{P:Program}{w:World}{K:PySem.W.Frag}{mg:Str->Option Value}{base:Heap}
theorem SqT.keep{H H':Hp}{a:Addr}{xs:List V}(q:SqT K H a xs)(s:SameT H H'):SqT K H' a xs:=by
 rcases q with(q | ⟨o,q⟩) | q
 ·exact .inl (.inl (s a _ q (fun z h=>nomatch h) (fun z h=>nomatch h)))
 ·exact .inl (.inr ⟨o,s a _ q (fun z h=>nomatch h) (fun z h=>nomatch h)⟩)
 ·exact .inr q
mutual
theorem Rep.keep{H H':Hp}(s:SameT H H'):∀{d:Dat} {v:V},d.imm=true->Rep K H d v->Rep K H' d v
 | .non,_,_,h=>h
 | .bl _,_,_,h=>h
 | .int _,_,_,h=>h
 | .str _,_,_,h=>h
 | .lst _,_,i,_=>by cases i
 | .tup ds,_,i,h=>by
  obtain⟨a,xs,e,q,r⟩:=h
  exact⟨a,xs,e,q.keep s,Reps.keep s (ds:=ds) i r⟩
theorem Reps.keep{H H':Hp}(s:SameT H H'):∀{ds:List Dat} {xs:List V},Dat.imms ds=true->Reps K H ds xs->Reps K H' ds xs
 | [],_,_,h=>h
 | d::ds,_,i,h=>by
  obtain⟨x,r,e,h1,h2⟩:=h
  have i':(d.imm&&Dat.imms ds)=true:=i
  rw[jk] at i'
  exact⟨x,r,e,Rep.keep s i'.1 h1,Reps.keep s i'.2 h2⟩
end
theorem Reps.snoc{H:Hp}{d:Dat}{v:V}(h:Rep K H d v):∀{ds:List Dat} {xs:List V},Reps K H ds xs->Reps K H (ds++[d]) (xs++[v])
 | [],_,e=>by rw[show _=_ from e];exact⟨v,[],rfl,h,rfl⟩
 | _::_,_,e=>by
  obtain⟨x,r,e1,h1,h2⟩:=e
  subst e1
  exact⟨x,r++[v],rfl,h1,Reps.snoc h h2⟩
end
theorem yJ{α β:Type}{f:α->β}{ys ws:List β}(h:ys.Perm ws):∀{xs:List α},ws=xs.map f->∃zs:List α,zs.Perm xs/\ys=zs.map f:=by
 induction h with
 | nil=>
  intro xs e
  have:xs=[]:=by simpa using e.symm
  exact⟨[],by rw[this],rfl⟩
 | @cons x l1 l2 p ih=>
  intro xs e
  cases xs with
  | nil=>simp at e
  | cons a as=>
   rw[jJ] at e
   injection e with e1 e2
   obtain⟨zs,p1,p2⟩:=ih e2
   exact⟨a::zs,p1.cons a,by rw[jJ,<- p2,<- e1]⟩
 | swap x y l=>
  intro xs e
  cases xs with
  | nil=>simp at e
  | cons a as=>
   cases as with
   | nil=>simp at e
   | cons c cs=>
    rw[jJ,jJ] at e
    injection e with e1 e2
    injection e2 with e2 e3
    exact⟨c::a::cs,.swap a c cs,by rw[jJ,jJ,<- e1,<- e2,<- e3]⟩
 | trans p q ih1 ih2=>
  intro xs e
  obtain⟨zs,p1,p2⟩:=ih2 e
  obtain⟨us,p3,p4⟩:=ih1 p2
  exact⟨us,p3.trans p1,p4⟩
def xc(p:Nat×Nat):Dat:=.tup [.int p.1,.int p.2]
def Zc(as:List (Nat×Nat)):Dat:=.tup (as.map xc)
theorem qI:∀(as:List (Nat×Nat)),Dat.imms (as.map xc)=true
 | []=>rfl
 | p::as=>by
  show(Dat.imm (xc p)&&Dat.imms (as.map xc))=true
  rw[qI as];rfl
def ByOrd(ord:List Nat)(as:List (Nat×Nat)):Prop:=∀p∈as,∃k l:Nat,k<l/\ord[k]? =some p.1/\ord[l]? =some p.2
section
variable{P:Program}{w:World}{K:PySem.W.Frag}{mg:Str->Option Value}{base:Heap}
theorem Reps.take{H:Hp}:∀(n:Nat) {ds:List Dat} {xs:List V},Reps K H ds xs->Reps K H (ds.take n) (xs.take n)
 | 0,_,_,_=>rfl
 | n+1,[],_,h=>by rw[show _=_ from h];exact rfl
 | n+1,d::ds,_,h=>by
  obtain⟨x,r,e,h1,h2⟩:=h
  subst e
  exact⟨x,r.take n,rfl,h1,Reps.take n h2⟩
theorem Reps.app{H:Hp}:∀{ds es:List Dat} {xs ys:List V},Reps K H ds xs->Reps K H es ys->Reps K H (ds++es) (xs++ys)
 | [],_,_,_,h,h'=>by rw[show _=_ from h];exact h'
 | d::ds,_,_,_,h,h'=>by
  obtain⟨x,r,e,h1,h2⟩:=h
  subst e
  exact⟨x,r++_,rfl,h1,Reps.app h2 h'⟩
inductive Qb(K:PySem.W.Frag)(vs:List V)(H:Hp)(Q:VK):Prop
 | mk (b:Addr) (m n:Int) (_:vs=[.ref b,.int m]) (_:BoxAt H b n) (_:n<1000000) (_:0<=m) (_:m<=100) (_:∀(p:Addr) (as:List (Nat×Nat)) (ord:List Nat) H',SameB b H H'->BoxAt H' b (n+800)->Rep K H' (Zc as) (.ref p)->ord.Perm (List.range m.toNat)->ByOrd ord as->as.length<=300->Q (.ref p) H'):Qb K vs H Q
def Vd(K:PySem.W.Frag):Sp:=fun vs H Q _=>Qb K vs H Q
theorem Vg:zK ["_law_box_here", "_law_many", "_law_order_here", "_law_found", "_law_turn", "_law_k"] ["_law_box_here", "_law_many"] (zu (topL 28)):=⟨rfl,rfl,rfl,by decide +kernel,rfl,by decide +kernel,by decide +kernel⟩
theorem zgp{m r:Int}(h:0<=r)(h':r<4)(m2:2<=m)(m1:m<=100):∃z:Int,atI [V.int 1,V.int 4,V.int 13,V.int (2*m)] r=some (.int z)/\1<=z/\z<=200:=by
 have hc:r=0\/r=1\/r=2\/r=3:=by omega
 rcases hc with rfl | rfl | rfl | rfl
 ·exact⟨1,rfl,by omega,by omega⟩
 ·exact⟨4,rfl,by omega,by omega⟩
 ·exact⟨13,rfl,by omega,by omega⟩
 ·exact⟨2*m,rfl,by omega,by omega⟩
theorem zbY{ord:List Nat}{i:Int}(h:0<=i)(h':i<ord.length):∃x:Nat,atI (ord.map fun i:Nat=>V.int (i:Int)) i=some (.int (x:Int))/\ord[i.toNat]? =some x:=by
 obtain⟨v,e1,e2⟩:=QE (xs:=ord.map fun i:Nat=>V.int (i:Int)) h (by rw[zp];exact h')
 rw[qJ] at e2
 obtain⟨x,hx,rfl⟩:=qw.mp e2
 exact⟨x,e1,hx⟩
def zan(b:_)(m:_)(o:_)(R:_)(H:_)(n:_)(ord:_)(K:_):=fun(i:Nat) (σ:St) (H5:Hp)=>(Ex4 fun(as:List (Nat×Nat)) (xs:List V) (v4 v5:Option V)=>An8 (σ=[some (.ref b),some (.int m),some (.ref o),some (.ref R),v4,v5]) (SameB b H H5) (BoxAt H5 b (n+110+2*i)) (H5 o=some (.lst (ord.map fun i:Nat=>V.int (i:Int)))) (H5 R=some (.lst xs)) (Reps K H5 (as.map xc) xs) (ByOrd ord as) (as.length=i):Prop)
theorem zaI{f:Addr}{fd:FuncData}(F:Fun K "_law_aheads" "_law_aheads" (topL 28) f fd)(B:Blt mg)(D_take:Dfn P w K mg base "_law_take" 1 ["_law_box_here", "_law_size"] xg)(D_shuffled:Dfn P w K mg base "_law_shuffled" 2 ["_law_box_here", "_law_some"] (JW K)):FnOk P w K mg base CX0 3 f fd ["_law_box_here", "_law_many"] (Vd K):=by
 have nd:=Vg.nd
 refine F.ok Vg (fun vs H Q E h=>?_) (fun cdv A outer s H vs Q E hr h=>?_)
 ·obtain⟨b,m,n,rfl,_⟩:=h
  rfl
 ·obtain⟨b,m,n,rfl,B0,hn,m0,m1,k⟩:=h
  have hbig:100000<sizeLine:=by rw[sizeLine_eq];decide
  have e62:(2:Int)^62=4611686018427387904:=by decide
  refine⟨_,(zg (vY (i:=2) (j:=3) rfl nd rfl rfl (by decide) rfl rfl (za (zk D_shuffled (hr.mono (by decide)) rfl (za (pv 0) (za (vC rfl rfl B.list rfl B.range jq (za (pv 1) zd)) zd))) (za (zN zd) zd)) (by rfl))
   (zg (qY (zC zeD (pv 1) zf (zE _))
   (zm (zH (zX zd)))
   qK)
   (zg (qO jw rfl (qx rfl B.range (za (zk D_take (hr.mono (by decide)) rfl (za (pv 0) (za (zr zJ (zN (za zf (za zf (za zf (za (zB xX zf (pv 1)) zd))))) (zk D_take (hr.mono (by decide)) rfl (za (pv 0) (za zf zd))) (fun _ _=>rfl)) zd))) zd)) (zy (i:=4) nd rfl (Or.inl rfl))
   (zg (zD (i:=5) nd rfl (Or.inl rfl) (zk D_take (hr.mono (by decide)) rfl (za (pv 0) (za (zB xN (pv 1) zf) zd))))
    (zm (zU (qZ qW jM jL zV (pv 3) (za (zX (za (zr zJ (pv 2) (pv 5) (fun _ _=>rfl)) (za (zr zJ (pv 2) (zB qE (zB qE (pv 5) zf) (zk D_take (hr.mono (by decide)) rfl (za (pv 0) (za (zB xN (zB xN (pv 1) zf) (pv 5)) zd)))) (fun _ _=>rfl)) zd))) zd))))))
   (zm (zH (jc jY rfl B.tuple jB (za (zB Zp (pv 3) (xj ZX (pv 3) x9 (xA (jc wO rfl B.int vq (za (qL ja (zk D_take (hr.mono (by decide)) rfl (za (pv 0) (za zf zd))) zf (zE _)) zd))))) zd))))))),?_⟩
  refine⟨_,rfl,_,rfl,m,rfl,m0,by omega,fun l0 h0=>?_⟩
  have len0:((List.range m.toNat).map fun i:Nat=>V.int (i:Int)).length=m.toNat:=by rw[zp,vd]
  refine⟨b,l0,n,_,rfl,B0.new h0,by omega,B0.nne h0,zb,by rw[len0];omega,fun o ys H1 S1 B1 no oN ho pm=>⟨le0,fun R hR=>⟨_,_,rfl,?_⟩⟩⟩
  obtain⟨ord,op,rfl⟩:=yJ pm rfl
  have ol:ord.length=m.toNat:=by rw[op.length_eq,vd]
  rw[len0] at B1
  have nR:=B1.nne hR
  have oR:o≠R:=zj ho hR
  have S1':=((SameB.refl b H).new h0).trans S1
  have RH:H R=none:=S1'.none hR nR
  have S2:=S1'.new (o:=.lst []) hR
  have B2:=B1.new (o:=.lst []) hR
  have O2:=(ze (o:=.lst []) hR) _ _ ho
  have R2:upd H1 R (.lst []) R=some (.lst []):=zb
  generalize upd H1 R (.lst [])=H2 at S2 B2 O2 R2
  refine⟨_,rfl,_,_,rfl,rfl,_,rfl,jD (fun c=>?_) (fun c=>?_)⟩
  ·exact⟨le0,fun p hp=>k p [] ord _ (S2.new hp) ((B2.new hp).mono (by omega)) ⟨p,[],rfl,SqT.of zb,rfl⟩ op (fun p h=>nomatch h) (qu _)⟩
  have m2:2<=m:=by
   have:¬m<2:=fun z=>c (qv z)
   omega
  refine⟨_,rfl,_,rfl,_,_,rfl,rfl,.inl ⟨by decide,by decide⟩,le4,fun l1 h1=>⟨_,rfl,b,4,_,rfl,B2.new h1,by omega,by decide,by decide,fun r H3 r0 r1 B3 S3=>?_⟩⟩
  have L3:=S3 l1 _ zb (B2.nne h1)
  obtain⟨z,ez,z0,z1⟩:=zgp r0 r1 m2 m1
  refine⟨l1,_,_,_,rfl,rfl,SqL.of L3,ez,b,z,_,rfl,B3,by omega,by omega,by omega,fun cnt H4 c0 c1 B4 S4=>⟨_,rfl,(by rw[e62];omega),(by rw[e62];omega),?_⟩⟩
  have U4:=((SameB.refl b H2).new h1).trans (S3.trans S4)
  have S4':=S2.trans U4
  have O4:=U4 _ _ O2 no
  have R4:=U4 _ _ R2 nR
  clear S2 B2 O2 R2 S3 S4 U4 L3 h1 B3
  refine jd (zan b m o R H n ord K)
   ⟨[],[],_,_,rfl,S4',B4.mono (by omega),O4,R4,rfl,(fun p h=>nomatch h),rfl⟩ ?_ ?_
  ·rintro i σ H5 hi ⟨as,xs,v4,v5,rfl,S5,B5,O5,R5,rp,bo,asl⟩
   have xl:xs.length=i:=by rw[rp.len,zp,asl]
   refine⟨_,rfl,_,rfl,_,_,rfl,rfl,b,_,_,rfl,B5,by omega,by omega,by omega,fun kk H6 k0 k1 B6 S6=>?_⟩
   have O6:=S6 _ _ O5 no
   obtain⟨x1,ex1,ox1⟩:=zbY (ord:=ord) k0 (by omega)
   refine⟨_,rfl,.inl ⟨rfl,_,SqL.of (S6 _ _ R5 nR)⟩,_,rfl,_,rfl,o,_,_,_,rfl,rfl,SqL.of O6,ex1,?_⟩
   refine⟨_,rfl,_,rfl,_,_,rfl,rfl,_,rfl,_,rfl,_,_,rfl,rfl,_,rfl,_,_,rfl,rfl,b,_,_,rfl,B6,by omega,by omega,by omega,fun q H7 q0 q1 B7 S7=>⟨_,_,rfl,rfl,?_⟩⟩
   have O7:=S7 _ _ O6 no
   have R7:=S7 _ _ (S6 _ _ R5 nR) nR
   obtain⟨x2,ex2,ox2⟩:=zbY (ord:=ord) (i:=kk+1+q) (by omega) (by omega)
   refine⟨o,_,_,_,rfl,rfl,SqL.of O7,ex2,le2,fun T hT=>⟨R,xs,.ref T,rfl,rfl,(ze hT) _ _ R7,by omega,?_⟩⟩
   have R8:=(ze (o:=.tup [.int (x1:Int),.int (x2:Int)]) hT) _ _ R7
   have st:SameT H5 (upd (upd H7 T (.tup [.int (x1:Int),.int (x2:Int)])) R (.lst (xs++[.ref T]))):=((SameT.draw B5 (S6.trans S7)).trans (.of (ze hT))).trans (.put R8)
   refine⟨as++[(x1,x2)],_,_,_,rfl,(((S5.trans S6).trans S7).new hT).put RH,((B7.new hT).other nR).mono (by omega),by rw[zi oR];exact(ze hT) _ _ O7,zb,?_,fun pq hpq=>?_,by rw[zW,asl];rfl⟩
   ·rw[zZ]
    refine Reps.snoc ?_ (Reps.keep st (qI as) rp)
    refine⟨T,_,rfl,SqT.of ?_,_,_,rfl,rfl,_,_,rfl,rfl,rfl⟩
    rw[zi (fun zz=>by rw[zz,R7] at hT;cases hT)]
    exact zb
   ·rcases zY.mp hpq with w1 | w1
    ·exact bo pq w1
    ·rw[qg.mp w1]
     exact⟨kk.toNat,(kk+1+q).toNat,by omega,ox1,ox2⟩
  ·rintro σ H5 ⟨as,xs,v4,v5,rfl,S5,B5,O5,R5,rp,bo,asl⟩
   have xl:xs.length=as.length:=by rw[rp.len,zp]
   refine⟨_,rfl,_,rfl,_,rfl,b,4,_,rfl,B5,by omega,by decide,by decide,fun r9 H6 r90 r91 B6 S6=>⟨rfl,.inr ⟨_,rfl,_,rfl,R,xs,rfl,SqL.of (S6 _ _ R5 nR),fun s1 hs1=>?_⟩⟩⟩
   have R6:=S6 _ _ R5 nR
   obtain⟨t,et⟩:∃t:Nat,jN xs none (some (if decide (V.int r9=V.int 0)=true then(1:Int) else 0))=xs.take t/\t<=1:=by
    unfold jN
    by_cases hd:decide (V.int r9=V.int 0)=true
    ·rw[zx hd,show(some (1:Int))=some ((1:Nat):Int) from rfl,HT.sIx_nat,HT.sIx_none]
     refine⟨min 1 xs.length,by simp,by omega⟩
    ·rw[zq hd,show(some (0:Int))=some ((0:Nat):Int) from rfl,HT.sIx_nat,HT.sIx_none]
     refine⟨0,by simp,by omega⟩
   rw[et.1]
   have st:SameT H5 H6:=.draw B5 S6
   have rp6:=Reps.keep st (qI as) rp
   have tl:(xs.take t).length<=1:=by rw[qT];omega
   refine⟨R,s1,_,_,rfl,rfl,(ze hs1) _ _ R6,zb,by omega,fun c1 hc1=>⟨c1,_,rfl,.inl ⟨SqL.of zb,fun p hp=>?_⟩⟩⟩
   have sm:=((ze (o:=.lst (xs.take t)) hs1).trans (ze (o:=.lst (xs++xs.take t)) hc1)).trans (ze (o:=.tup (xs++xs.take t)) hp)
   refine k p (as++as.take t) ord _ ((((S5.trans S6).new hs1).new hc1).new hp) ((((B6.new hs1).new hc1).new hp).mono (by omega)) ⟨p,_,rfl,SqT.of zb,?_⟩ op (fun pq hpq=>?_) (by rw[zW,qT];omega)
   ·have rp7:=Reps.keep (SameT.of sm) (qI as) rp6
    have rt:=Reps.take t rp7
    rw[<- List.map_take] at rt
    have:=Reps.app rp7 rt
    rw[<- zZ] at this
    exact this
   ·rcases zY.mp hpq with w1 | w1
    ·exact bo pq w1
    ·exact bo pq (QV w1)
end
structure xo where
 k:Str
 x:Int
 y:Int
structure vw where
 k:Str
 x:Int
 y:Int
 m:Int
def jC(p:xo):Dat:=.tup [.str p.k,.tup [.int p.x,.int p.y]]
def xO(p:vw):Dat:=.tup [.str p.k,.tup [.int p.x,.int p.y],.int p.m]
theorem xT:∀(as:List vw),Dat.imms (as.map xO)=true
 | []=>rfl
 | p::as=>by
  show(Dat.imm (xO p)&&Dat.imms (as.map xO))=true
  rw[xT as];rfl
theorem xb:∀(as:List xo),Dat.imms (as.map jC)=true
 | []=>rfl
 | p::as=>by
  show(Dat.imm (jC p)&&Dat.imms (as.map jC))=true
  rw[xb as];rfl
def inP(x y:Int):Prop:=0<=x/\x<=1000/\0<=y/\y<=1000
section
variable{P:Program}{w:World}{K:PySem.W.Frag}{mg:Str->Option Value}{base:Heap}
inductive Va(K:PySem.W.Frag)(vs:List V)(H:Hp)(Q:VK):Prop
 | mk (b ks ps:Addr) (pl:Bool) (n:Int) (kinds:List Str) (parts:List xo) (_:vs=[.ref b,.ref ks,.ref ps,.bl pl]) (_:BoxAt H b n) (_:n<900000) (_:ks≠b) (_:Row H ks kinds) (_:1<=kinds.length) (_:kinds.length<=12) (_:Rep K H (.tup (parts.map jC)) (.ref ps)) (_:parts.length<=100) (_:∀(p:Addr) (fs:List vw) (es:List Str) H',SameB b H H'->BoxAt H' b (n+400)->Rep K H' (.tup (fs.map xO)) (.ref p)->(fs.map (·.k)).Perm (kinds++es)->(∀e∈es,e∈kinds)->fs.length<=40->(∀f∈fs,Nm f.k/\inP f.x f.y/\0<=f.m/\f.m<=400)->Q (.ref p) H'):Va K vs H Q
def zbt(K:PySem.W.Frag):Sp:=fun vs H Q _=>Va K vs H Q
theorem zbE:zK ["_law_box_here", "_law_kinds", "_law_parts", "_law_plenty", "_law_great", "_law_more", "_law_some", "_law_found", "_law_kind", "_law_need", "_law_many"] ["_law_box_here", "_law_kinds", "_law_parts", "_law_plenty"] (zu (topL 27)):=⟨rfl,rfl,rfl,by decide +kernel,rfl,by decide +kernel,by decide +kernel⟩
theorem zbi{ns:List Str}{i:Int}(h:0<=i)(h':i<ns.length):∃x,atI (ns.map V.str) i=some (.str x)/\x∈ns:=by
 obtain⟨v,e1,e2⟩:=QE (xs:=ns.map V.str) h (by rw[zp];exact h')
 rw[qJ] at e2
 obtain⟨x,hx,rfl⟩:=qw.mp e2
 exact⟨x,e1,qG hx⟩
theorem zgo{a c r:Int}(h:0<=r)(h':r<3)(a0:0<=a)(a1:a<=400)(c0:0<=c)(c1:c<=400):∃z:Int,atI [V.int a,V.int c,V.int 400] r=some (.int z)/\0<=z/\z<=400:=by
 have hc:r=0\/r=1\/r=2:=by omega
 rcases hc with rfl | rfl | rfl
 ·exact⟨a,rfl,a0,a1⟩
 ·exact⟨c,rfl,c0,c1⟩
 ·exact⟨400,rfl,by omega,by omega⟩
def zam(kinds:List Str)(b:_)(H2:_)(n:_):=fun(j:Nat) (zs:List V) (H3:Hp)=>(Ex1 fun(es:List Str)=>An5 (zs=es.map V.str) (es.length=j) ((∀x∈es,x∈kinds)) (SameB b H2 H3) (BoxAt H3 b (n+2+j)):Prop)
theorem zdz{f:Addr}{fd:FuncData}(F:Fun K "_law_feeders" "_law_feeders" (topL 27) f fd)(B:Blt mg)(D_take:Dfn P w K mg base "_law_take" 1 ["_law_box_here", "_law_size"] xg)(D_shuffled:Dfn P w K mg base "_law_shuffled" 2 ["_law_box_here", "_law_some"] (JW K))(D_place:Dfn P w K mg base "_law_place" 2 ["_law_box_here", "_law_taken"] (ZW K)):FnOk P w K mg base CX0 3 f fd ["_law_box_here", "_law_kinds", "_law_parts", "_law_plenty"] (zbt K):=by
 have nd:=zbE.nd
 refine F.ok zbE (fun vs H Q E h=>?_) (fun cdv A outer s H vs Q E hr h=>?_)
 ·obtain⟨b,ks,ps,pl,n,kinds,parts,rfl,_⟩:=h
  rfl
 ·obtain⟨b,ks,ps,pl,n,kinds,parts,rfl,B0,hn,nk,Rk,k0,k1,hp,lp,k⟩:=h
  have hbig:100000<sizeLine:=by rw[sizeLine_eq];decide
  have e62:(2:Int)^62=4611686018427387904:=by decide
  have ek:(kinds.map V.str).length=kinds.length:=zp ..
  refine⟨_,(zg (zD (i:=4) nd rfl (Or.inl rfl) (qL ja (zk D_take (hr.mono (by decide)) rfl (za (pv 0) (za zf zd))) zf (zE _)))
   (zg (xQ (zD (i:=5) nd rfl (Or.inl rfl) (zk D_take (hr.mono (by decide)) rfl (za (pv 0) (za (xm (jV (pv 4)) (zB xN zf (zo zw rfl B.len boot_len (za (pv 1) zd))) zf) zd)))))
   (zg (zD (i:=6) nd rfl (Or.inl rfl) (zB Zp (pv 1) (j8 ["_law_kinds", "_law_box_here"] [1,0] rfl rfl (by kernel_rfl) (qx rfl B.range (za (pv 5) zd)) (fun _ _ _ _=>jF) (fun _ _ _ _=>(zr (yQ (K:=K) rfl) (pv 1) (zk D_take (hr.mono (by decide)) rfl (za (pv 2) (za (zo (wY (K:=K) rfl) rfl B.len boot_len (za (pv 1) zd)) zd))) (fun _ _=>rfl))))))
   (zg (zD (i:=7) nd rfl (Or.inl rfl) (zN zd))
   (zg (qO jw rfl (qN (zk D_shuffled (hr.mono (by decide)) rfl (za (pv 0) (za (pv 6) zd)))) (zy (i:=8) nd rfl (Or.inr rfl))
   (zg (zD (i:=9) nd rfl (Or.inl rfl) (zo zw rfl B.len boot_len (za (j8 ["_law_kind"] [8] rfl rfl (by kernel_rfl) (vZ (pv 2)) (fun _ _ _ _=>(vg (zC ja (zr (jt (K:=K) rfl) (pv 0) zf (fun _ _=>rfl)) (pv 1) (zE _)))) (fun _ _ _ _=>(pv 0))) zd)))
    (zg (xQ (zD (i:=10) nd rfl (Or.inl rfl) (xm (jV (pv 3)) (zr zJ (zN (za (pv 9) (za (zB qE (pv 9) (zk D_take (hr.mono (by decide)) rfl (za (pv 0) (za zf zd)))) (za zf zd)))) (zk D_take (hr.mono (by decide)) rfl (za (pv 0) (za zf zd))) (fun _ _=>rfl)) (zk D_take (hr.mono (by decide)) rfl (za (pv 0) (za zf zd))))))
    (zm (zU (qZ qW jM jL zV (pv 7) (za (zX (za (pv 8) (za (zk D_place (hr.mono (by decide)) rfl (za (pv 0) (za (zN zd) zd))) (za (pv 10) zd)))) zd)))))))
   (zm (zH (jc jY rfl B.tuple jB (za (pv 7) zd))))))))),?_⟩
  refine⟨_,rfl,b,8,n,rfl,B0,by omega,by decide,by decide,fun r H1 r0 r1 B1 S1=>⟨rfl,?_⟩⟩
  have Rk1:=Rk.draw S1 nk
  refine⟨fun σ' H'=>Ex1 fun(more:Int)=>An5 (σ'=[some (.ref b),some (.ref ks),some (.ref ps),some (.bl pl),some (.bl (decide (V.int r=V.int 0))),some (.int more),none,none,none,none,none]) (0<=more) (more<=20) (SameB b H H') (BoxAt H' b (n+2)),?_,?_⟩
  ·refine⟨_,rfl,_,rfl,_,rfl,jD (fun c=>?_) (fun c=>?_)⟩
   ·exact⟨_,rfl,ks,_,rfl,.inl (SqL.of Rk1.1),_,_,rfl,rfl,b,_,_,rfl,B1,by omega,by omega,by omega,fun more H2 a0 a1 B2 S2=>⟨_,rfl,a0,by omega,S1.trans S2,B2.mono (by omega)⟩⟩
   ·exact⟨b,4,_,rfl,B1,by omega,by decide,by decide,fun more H2 a0 a1 B2 S2=>⟨_,rfl,a0,by omega,S1.trans S2,B2.mono (by omega)⟩⟩
  rintro σ' H2 ⟨more,rfl,mo0,mo1,S2,B2⟩
  clear S1 B1 Rk1
  have Rk2:=Rk.draw S2 nk
  refine⟨_,rfl,_,rfl,_,rfl,(by rw[e62];omega),(by rw[e62];omega),yP (zam kinds b H2 n) ⟨[],rfl,rfl,(fun x h=>nomatch h),SameB.refl _ _,B2.mono (by omega)⟩ ?_ ?_⟩
  ·rintro j zs H3 hj ⟨es,rfl,el,ee,S3,B3⟩
   refine⟨rfl,⟨_,rfl,_,rfl,_,rfl,ks,_,rfl,.inl (SqL.of (Rk2.draw S3 nk).1),b,_,_,rfl,B3,by omega,by omega,by omega,fun q H4 q0 q1 B4 S4=>?_⟩⟩
   obtain⟨y,ey,my⟩:=zbi (ns:=kinds) q0 (by omega)
   refine⟨ks,_,_,_,rfl,rfl,SqL.of (Rk2.draw (S3.trans S4) nk).1,ey,by rw[zp,el];omega,es++[y],by rw[zZ];rfl,by rw[zW,el];rfl,fun x hx=>?_,S3.trans S4,B4.mono (by omega)⟩
   rcases zY.mp hx with pq | pq
   ·exact ee x pq
   ·rw[qg.mp pq];exact my
  rintro zs H3 ⟨es,rfl,el,ee,S3,B3⟩
  refine⟨by rw[zp,el];omega,fun D hD=>?_⟩
  have S3':=(S2.trans S3).new (o:=.lst (es.map V.str)) hD
  have Rk3:=(Rk2.draw S3 nk).same (ze (o:=.lst (es.map V.str)) hD)
  refine⟨ks,D,_,_,rfl,rfl,Rk3.1,zb,by rw[ek,zp,el];omega,fun sm hs=>?_⟩
  have B4:=(B3.new (o:=.lst (es.map V.str)) hD).new (o:=.lst (kinds.map V.str++es.map V.str)) hs
  have S4:=S3'.new (o:=.lst (kinds.map V.str++es.map V.str)) hs
  have ns:=(B3.new (o:=.lst (es.map V.str)) hD).nne hs
  have M4:upd (upd H3 D (.lst (es.map V.str))) sm (.lst (kinds.map V.str++es.map V.str)) sm=some (.lst ((kinds++es).map V.str)):=by rw[zb,zZ]
  generalize upd (upd H3 D (.lst (es.map V.str))) sm (.lst (kinds.map V.str++es.map V.str))=H4 at B4 S4 M4
  clear S2 S3 S3' Rk2 Rk3 B2 B3 hD hs
  refine⟨le0,fun R hR=>?_⟩
  have nR:=B4.nne hR
  have RH:H R=none:=S4.none hR nR
  have lenk:((kinds++es).map V.str).length<=32:=by rw[zp,zW,el];omega
  refine⟨_,rfl,_,rfl,b,sm,_,_,rfl,B4.new hR,by omega,ns,(ze hR) _ _ M4,by omega,fun l ys H5 S5 B5 nl lN hl pm=>?_⟩
  obtain⟨sh,shp,rfl⟩:=yJ pm rfl
  have S5':=(S4.new (o:=.lst []) hR).trans S5
  have R5:H5 R=some (.lst []):=S5 _ _ zb nR
  have lR:l≠R:=fun z=>by rw[z,zb] at lN;cases lN
  have shl:sh.length<=32:=by rw[shp.length_eq];rw[zp] at lenk;exact lenk
  have shn:∀x∈sh,Nm x:=fun x hx=>by
   rcases zY.mp (shp.mem_iff.mp hx) with q | q
   ·exact Rk.2 x q
   ·exact Rk.2 x (ee x q)
  clear pm M4 S4 S5 B4 hR
  refine⟨l,rfl,⟨_,SqL.of hl⟩,jP (K:=K) (a:=l) (xs:=sh.map V.str) (fun i σ H6=>Ex6 fun(fs:List vw) (xs:List V) (v6 v8 v9 v10:Option V)=>An8 (σ=[some (.ref b),some (.ref ks),some (.ref ps),some (.bl pl),some (.bl (decide (V.int r=V.int 0))),some (.int more),v6,some (.ref R),v8,v9,v10]) (SameB b H H6) (BoxAt H6 b (n+60+6*i)) (H6 l=some (.lst (sh.map V.str))) (H6 R=some (.lst xs)) (Reps K H6 (fs.map xO) xs) (fs.map (·.k)=sh.take i) (∀f∈fs,Nm f.k/\inP f.x f.y/\0<=f.m/\f.m<=400))
   ⟨[],[],_,_,_,_,rfl,S5',B5.mono (by omega),hl,R5,rfl,rfl,(fun f h=>nomatch h)⟩ (fun i σ H6 _ ⟨_,_,_,_,_,_,_,_,_,h,_,_,_,_⟩=>SqL.of h) ?_ ?_⟩
  ·rintro i x σ H6 hx ⟨fs,xs,v6,v8,v9,v10,rfl,S6,B6,L6,R6,rp,fk,fa⟩
   rw[qJ] at hx
   obtain⟨kd,hkd,rfl⟩:=qw.mp hx
   have hi:=(zQ.mp hkd).1
   have fl:fs.length=i:=by
    have:=congrArg List.length fk
    rw[zp,qT] at this
    omega
   have xl:xs.length=i:=by rw[rp.len,zp,fl]
   have hp6:=Rep.keep (d:=.tup (parts.map jC)) (SameT.draw B0 S6) (xb parts) hp
   obtain⟨_,pxs,ep,hq,hps⟩:=hp6
   cases ep
   have pl':pxs.length=parts.length:=by rw[hps.len,zp]
   refine⟨_,rfl,ps,rfl,⟨_,hq⟩,wj (K:=K) (a:=ps) (xs:=pxs) (fun j zs H7=>zs.length<=j/\Same H6 H7) ⟨zG _,Same.refl _⟩ (fun j zs H7 ⟨_,s7⟩=>s7.sqT hq) ?_ ?_⟩
   ·rintro j v zs H7 hv ⟨zl,s7⟩
    have hj:=(zQ.mp hv).1
    obtain⟨d,hd,rd⟩:=hps.get hv
    rw[qJ] at hd
    obtain⟨pt,_,rfl⟩:=qw.mp hd
    obtain⟨c,cxs,rfl,hc,u1,r1',e1,e2,e3⟩:=rd
    subst e1
    cases(show u1=.str pt.k from e2)
    refine⟨rfl,⟨_,rfl,c,_,_,.str pt.k,rfl,rfl,s7.sqT hc,zT (j:=0) rfl,_,rfl,rfl,_,rfl,jD (fun dd=>⟨_,rfl,by omega,by rw[zW];simp;omega,s7⟩) (fun dd=>⟨by omega,s7⟩)⟩⟩
   rintro zs H7 ⟨zl,s7⟩
   refine⟨by omega,fun D2 hD2=>⟨D2,zs,rfl,.inl (SqL.of zb),?_⟩⟩
   have s8:=s7.trans (ze (o:=.lst zs) hD2)
   have B8:=B6.same s8
   generalize upd H7 D2 (.lst zs)=H8 at s8 B8
   refine⟨fun σ' H'=>Ex1 fun(many:Int)=>An5 (σ'=[some (.ref b),some (.ref ks),some (.ref ps),some (.bl pl),some (.bl (decide (V.int r=V.int 0))),some (.int more),v6,some (.ref R),some (.str kd),some (.int (zs.length:Int)),some (.int many)]) (0<=many) (many<=400) (SameB b H8 H') (BoxAt H' b (n+60+6*i+2)),?_,?_⟩
   ·refine⟨_,rfl,_,rfl,jD (fun c=>?_) (fun c=>?_)⟩
    ·refine⟨_,rfl,_,rfl,_,rfl,b,9,_,rfl,B8,by omega,by decide,by decide,fun q9 H9 a0 a1 B9 S9=>⟨_,_,rfl,rfl,le3,fun l3 h3=>⟨_,rfl,b,3,_,rfl,B9.new h3,by omega,by decide,by decide,fun q3 H10 c0 c1 B10 S10=>?_⟩⟩⟩
     have L10:=S10 l3 _ zb (B9.nne h3)
     obtain⟨z,ez,z0,z1⟩:=zgo (a:=(zs.length:Int)) (c:=(zs.length:Int)+q9) c0 c1 (by omega) (by omega) (by omega) (by omega)
     exact⟨l3,_,_,_,rfl,rfl,SqL.of L10,ez,z,rfl,z0,z1,(S9.new h3).trans S10,B10.mono (by omega)⟩
    ·exact⟨_,rfl,b,4,_,rfl,B8,by omega,by decide,by decide,fun q9 H9 a0 a1 B9 S9=>⟨q9,rfl,a0,by omega,S9,B9.mono (by omega)⟩⟩
   rintro σ' H9 ⟨many,rfl,y0,y1,S9,B9⟩
   have S9':=(SameB.of (b:=b) s8).trans S9
   have R9:=S9' _ _ R6 nR
   refine⟨_,rfl,.inl ⟨rfl,_,SqL.of R9⟩,_,rfl,_,rfl,le0,fun e he=>⟨b,e,_,[],rfl,B9.new he,by omega,B9.nne he,zb,qu _,(fun a h=>nomatch h),fun pp H10 S10 B10 ppN pa=>⟨_,rfl,le3,fun T hT=>?_⟩⟩⟩
   obtain⟨px,py,hpp,b1,b2,b3,b4⟩:=pa
   have R10:=S10 _ _ ((ze he) _ _ R9) nR
   have R11:=(ze (o:=.tup [.str kd,.ref pp,.int many]) hT) _ _ R10
   refine⟨R,xs,.ref T,rfl,rfl,R11,by omega,?_⟩
   have S11:=(S9'.new he).trans (S10.new (o:=.tup [.str kd,.ref pp,.int many]) hT)
   have st:SameT H6 (upd (upd H10 T (.tup [.str kd,.ref pp,.int many])) R (.lst (xs++[.ref T]))):=(SameT.draw B6 S11).trans (.put R11)
   have TR:T≠R:=fun z=>by rw[z,R10] at hT;cases hT
   have ppR:pp≠R:=fun z=>by rw[z,R10] at hpp;cases hpp
   have ppT:pp≠T:=fun z=>by rw[z,hT] at hpp;cases hpp
   refine⟨fs++[⟨kd,px,py,many⟩],_,_,_,_,_,rfl,(S6.trans S11).put RH,((B10.new hT).other nR).mono (by omega),by rw[zi lR];exact S11 _ _ L6 nl,zb,?_,?_,fun g hgm=>?_⟩
   ·rw[zZ]
    refine Reps.snoc ?_ (Reps.keep st (xT fs) rp)
    refine⟨T,_,rfl,SqT.of (by rw[zi TR];exact zb),_,_,rfl,rfl,_,_,rfl,⟨pp,_,rfl,SqT.of (by rw[zi ppR,zi ppT];exact hpp),_,_,rfl,rfl,_,_,rfl,rfl,rfl⟩,_,_,rfl,rfl,rfl⟩
   ·rw[zZ,fk]
    obtain⟨h1,h2⟩:=zQ.mp hkd
    rw[<- yd h1,h2]
    rfl
   ·rcases zY.mp hgm with q | q
    ·exact fa g q
    ·rw[qg.mp q]
     exact⟨shn kd (qG hkd),⟨b1,b2,b3,b4⟩,y0,y1⟩
  ·rintro σ H6 ⟨fs,xs,v6,v8,v9,v10,rfl,S6,B6,L6,R6,rp,fk,fa⟩
   rw[zp,jh] at fk
   have fl:fs.length<=32:=by
    have:=congrArg List.length fk
    rw[zp] at this
    omega
   refine⟨_,rfl,R,xs,rfl,.inl ⟨SqL.of R6,fun p hp'=>?_⟩⟩
   refine k p fs es _ (S6.new hp') ((B6.new hp').mono (by rw[zp] at *;omega)) ⟨p,_,rfl,SqT.of zb,Reps.keep (SameT.of (ze hp')) (xT fs) rp⟩ (by rw[fk];exact shp) ee (by omega) fa
end
structure Job where
 gx:Int
 gy:Int
 hd:Int
 fs:List vw
 ps:List xo
 as:List (Nat×Nat)
def xR(J:Job):Dat:=.tup [.tup [.int J.gx,.int J.gy],.int J.hd,.tup (J.fs.map xO),.tup (J.ps.map jC),Zc J.as]
theorem jX(J:Job):(xR J).imm=true:=by
 show(true&&(true&&(Dat.imms (J.fs.map xO)&&(Dat.imms (J.ps.map jC)&&(Dat.imms (J.as.map xc)&&true)))))=true
 rw[xT,xb,qI];rfl
structure JobOk(J:Job)(ord:List Nat):Prop where
 gate:inP J.gx J.gy
 hd0:1<=J.hd
 hd1:J.hd<=4
 fl:J.fs.length<=40
 fa:∀f∈J.fs,Nm f.k/\inP f.x f.y/\0<=f.m/\f.m<=400
 pl:J.ps.length<=60
 pa:∀p∈J.ps,Nm p.k/\inP p.x p.y/\∃f∈J.fs,f.k=p.k
 op:ord.Perm (List.range J.ps.length)
 bo:ByOrd ord J.as
 al:J.as.length<=300
 f0:1<=J.fs.length
theorem zdf{r:Int}(h0:0<=r)(h1:r<4):∃z:Int,atI [V.int 3,V.int 3,V.int 3,V.int 12] r=some (.int z)/\3<=z/\z<=12:=by
 have hc:r=0\/r=1\/r=2\/r=3:=by omega
 rcases hc with rfl | rfl | rfl | rfl
 ·exact⟨3,rfl,by decide,by decide⟩
 ·exact⟨3,rfl,by decide,by decide⟩
 ·exact⟨3,rfl,by decide,by decide⟩
 ·exact⟨12,rfl,by decide,by decide⟩
section
variable{P:Program}{w:World}{K:PySem.W.Frag}{mg:Str->Option Value}{base:Heap}
inductive Yt(K:PySem.W.Frag)(vs:List V)(H:Hp)(Q:VK):Prop
 | mk (b:Addr) (few most n:Int) (pl:Bool) (_:vs=[.ref b,.int few,.int most,.bl pl]) (_:BoxAt H b n) (_:n<500000) (_:0<=few) (_:few<=60) (_:0<=most) (_:most<=60) (_:∀(p:Addr) (J:Job) (ord:List Nat) H',SameB b H H'->BoxAt H' b (n+3000)->Rep K H' (xR J) (.ref p)->JobOk J ord->Q (.ref p) H'):Yt K vs H Q
def zeh(K:PySem.W.Frag):Sp:=fun vs H Q _=>Yt K vs H Q
theorem zep:zK ["_law_box_here", "_law_few", "_law_most", "_law_plenty", "_law_many", "_law_kinds", "_law_parts", "_law_feeders_here"] ["_law_box_here", "_law_few", "_law_most", "_law_plenty"] (zu (topL 29)):=⟨rfl,rfl,rfl,by decide +kernel,rfl,by decide +kernel,by decide +kernel⟩
def zal(b:_)(few:_)(most:_)(pl:_)(H:_)(n:_):=fun(σ':St) (H':Hp)=>(Ex1 fun(m:Int)=>An5 (σ'=[some (.ref b),some (.int few),some (.int most),some (.bl pl),some (.int m),none,none,none]) (0<=m) (m<=60) (SameB b H H') (BoxAt H' b (n+2)):Prop)
def zak(K:_)(kinds:List Str)(b:_)(H6:_)(n:_):=fun(j:Nat) (zs:List V) (H7:Hp)=>(Ex1 fun(qs:List xo)=>An5 (Reps K H7 (qs.map jC) zs) (qs.length=j) ((∀q∈qs,q.k∈kinds/\inP q.x q.y)) (SameB b H6 H7) (BoxAt H7 b (n+700+j)):Prop)
theorem zfn{f:Addr}{fd:FuncData}(F:Fun K "_law_job" "_law_job" (topL 29) f fd)(B:Blt mg)(D_take:Dfn P w K mg base "_law_take" 1 ["_law_box_here", "_law_size"] xg)(D_names:Dfn P w K mg base "_law_names" 3 ["_law_box_here", "_law_many"] Yq)(D_place:Dfn P w K mg base "_law_place" 2 ["_law_box_here", "_law_taken"] (ZW K))(D_places:Dfn P w K mg base "_law_places" 3 ["_law_box_here", "_law_many"] X5)
  (D_feeders:Dfn P w K mg base "_law_feeders" 3 ["_law_box_here", "_law_kinds", "_law_parts", "_law_plenty"] (zbt K)) (D_aheads:Dfn P w K mg base "_law_aheads" 3 ["_law_box_here", "_law_many"] (Vd K)):FnOk P w K mg base CX0 4 f fd ["_law_box_here", "_law_few", "_law_most", "_law_plenty"] (zeh K):=by
 have nd:=zep.nd
 refine F.ok zep (fun vs H Q E h=>?_) (fun cdv A outer s H vs Q E hr h=>?_)
 ·obtain⟨b,few,most,n,pl,rfl,_⟩:=h
  rfl
 ·obtain⟨b,few,most,n,pl,rfl,B0,hn,f0,f1,mo0,mo1,k⟩:=h
  have hbig:100000<sizeLine:=by rw[sizeLine_eq];decide
  refine⟨_,(zg (xQ (zD (i:=4) nd rfl (Or.inl rfl) (zk D_take (hr.mono (by decide)) rfl (za (pv 0) (za (zB qE (xm (zC Jr (zk D_take (hr.mono (by decide)) rfl (za (pv 0) (za zf zd))) zf (zE _)) (pv 1) (pv 2)) zf) zd)))))
   (zg (zD (i:=5) nd rfl (Or.inr rfl) (zk D_names (hr.mono (by decide)) rfl (za (pv 0) (za (zB qE zf (zk D_take (hr.mono (by decide)) rfl (za (pv 0) (za (zr zJ (zN (za zf (za zf (za zf (za zf zd))))) (zk D_take (hr.mono (by decide)) rfl (za (pv 0) (za zf zd))) (fun _ _=>rfl)) zd)))) zd))))
   (zg (zD (i:=6) nd rfl (Or.inl rfl) (jc jY rfl B.tuple jB (za (j8 ["_law_kinds", "_law_box_here"] [5,0] rfl rfl (by kernel_rfl) (qN (zk D_places (hr.mono (by decide)) rfl (za (pv 0) (za (pv 4) zd)))) (fun _ _ _ _=>jF) (fun _ _ _ _=>(zX (za (zr (yQ (K:=K) rfl) (pv 1) (zk D_take (hr.mono (by decide)) rfl (za (pv 2) (za (zo (wY (K:=K) rfl) rfl B.len boot_len (za (pv 1) zd)) zd))) (fun _ _=>rfl)) (za (pv 0) zd))))) zd)))
   (zg (zD (i:=7) nd rfl (Or.inl rfl) (zk D_feeders (hr.mono (by decide)) rfl (za (pv 0) (za (pv 5) (za (pv 6) (za (pv 3) zd))))))
   (zm (zH (zX (pa5 (zk D_place (hr.mono (by decide)) rfl (za (pv 0) (za (zN zd) zd))) (zB qE zf (zk D_take (hr.mono (by decide)) rfl (za (pv 0) (za zf zd)))) (pv 7) (pv 6) (zk D_aheads (hr.mono (by decide)) rfl (za (pv 0) (za (pv 4) zd))))))))))),?_⟩
  refine⟨zal b few most pl H n,?_,?_⟩
  ·refine⟨_,rfl,_,rfl,b,8,n,rfl,B0,by omega,by decide,by decide,fun r H1 r0 r1 B1 S1=>⟨_,_,rfl,rfl,_,rfl,jD (fun c=>⟨_,rfl,_,_,rfl,rfl,?_⟩) (fun c=>⟨_,rfl,_,_,rfl,rfl,?_⟩)⟩⟩
   ·exact⟨b,_,_,rfl,B1,by omega,by omega,by omega,fun m H2 a0 a1 B2 S2=>⟨m,rfl,a0,by omega,S1.trans S2,B2.mono (by omega)⟩⟩
   ·exact⟨b,_,_,rfl,B1,by omega,by omega,by omega,fun m H2 a0 a1 B2 S2=>⟨m,rfl,a0,by omega,S1.trans S2,B2.mono (by omega)⟩⟩
  rintro σ' H2 ⟨m,rfl,m0,m1,S2,B2⟩
  refine⟨_,rfl,_,rfl,le4,fun l1 h1=>⟨_,rfl,b,4,_,rfl,B2.new h1,by omega,by decide,by decide,fun r H3 r0 r1 B3 S3=>?_⟩⟩
  have L3:=S3 l1 _ zb (B2.nne h1)
  obtain⟨z,ez,z0,z1⟩:=zdf r0 r1
  refine⟨l1,_,_,_,rfl,rfl,SqL.of L3,ez,b,z,_,rfl,B3,by omega,by omega,by omega,fun q H4 q0 q1 B4 S4=>⟨_,_,rfl,rfl,b,1+q,_,rfl,B4,by omega,by omega,by omega,fun ks kinds H5 S5 B5 nk kN Rk kl=>?_⟩⟩
  have S5':=(((S2.new h1).trans S3).trans S4).trans S5
  have ek:(kinds.map V.str).length=kinds.length:=zp ..
  clear S2 S3 S4 S5 B2 B3 B4 L3 h1
  refine⟨_,rfl,_,rfl,b,m,_,rfl,B5,by omega,m0,by omega,fun l as H6 S6 B6 nl lN hl pa al=>?_⟩
  have Rk6:=Rk.draw S6 nk
  refine⟨l,rfl,⟨_,SqL.of hl⟩,j4 (K:=K) (a:=l) (xs:=as.map V.ref) (zak K kinds b H6 n) ⟨[],rfl,rfl,(fun x h=>nomatch h),SameB.refl _ _,B6.mono (by omega)⟩ (fun j zs H7 ⟨_,_,_,_,s7,_⟩=>SqL.of (s7 _ _ hl nl)) ?_ ?_⟩
  ·rintro j x zs H7 hx ⟨qs,rq,ql,qa,S7,B7⟩
   rw[qJ] at hx
   obtain⟨a,ha,rfl⟩:=qw.mp hx
   have hj:=(zQ.mp ha).1
   have zl:zs.length=j:=by rw[rq.len,zp,ql]
   refine⟨rfl,⟨_,rfl,_,rfl,_,rfl,ks,_,rfl,.inl (SqL.of (Rk6.draw S7 nk).1),b,_,_,rfl,B7,by omega,by omega,by omega,fun q H8 c0 c1 B8 S8=>?_⟩⟩
   obtain⟨y,ey,my⟩:=zbi (ns:=kinds) c0 (by omega)
   obtain⟨px,py,hpp,b1,b2,b3,b4⟩:=(pa a (qG ha)).draw B6 (S7.trans S8)
   refine⟨ks,_,_,_,rfl,rfl,SqL.of (Rk6.draw (S7.trans S8) nk).1,ey,_,rfl,le2,fun T hT=>⟨by omega,qs++[⟨y,px,py⟩],?_,by rw[zW,ql];rfl,fun q hq=>?_,(S7.trans S8).new hT,(B8.new hT).mono (by omega)⟩⟩
   ·rw[zZ]
    have rT:Rep K (upd H8 T (.tup [.str y,.ref a])) (jC ⟨y,px,py⟩) (.ref T):=⟨T,_,rfl,SqT.of zb,_,_,rfl,rfl,_,_,rfl,⟨a,_,rfl,SqT.of ((ze hT) _ _ hpp),_,_,rfl,rfl,_,_,rfl,rfl,rfl⟩,rfl⟩
    exact Reps.snoc rT (Reps.keep ((SameT.draw B7 S8).trans (.of (ze hT))) (xb qs) rq)
   ·rcases zY.mp hq with w1 | w1
    ·exact qa q w1
    ·rw[qg.mp w1];exact⟨my,b1,b2,b3,b4⟩
  rintro zs H7 ⟨qs,rq,ql,qa,S7,B7⟩
  rw[zp] at ql
  have B7:BoxAt H7 b (n+800):=B7.mono (by rw[zp];omega)
  have zl:zs.length=as.length:=by rw[rq.len,zp,ql]
  refine⟨by omega,fun D hD=>⟨D,zs,rfl,.inl ⟨SqL.of zb,fun ps hps=>?_⟩⟩⟩
  have sm:=(ze (o:=.lst zs) hD).trans (ze (o:=.tup zs) hps)
  have S8:=(S5'.trans S6).trans (S7.trans (SameB.of (b:=b) sm))
  have B8:=B7.same sm
  have Rk8:=(Rk6.draw S7 nk).same sm
  have P8:Rep K (upd (upd H7 D (.lst zs)) ps (.tup zs)) (.tup (qs.map jC)) (.ref ps):=⟨ps,_,rfl,SqT.of zb,Reps.keep (.of sm) (xb qs) rq⟩
  generalize upd (upd H7 D (.lst zs)) ps (.tup zs)=H8 at sm S8 B8 Rk8 P8
  clear S5' S6 S7 B5 B6 B7 Rk Rk6 rq hD hps pa hl
  refine⟨_,rfl,_,rfl,_,rfl,_,rfl,b,ks,ps,pl,_,kinds,qs,rfl,B8,by omega,nk,Rk8,by omega,by omega,P8,by omega,fun fp fs es H9 S9 B9 F9 fperm ee fl fa=>?_⟩
  have P9:=Rep.keep (d:=.tup (qs.map jC)) (SameT.draw B8 S9) (xb qs) P8
  refine⟨_,rfl,le0,fun t ht=>⟨b,t,_,[],rfl,B9.new ht,by omega,B9.nne ht,zb,qu _,(fun a h=>nomatch h),fun gp H10 S10 B10 gN ga=>?_⟩⟩
  obtain⟨gx,gy,hgp,g1,g2,g3,g4⟩:=ga
  refine⟨_,rfl,b,4,_,rfl,B10,by omega,by decide,by decide,fun hd H11 d0 d1 B11 S11=>⟨_,_,rfl,rfl,_,rfl,_,rfl,_,rfl,_,rfl,b,m,_,rfl,B11,by omega,m0,by omega,fun ap aas ord H12 S12 B12 A12 op bo al2=>⟨leN (by show 5<=1000;decide),fun p hp=>?_⟩⟩⟩
  have t9:SameT H9 H12:=((SameT.of (ze ht)).trans (.draw (B9.new ht) S10)).trans ((SameT.draw B10 S11).trans (.draw B11 S12))
  have t10:SameT H10 H12:=(SameT.draw B10 S11).trans (.draw B11 S12)
  have up:Same H12 (upd H12 p (.tup [.ref gp,.int (1+hd),.ref fp,.ref ps,.ref ap])):=ze hp
  have F12:=Rep.keep (d:=.tup (fs.map xO)) (t9.trans (.of up)) (xT fs) F9
  have P12:=Rep.keep (d:=.tup (qs.map jC)) (t9.trans (.of up)) (xb qs) P9
  have A13:=Rep.keep (d:=Zc aas) (.of up) (qI aas) A12
  have G12:=(t10.trans (.of up)) gp _ hgp (fun xs h=>nomatch h) (fun xs h=>nomatch h)
  have qlm:qs.length=m.toNat:=by omega
  have fk:∀kd∈kinds,∃f∈fs,f.k=kd:=fun kd hkd=>by
   have:=fperm.mem_iff.mpr (ji es hkd)
   obtain⟨f,hf,e⟩:=qo.mp this
   exact⟨f,hf,e⟩
  refine k p ⟨gx,gy,1+hd,fs,qs,aas⟩ ord _ (((S8.trans S9).trans ((SameB.of (ze ht)).trans S10)).trans ((S11.trans S12).new hp)) ((B12.new hp).mono (by omega)) ?_ ?_
  ·exact⟨p,_,rfl,SqT.of zb,_,_,rfl,⟨gp,_,rfl,SqT.of G12,_,_,rfl,rfl,_,_,rfl,rfl,rfl⟩,_,_,rfl,rfl,_,_,rfl,F12,_,_,rfl,P12,_,_,rfl,A13,rfl⟩
  ·refine⟨⟨g1,g2,g3,g4⟩,by show 1<=1+hd;omega,by show 1+hd<=4;omega,fl,fa,by show qs.length<=60;omega,fun q hq=>?_,by show ord.Perm (List.range qs.length);rw[qlm];exact op,bo,al2,?_⟩
   ·obtain⟨hk,hi⟩:=qa q hq
    exact⟨Rk8.2 q.k hk,hi,fk q.k hk⟩
   ·have:=fperm.length_eq
    rw[zp,zW] at this
    show 1<=fs.length
    omega
end
theorem qB{α:Type}{l:List α}{i:Nat}{x:α}(h:l[i]? =some x):l.take (i+1)=l.take i++[x]:=by
 obtain⟨h1,h2⟩:=zQ.mp h
 rw[<- h2,yd]
def zv(os:List Nat):List V:=os.map fun i:Nat=>V.int (i:Int)
theorem zI(os:List Nat):(zv os).length=os.length:=zp ..
theorem Qi(os:List Nat):zv os=(os.map fun i:Nat=>(i:Int)).map V.int:=by unfold zv;rw[wu];rfl
theorem wH:∀os:List Nat,(zv os).all jQ=true
 | []=>rfl
 | o::os=>by
  show(true&&(zv os).all jQ)=true
  rw[wH os];rfl
theorem Z1(k:Nat):∀os:List Nat,inV (.int (k:Int)) (zv os)=decide (k∈os)
 | []=>rfl
 | o::os=>by
  show((o:Int)==(k:Int)||inV (.int (k:Int)) (zv os))=_
  rw[Z1 k os]
  by_cases h:o=k
  ·subst h;simp
  ·have e:((o:Int)==(k:Int))=false:=by simp;omega
   rw[e,Xo,decide_eq_decide]
   exact⟨fun z=>qV _ z,fun z=>(zS.mp z).resolve_left fun y=>h y.symm⟩
theorem JE(k:Nat):∀os:List Nat,((os.map fun i:Nat=>(i:Int)).erase (k:Int))=(os.erase k).map fun i:Nat=>(i:Int)
 | []=>rfl
 | o::os=>by
  rw[jJ,List.erase_cons,List.erase_cons]
  by_cases h:(o==k)=true
  ·have e:((o:Int)==(k:Int))=true:=by
    have:=eq_of_beq h
    simp[this]
   rw[zx h,zx e]
  ·have e:¬((o:Int)==(k:Int))=true:=fun z=>h (by
    have:=eq_of_beq z
    have:o=k:=by omega
    simp[this])
   rw[zq h,zq e,jJ,JE k os]
theorem Vt{os:List Nat}{i:Nat}{x:V}(h:(zv os)[i]? =some x):∃k,os[i]? =some k/\x=.int (k:Int):=by
 unfold zv at h
 rw[qJ] at h
 obtain⟨k,hk,rfl⟩:=qw.mp h
 exact⟨k,hk,rfl⟩
def Early(os:List Nat)(as:List (Nat×Nat)):Prop:=∀p∈as,∀l:Nat,os[l]? =some p.2->∃k:Nat,k<l/\os[k]? =some p.1
theorem Early.snoc{os:List Nat}{as:List (Nat×Nat)}{k:Nat}(h:Early os as)(hk:∀p∈as,p.2=k->p.1∈os):Early (os++[k]) as:=by
 intro p hp l hl
 by_cases hlt:l<os.length
 ·rw[xt hlt] at hl
  obtain⟨j,h1,h2⟩:=h p hp l hl
  exact⟨j,h1,by rw[xt (by omega)];exact h2⟩
 ·have hle:l=os.length:=by
   have:=(zQ.mp hl).1
   rw[zW] at this
   simp at this
   omega
  subst hle
  rw[xu (zG _),wx] at hl
  have e:k=p.2:=by simpa using hl
  obtain⟨j,hj,ej⟩:=QW.mp (hk p hp e.symm)
  exact⟨j,hj,by rw[xt hj,<- ej];simp[hj]⟩
theorem ByOrd.mem1{ord:List Nat}{as:List (Nat×Nat)}(h:ByOrd ord as){p:Nat×Nat}(hp:p∈as):p.1∈ord:=by
 obtain⟨k,l,_,e,_⟩:=h p hp
 exact qG e
theorem ByOrd.mem2{ord:List Nat}{as:List (Nat×Nat)}(h:ByOrd ord as){p:Nat×Nat}(hp:p∈as):p.2∈ord:=by
 obtain⟨k,l,_,_,e⟩:=h p hp
 exact qG e
theorem Early.ord{os ord:List Nat}{as:List (Nat×Nat)}(h:Early os as)(b:ByOrd ord as)(hp:os.Perm ord):ByOrd os as:=by
 intro p hq
 obtain⟨l,hl,el⟩:=QW.mp (hp.mem_iff.mpr (b.mem2 hq))
 have e:os[l]? =some p.2:=by rw[<- el];simp[hl]
 obtain⟨k,h1,h2⟩:=h p hq l e
 exact⟨k,l,h1,h2,e⟩
def qM(left:List Nat)(as:List (Nat×Nat)):List Nat:=(as.filter fun p=>decide (p.1∈left)).map fun p=>p.2
def jG(left:List Nat)(as:List (Nat×Nat)):List Nat:=left.filter fun k=>!decide (k∈qM left as)
theorem Vz{left:List Nat}{as:List (Nat×Nat)}{c:Nat}:c∈qM left as↔∃p∈as,p.1∈left/\p.2=c:=by
 unfold qM
 rw[qo]
 constructor
 ·rintro⟨p,hp,rfl⟩
  obtain⟨h1,h2⟩:=jz.mp hp
  exact⟨p,h1,jA h2,rfl⟩
 ·rintro⟨p,h1,h2,rfl⟩
  exact⟨p,jz.mpr ⟨h1,qv h2⟩,rfl⟩
theorem zaV{left ord:List Nat}{as:List (Nat×Nat)}(b:ByOrd ord as)(nd:ord.Nodup)(hs:∀k∈left,k∈ord)(hne:left≠[]):jG left as≠[]:=by
 have key:∀(n:Nat) (k:Nat),k∈left->(∃i,i<n/\ord[i]? =some k)->∃c∈left,c∉qM left as:=by
  intro n
  induction n with
  | zero=>rintro k _ ⟨i,hi,_⟩;omega
  | succ n ih=>
   rintro k hk ⟨i,hi,ei⟩
   by_cases hl:k∈qM left as
   ·obtain⟨p,hp,h1,rfl⟩:=Vz.mp hl
    obtain⟨x,y,hxy,ex,ey⟩:=b p hp
    have e:y=i:=by
     have h1:=(zQ.mp ei).1
     have h2:=(zQ.mp ey).1
     have h3:ord[y]=ord[i]:=by
      rw[qX h1] at ei
      rw[qX h2] at ey
      exact(jK ey).trans (jK ei).symm
     exact(QH nd).mp h3
    exact ih p.1 h1 ⟨x,by omega,ex⟩
   ·exact⟨k,hk,hl⟩
 obtain⟨k,hk⟩:∃k,k∈left:=by
  cases left with
  | nil=>exact absurd rfl hne
  | cons a r=>exact⟨a,by simp⟩
 obtain⟨i,hi,ei⟩:=QW.mp (hs k hk)
 obtain⟨c,hc,hn⟩:=key (i+1) k hk ⟨i,by omega,by rw[<- ei];simp[hi]⟩
 intro z
 have:c∈jG left as:=jz.mpr ⟨hc,by simp[hn]⟩
 rw[z] at this
 cases this
section
variable{P:Program}{w:World}{K:PySem.W.Frag}{mg:Str->Option Value}{base:Heap}
theorem VE{H:Hp}{J:Job}{jp:Addr}(h:Rep K H (xR J) (.ref jp)):∃g fs ps as:Addr,SqT K H jp [.ref g,.int J.hd,.ref fs,.ref ps,.ref as]/\Rep K H (.tup [.int J.gx,.int J.gy]) (.ref g)/\Rep K H (.tup (J.fs.map xO)) (.ref fs)/\Rep K H (.tup (J.ps.map jC)) (.ref ps)/\Rep K H (Zc J.as) (.ref as):=by
 obtain⟨a,xs,e,q,x0,r0,e0,h0,x1,r1,e1,h1,x2,r2,e2,h2,x3,r3,e3,h3,x4,r4,e4,h4,e5⟩:=h
 cases e
 subst e0 e1 e2 e3 e4
 have e5':r4=[]:=e5
 subst e5'
 have h1':x1=.int J.hd:=h1
 subst h1'
 obtain⟨g,gx,rfl,gq⟩:=h0
 obtain⟨fs,fx,rfl,fq⟩:=h2
 obtain⟨ps,px,rfl,pq⟩:=h3
 obtain⟨as,ax,rfl,aq⟩:=h4
 exact⟨g,fs,ps,as,q,⟨g,gx,rfl,gq⟩,⟨fs,fx,rfl,fq⟩,⟨ps,px,rfl,pq⟩,⟨as,ax,rfl,aq⟩⟩
theorem yH{H:Hp}{ds:List Dat}{a:Addr}(h:Rep K H (.tup ds) (.ref a)):∃xs,SqT K H a xs/\Reps K H ds xs:=by
 obtain⟨a',xs,e,q,r⟩:=h
 cases e
 exact⟨xs,q,r⟩
inductive Jm(K:PySem.W.Frag)(vs:List V)(H:Hp)(Q:VK):Prop
 | mk (b jp:Addr) (J:Job) (ord:List Nat) (n:Int) (_:vs=[.ref b,.ref jp]) (_:BoxAt H b n) (_:n<600000) (_:Rep K H (xR J) (.ref jp)) (_:JobOk J ord) (_:∀(l:Addr) (os:List Nat) H',SameB b H H'->BoxAt H' b (n+60)->l≠b->H l=none->H' l=some (.lst (zv os))->os.Perm (List.range J.ps.length)->ByOrd os J.as->Q (.ref l) H'):Jm K vs H Q
def Yo(K:PySem.W.Frag):Sp:=fun vs H Q _=>Jm K vs H Q
inductive zgY(b jp l0 l1:Addr)(H:Hp)(n:Int)(J:Job)(m:Nat)(σ:St)(H4:Hp):Prop
 | mk (left os:List Nat) (v4 v5:Option V) (_:σ=[some (.ref b),some (.ref jp),some (.ref l0),some (.ref l1),v4,v5]) (_:m=left.length) (_:SameB b H H4) (_:BoxAt H4 b (n+os.length)) (_:H4 l0=some (.lst (zv left))) (_:H4 l1=some (.lst (zv os))) (_:(left++os).Perm (List.range J.ps.length)) (_:Early os J.as):zgY b jp l0 l1 H n J m σ H4
inductive zgZ(b jp l0 l1:Addr)(H:Hp)(n:Int)(J:Job)(left:List Nat)(σ:St)(H4:Hp):Prop
 | mk (left' os:List Nat) (v4 v5:Option V) (_:left'.length<left.length) (_:σ=[some (.ref b),some (.ref jp),some (.ref l0),some (.ref l1),v4,v5]) (_:SameB b H H4) (_:BoxAt H4 b (n+os.length)) (_:H4 l0=some (.lst (zv left'))) (_:H4 l1=some (.lst (zv os))) (_:(left'++os).Perm (List.range J.ps.length)) (_:Early os J.as):zgZ b jp l0 l1 H n J left σ H4
theorem YE:zK ["_law_box_here", "_law_job_here", "_law_left", "_law_found", "_law_late", "_law_free"] ["_law_box_here", "_law_job_here"] (zu (topL 30)):=⟨rfl,rfl,rfl,by decide +kernel,rfl,by decide +kernel,by decide +kernel⟩
theorem zb5{f:Addr}{fd:FuncData}(F:Fun K "_law_order" "_law_order" (topL 30) f fd)(B:Blt mg)(D_take:Dfn P w K mg base "_law_take" 1 ["_law_box_here", "_law_size"] xg):FnOk P w K mg base CX0 2 f fd ["_law_box_here", "_law_job_here"] (Yo K):=by
 have nd:=YE.nd
 refine F.ok YE (fun vs H Q E h=>?_) (fun cdv A outer s H vs Q E hr h=>?_)
 ·obtain⟨b,jp,J,ord,n,rfl,_⟩:=h
  rfl
 ·obtain⟨b,jp,J,ord,n,rfl,B0,hn,rj,jo,k⟩:=h
  have hu:=hr.units0
  have hbig:100000<sizeLine:=by rw[sizeLine_eq];decide
  have pl:=jo.pl
  have al:=jo.al
  obtain⟨g,fs,ps,as,qj,_,_,rp,ra⟩:=VE rj
  obtain⟨pv',qp,rp'⟩:=yH rp
  obtain⟨av,qa,ra'⟩:=yH ra
  have lp:=rp'.len
  rw[zp] at lp
  have la:=ra'.len
  rw[zp] at la
  refine⟨_,(zg (j7 (zX (za (vC rfl rfl B.list rfl B.range jq (za (zo zw rfl B.len boot_len (za (zr zM (pv 1) zf (fun _ _=>rfl)) zd)) zd)) (za (zN zd) zd))) (xi rfl (zR (zy (i:=2) nd rfl (Or.inr rfl)) (zR (zy (i:=3) nd rfl (Or.inl rfl)) jH))))
   (zg (Vm jw (zC (yL hu) (pv 2) (zN zd) (zE _))
   (zg (zD (i:=4) nd rfl (Or.inr rfl) (wa ["_law_left"] [2] rfl rfl (by kernel_rfl) (vZ (zr zM (pv 1) zf (fun _ _=>rfl))) (fun _ _ _ _=>(vg (zC (j9 (K:=K) rfl) (pv 0) (pv 2) (by with_unfolding_all rfl)))) (fun _ _ _ _=>(pv 1))))
    (zg (We ["_law_late"] [4] rfl rfl (by kernel_rfl) (qN (pv 2)) (fun _ _ _ _=>(vg (zC (wT (K:=K) rfl) (pv 0) (pv 1) (by with_unfolding_all rfl)))) (fun _ _ _ _=>(pv 0)) (zy (i:=5) nd rfl (Or.inl rfl)))
    (zg (zU (qZ qW jM jL zV (pv 3) (za (zr zJ (pv 5) (zk D_take (hr.mono (by decide)) rfl (za (pv 0) (za (zo zw rfl B.len boot_len (za (pv 5) zd)) zd))) (fun _ _=>rfl)) zd)))
    (zm (zU (qZ qW PySem.F.slot_list_remove PySem.F.type_list_remove Wr (pv 2) (za (zr zJ (pv 3) (zgq zeN zf) (fun _ _=>rfl)) zd))))))))
   (zm (zH (pv 3))))),?_⟩
  refine⟨_,rfl,jp,_,_,_,rfl,rfl,qj,rfl,ps,_,rfl,.inr qp,_,rfl,by omega,by omega,fun l0 h0=>⟨le0,fun l1 h1=>⟨le2,fun t ht=>?_⟩⟩⟩
  have eN:((List.range ((pv'.length:Int)).toNat).map fun i:Nat=>V.int (i:Int))=zv (List.range J.ps.length):=by
   unfold zv
   rw[show((pv'.length:Int)).toNat=J.ps.length by omega]
  have n0:=B0.nne h0
  have S0:=(SameB.refl b H).new (o:=.lst ((List.range ((pv'.length:Int)).toNat).map fun i:Nat=>V.int (i:Int))) h0
  have B1:=B0.new (o:=.lst ((List.range ((pv'.length:Int)).toNat).map fun i:Nat=>V.int (i:Int))) h0
  have L0:upd H l0 (.lst ((List.range ((pv'.length:Int)).toNat).map fun i:Nat=>V.int (i:Int))) l0=some (.lst (zv (List.range J.ps.length))):=by rw[zb,eN]
  generalize upd H l0 (.lst ((List.range ((pv'.length:Int)).toNat).map fun i:Nat=>V.int (i:Int)))=H1 at S0 B1 L0 h1 ht
  have n1:=B1.nne h1
  have N1:=S0.none h1 n1
  have n01:l0≠l1:=zj L0 h1
  have S1:=S0.new (o:=.lst []) h1
  have B2:=B1.new (o:=.lst []) h1
  have L02:=(ze (o:=.lst []) h1) _ _ L0
  have L1:upd H1 l1 (.lst []) l1=some (.lst []):=zb
  generalize upd H1 l1 (.lst [])=H2 at S1 B2 L02 L1 ht
  have S2:=S1.new (o:=.tup [.ref l0,.ref l1]) ht
  have B3:=B2.new (o:=.tup [.ref l0,.ref l1]) ht
  have L03:=(ze (o:=.tup [.ref l0,.ref l1]) ht) _ _ L02
  have L13:=(ze (o:=.tup [.ref l0,.ref l1]) ht) _ _ L1
  have T3:upd H2 t (.tup [.ref l0,.ref l1]) t=some (.tup [.ref l0,.ref l1]):=zb
  generalize upd H2 t (.tup [.ref l0,.ref l1])=H3 at S2 B3 L03 L13 T3
  refine⟨t,_,rfl,SqT.of T3,rfl,_,_,rfl,_,_,rfl,rfl,?_⟩
  clear S0 S1 B1 B2 L0 L02 L1 ht h1 T3
  refine⟨zgY b jp l0 l1 H n J,
   ⟨_,List.range J.ps.length,[],none,none,rfl,rfl,S2,B3.mono (by simp),L03,L13,by rw[qk],fun p _ l hl=>by simp at hl⟩,?_⟩
  clear S2 B3 L03 L13
  rintro m σ H4 ⟨left,os,v4,v5,rfl,rfl,S4,B4,LL,LO,pm,ea⟩
  have plen:=pm.length_eq
  rw[zW,vd] at plen
  refine⟨_,rfl,le0,fun q hq=>⟨l0,q,_,rfl,rfl,SqL.of ((ze hq) _ _ LL),SqL.of zb,_,rfl,?_⟩⟩
  have S5:=S4.new (o:=.lst []) hq
  have B5:=B4.new (o:=.lst []) hq
  have LL5:=(ze (o:=.lst []) hq) _ _ LL
  have LO5:=(ze (o:=.lst []) hq) _ _ LO
  generalize upd H4 q (.lst [])=H5 at S5 B5 LL5 LO5
  clear S4 B4 LL LO hq
  cases left with
  | nil=>
   refine ifF rfl ⟨_,rfl,k l1 os H5 S5 (B5.mono (by simp at plen;omega)) n1 N1 LO5 (by simpa using pm) (ea.ord jo.bo ?_)⟩
   have:os.Perm (List.range J.ps.length):=by simpa using pm
   exact this.trans jo.op.symm
  | cons c rest=>
   refine ifT rfl ?_
   have hne:c::rest≠[]:=fun z=>by cases z
   generalize c::rest=left at *
   clear c rest
   refine⟨zgZ b jp l0 l1 H n J left,
    fun σ' H' ⟨left',os',v4,v5,hlt,e,a1,a2,a3,a4,a5,a6⟩=>⟨_,hlt,left',os',v4,v5,e,rfl,a1,a2,a3,a4,a5,a6⟩,?_⟩
   have T5:=SameT.trans (SameT.draw B0 S5) (SameT.refl H5)
   have qj5:=qj.keep T5
   have qa5:=qa.keep T5
   have ra5:=ra'.keep T5 (qI J.as)
   refine⟨_,rfl,jp,_,_,_,rfl,rfl,qj5,rfl,as,rfl,⟨_,qa5⟩,wj (K:=K) (a:=as) (xs:=av) (fun i zs H6=>zs=zv (qM left (J.as.take i))/\Same H5 H6) ⟨rfl,Same.refl _⟩ (fun i zs H6 ⟨_,sm⟩=>sm.sqT qa5) ?_ ?_⟩
   ·rintro i x zs H6 hx ⟨rfl,sm⟩
    obtain⟨d,e1,r1⟩:=(ra5.same sm).get hx
    rw[qJ] at e1
    obtain⟨p,ep,rfl⟩:=qw.mp e1
    obtain⟨pa,xs,rfl,qp',y0,r0,f0,g0,y1,r1',f1,g1,f2⟩:=r1
    subst f0 f1
    cases(show r1'=[] from f2)
    cases(show y0=_ from g0)
    cases(show y1=_ from g1)
    have hi:i<J.as.length:=(zQ.mp ep).1
    refine⟨pa,_,rfl,qp',rfl,_,_,rfl,_,_,rfl,rfl,rfl,?_⟩
    refine⟨_,rfl,_,rfl,l0,zv left,rfl,.inl (SqL.of (sm _ _ LL5)),rfl,wH left,_,rfl,?_⟩
    have et:J.as.take (i+1)=J.as.take i++[p]:=qB ep
    have ein:(if false=true then !inV (.int (p.1:Int)) (zv left) else inV (.int (p.1:Int)) (zv left))=decide (p.1∈left):=Z1 p.1 left
    rw[ein]
    refine jD (fun c=>⟨_,rfl,?_,?_,sm⟩) (fun c=>⟨?_,sm⟩)
    ·have:(qM left (J.as.take i)).length<=J.as.length:=by
      unfold qM
      rw[zp]
      refine jj (xr _ _) ?_
      rw[qT];omega
     rw[zI];omega
    ·rw[et]
     unfold qM
     rw[vP,zZ,QK (by exact c)]
     unfold zv
     rw[zZ]
     rfl
    ·rw[et]
     unfold qM
     rw[vP,QJ (by exact c),QN,qk]
   rintro zs H6 ⟨rfl,sm⟩
   have eall:J.as.take av.length=J.as:=by rw[la,jh]
   rw[eall]
   have latel:(qM left J.as).length<=300:=by
    unfold qM
    rw[zp]
    exact jj (xr _ _) al
   refine⟨by rw[zI];omega,fun la' hla=>?_⟩
   have S6:=(S5.trans (SameB.of sm)).new (o:=.lst (zv (qM left J.as))) hla
   have B6:=(B5.same sm).new (o:=.lst (zv (qM left J.as))) hla
   have LL6:=(ze (o:=.lst (zv (qM left J.as))) hla) _ _ (sm _ _ LL5)
   have LO6:=(ze (o:=.lst (zv (qM left J.as))) hla) _ _ (sm _ _ LO5)
   have LA6:upd H6 la' (.lst (zv (qM left J.as))) la'=some (.lst (zv (qM left J.as))):=zb
   generalize upd H6 la' (.lst (zv (qM left J.as)))=H7 at S6 B6 LL6 LO6 LA6
   clear S5 B5 LL5 LO5 sm hla T5 qj5 qa5 ra5
   refine⟨_,rfl,l0,rfl,⟨_,SqL.of LL6⟩,j4 (K:=K) (a:=l0) (xs:=zv left) (fun i zs H8=>zs=zv ((left.take i).filter fun k=>!decide (k∈qM left J.as))/\Same H7 H8) ⟨rfl,Same.refl _⟩ (fun i zs H8 ⟨_,sm⟩=>SqL.of (sm _ _ LL6)) ?_ ?_⟩
   ·rintro i x zs H8 hx ⟨rfl,sm⟩
    obtain⟨c,ec,rfl⟩:=Vt hx
    have hi:i<left.length:=(zQ.mp ec).1
    refine⟨rfl,?_⟩
    refine⟨_,rfl,_,rfl,la',zv (qM left J.as),rfl,.inl (SqL.of (sm _ _ LA6)),rfl,wH _,_,rfl,?_⟩
    have ein:(if true=true then !inV (.int (c:Int)) (zv (qM left J.as)) else inV (.int (c:Int)) (zv (qM left J.as)))=!decide (c∈qM left J.as):=by rw[Z1];rfl
    rw[ein,qB ec]
    refine jD (fun d=>⟨_,rfl,?_,?_,sm⟩) (fun d=>⟨?_,sm⟩)
    ·have:=xr (fun k=>!decide (k∈qM left J.as)) (left.take i)
     rw[qT] at this
     rw[zI];omega
    ·rw[vP,QK (by exact d)]
     unfold zv
     rw[zZ]
     rfl
    ·rw[vP,QJ (by exact d),QN,qk]
   rintro zs H8 ⟨rfl,sm⟩
   have etk:left.take (zv left).length=left:=by rw[zI,jh]
   rw[etk]
   have fre:(left.filter fun k=>!decide (k∈qM left J.as))=jG left J.as:=rfl
   rw[fre]
   have frl:(jG left J.as).length<=left.length:=xr _ _
   refine⟨by rw[zI];omega,fun lf hlf=>?_⟩
   have S7:=(S6.trans (SameB.of sm)).new (o:=.lst (zv (jG left J.as))) hlf
   have B7:=(B6.same sm).new (o:=.lst (zv (jG left J.as))) hlf
   have LL7:=(ze (o:=.lst (zv (jG left J.as))) hlf) _ _ (sm _ _ LL6)
   have LO7:=(ze (o:=.lst (zv (jG left J.as))) hlf) _ _ (sm _ _ LO6)
   have LF7:upd H8 lf (.lst (zv (jG left J.as))) lf=some (.lst (zv (jG left J.as))):=zb
   have nlf:=(B6.same sm).nne hlf
   generalize upd H8 lf (.lst (zv (jG left J.as)))=H9 at S7 B7 LL7 LO7 LF7
   clear S6 B6 LL6 LO6 LA6 sm hlf
   have inr:∀x∈left,x∈ord:=fun x hx=>by
    have h1:=pm.mem_iff.mp (ji os hx)
    exact jo.op.mem_iff.mpr h1
   have ordnd:ord.Nodup:=jo.op.nodup_iff.mpr Zz
   have fne:=zaV jo.bo ordnd inr hne
   have fpos:0<(jG left J.as).length:=XD.mpr fne
   refine⟨_,rfl,.inl ⟨rfl,_,SqL.of LO7⟩,_,rfl,_,rfl,_,rfl,lf,_,rfl,.inl (SqL.of LF7),b,_,_,rfl,B7,by omega,by rw[zI];omega,by rw[zI];omega,fun r Ha r0 r1 Ba Sa=>?_⟩
   rw[zI] at r1
   have hr':r.toNat<(jG left J.as).length:=by omega
   have er:(zv (jG left J.as))[r.toNat]? =some (.int (((jG left J.as)[r.toNat]:Nat):Int)):=by
    unfold zv
    rw[qJ,qX hr']
    rfl
   have er':atI (zv (jG left J.as)) r=some (.int (((jG left J.as)[r.toNat]:Nat):Int)):=by
    have:=zT er
    rwa[show((r.toNat:Nat):Int)=r by omega] at this
   have hcm:=wv hr'
   generalize (jG left J.as)[r.toNat]=c at er er' hcm
   obtain⟨cl,cn⟩:=jz.mp hcm
   have cn':c∉qM left J.as:=by simpa using cn
   have LFa:=Sa _ _ LF7 nlf
   have LOa:=Sa _ _ LO7 n1
   have LLa:=Sa _ _ LL7 n0
   refine⟨lf,_,_,_,rfl,rfl,SqL.of LFa,er',l1,_,_,rfl,rfl,LOa,by rw[zI];omega,?_⟩
   have eO:zv os++[V.int (c:Int)]=zv (os++[c]):=by unfold zv;rw[zZ];rfl
   rw[eO]
   have Sb:=(S7.trans Sa).put (o:=.lst (zv (os++[c]))) N1
   have Bb:=Ba.other (o:=.lst (zv (os++[c]))) n1
   have LOb:upd Ha l1 (.lst (zv (os++[c]))) l1=some (.lst (zv (os++[c]))):=zb
   have LLb:upd Ha l1 (.lst (zv (os++[c]))) l0=some (.lst (zv left)):=by rw[zi n01];exact LLa
   generalize upd Ha l1 (.lst (zv (os++[c])))=Hb at Sb Bb LOb LLb
   have elast:atI (zv (os++[c])) (-1)=some (.int (c:Int)):=by
    have:zv (os++[c])=zv os++[V.int (c:Int)]:=eO.symm
    rw[this]
    exact zcK _ _
   refine⟨_,rfl,.inl ⟨rfl,_,SqL.of LLb⟩,_,rfl,_,rfl,l1,_,_,_,rfl,rfl,SqL.of LOb,elast,l0,left.map fun i:Nat=>(i:Int),(c:Int),rfl,rfl,by rw[LLb,Qi],qo.mpr ⟨c,cl,rfl⟩,?_⟩
   have eE:((left.map fun i:Nat=>(i:Int)).erase (c:Int)).map V.int=zv (left.erase c):=by rw[JE,Qi]
   rw[eE]
   have N0:H l0=none:=h0
   have hlen:(left.erase c).length+1=left.length:=by
    have:=W1 cl
    have:=WW cl
    omega
   refine⟨left.erase c,os++[c],_,_,by omega,rfl,Sb.put N0,(Bb.other n0).mono (by rw[zW];simp;omega),zb,by rw[zi n01.symm];exact LOb,?_,?_⟩
   ·have h1:(left++os).Perm (c::(left.erase c)++os):=(List.perm_cons_erase cl).append_right os
    have h2:(left.erase c++(os++[c])).Perm (c::left.erase c++os):=by
     rw[<- jm]
     exact List.perm_append_comm
    exact(h2.trans h1.symm).trans pm
   ·refine ea.snoc fun p hp e=>?_
    have h1:p.1∈left++os:=pm.mem_iff.mpr (jo.op.mem_iff.mp (jo.bo.mem1 hp))
    rcases zY.mp h1 with z | z
    ·exact absurd (Vz.mpr ⟨p,hp,z,e⟩) cn'
    ·exact z
end
structure jW where
 pk:List (Nat×Nat)
 ly:List Nat
def zce(k:Nat):Dat:=.int (k:Int)
def vT(t:jW):Dat:=.tup [.tup (t.pk.map xc),.tup (t.ly.map zce)]
theorem Vs:∀(l:List Nat),Dat.imms (l.map zce)=true
 | []=>rfl
 | k::l=>by
  show(true&&Dat.imms (l.map zce))=true
  rw[Vs l];rfl
theorem Je(t:jW):(vT t).imm=true:=by
 show(Dat.imms (t.pk.map xc)&&(Dat.imms (t.ly.map zce)&&true))=true
 rw[qI,Vs];rfl
theorem xa:∀(l:List jW),Dat.imms (l.map vT)=true
 | []=>rfl
 | t::l=>by
  show((vT t).imm&&Dat.imms (l.map vT))=true
  rw[Je,xa l];rfl
section
variable{P:Program}{w:World}{K:PySem.W.Frag}{mg:Str->Option Value}{base:Heap}
theorem Reps.perm{H:Hp}{α:Type}{f:α->Dat}{ys xs:List V}(h:ys.Perm xs):∀{as:List α},Reps K H (as.map f) xs->∃bs:List α,bs.Perm as/\Reps K H (bs.map f) ys:=by
 induction h with
 | nil=>intro as h;exact⟨as,List.Perm.refl _,h⟩
 | cons x hp ih=>
  intro as h
  cases as with
  | nil=>cases(show _=[] from h)
  | cons a as=>
   obtain⟨y,r,e,h1,h2⟩:=h
   cases e
   obtain⟨bs,p,q⟩:=ih h2
   exact⟨a::bs,p.cons a,⟨_,_,rfl,h1,q⟩⟩
 | swap x y l=>
  intro as h
  cases as with
  | nil=>cases(show _=[] from h)
  | cons a as=>
   obtain⟨u,r,e,h1,h2⟩:=h
   cases e
   cases as with
   | nil=>cases(show _=[] from h2)
   | cons c as=>
    obtain⟨u,r,e,h3,h4⟩:=h2
    cases e
    exact⟨c::a::as,List.Perm.swap a c as,⟨_,_,rfl,h3,_,_,rfl,h1,h4⟩⟩
 | trans h1 h2 ih1 ih2=>
  intro as h
  obtain⟨bs,p,q⟩:=ih2 h
  obtain⟨cs,p',q'⟩:=ih1 q
  exact⟨cs,p'.trans p,q'⟩
theorem Jt{H:Hp}:∀(l:List Nat),Reps K H (l.map zce) (zv l)
 | []=>rfl
 | k::l=>⟨_,_,rfl,rfl,Jt l⟩
theorem Zo{H:Hp}{p:Nat×Nat}{x:V}(h:Rep K H (xc p) x):∃a,x=.ref a/\SqT K H a [.int p.1,.int p.2]:=by
 obtain⟨pa,xs,rfl,qp',y0,r0,f0,g0,y1,r1',f1,g1,f2⟩:=h
 subst f0 f1
 cases(show r1'=[] from f2)
 cases(show y0=_ from g0)
 cases(show y1=_ from g1)
 exact⟨pa,rfl,qp'⟩
inductive X1(K:PySem.W.Frag)(vs:List V)(H:Hp)(Q:VK):Prop
 | mk (b pk:Addr) (n:Int) (xs:List V) (ps:List (Nat×Nat)) (_:vs=[.ref b,.ref pk]) (_:BoxAt H b n) (_:n<900000) (_:pk≠b) (_:H pk=some (.lst xs)) (_:Reps K H (ps.map xc) xs) (_:ps.length<=1000) (_:∀(p:Addr) (sh:List (Nat×Nat)) H',SameB b H H'->BoxAt H' b (n+ps.length)->sh.Perm ps->Rep K H' (vT ⟨sh,ps.map (·.1)⟩) (.ref p)->Q (.ref p) H'):X1 K vs H Q
def zbk(K:PySem.W.Frag):Sp:=fun vs H Q _=>X1 K vs H Q
theorem zbv:zK ["_law_box_here", "_law_picks"] ["_law_box_here", "_law_picks"] (zu (topL 31)):=⟨rfl,rfl,rfl,by decide +kernel,rfl,by decide +kernel,by decide +kernel⟩
theorem zdp{f:Addr}{fd:FuncData}(F:Fun K "_law_trip" "_law_trip" (topL 31) f fd)(B:Blt mg)(D_shuffled:Dfn P w K mg base "_law_shuffled" 2 ["_law_box_here", "_law_some"] (JW K)):FnOk P w K mg base CX0 3 f fd ["_law_box_here", "_law_picks"] (zbk K):=by
 have nd:=zbv.nd
 refine F.ok zbv (fun vs H Q E h=>?_) (fun cdv A outer s H vs Q E hr h=>?_)
 ·obtain⟨b,pk,n,xs,ps,rfl,_⟩:=h
  rfl
 ·obtain⟨b,pk,n,xs,ps,rfl,B0,hn,npb,hp,rp,lp,k⟩:=h
  have hbig:100000<sizeLine:=by rw[sizeLine_eq];decide
  have lx:xs.length=ps.length:=by have:=rp.len;rwa[zp] at this
  refine⟨_,(zm (zH (zX (za (jc jY rfl B.tuple jB (za (zk D_shuffled (hr.mono (by decide)) rfl (za (pv 0) (za (pv 1) zd))) zd)) (za (jc jY rfl B.tuple jB (za (wa [] [] rfl rfl (by kernel_rfl) (qN (pv 1)) (fun _ _ _ _=>jF) (fun _ _ _ _=>(pv 0))) zd)) zd))))),?_⟩
  refine⟨_,rfl,_,rfl,b,pk,n,xs,rfl,B0,by omega,npb,hp,by omega,fun l ys H1 S1 B1 nl hl hL pm=>?_⟩
  have T1:=SameT.draw B0 S1
  obtain⟨sh,shp,rsh⟩:=Reps.perm pm (rp.keep T1 (qI ps))
  have rp1:=rp.keep T1 (qI ps)
  refine⟨l,ys,rfl,.inl ⟨SqL.of hL,fun t1 ht1=>?_⟩⟩
  have s1:=ze (o:=.tup ys) ht1
  have hp2:=s1 _ _ (S1 _ _ hp npb)
  have rp2:=rp1.same s1
  have rsh2:=rsh.same s1
  have t12:upd H1 t1 (.tup ys) t1=some (.tup ys):=zb
  have S2:=S1.new (o:=.tup ys) ht1
  have B2:=B1.new (o:=.tup ys) ht1
  generalize upd H1 t1 (.tup ys)=H2 at s1 hp2 rp2 rsh2 t12 S2 B2
  refine⟨_,rfl,pk,rfl,⟨_,SqL.of hp2⟩,j4 (K:=K) (a:=pk) (xs:=xs) (fun i zs H3=>zs=zv ((ps.map (·.1)).take i)/\Same H2 H3) ⟨rfl,Same.refl _⟩ (fun i zs H3 ⟨_,sm⟩=>SqL.of (sm _ _ hp2)) ?_ ?_⟩
  ·rintro i x zs H3 hx ⟨rfl,sm⟩
   obtain⟨d,e1,r1⟩:=(rp2.same sm).get hx
   rw[qJ] at e1
   obtain⟨p,ep,rfl⟩:=qw.mp e1
   obtain⟨pa,rfl,qp⟩:=Zo r1
   have hi:i<ps.length:=(zQ.mp ep).1
   refine⟨pa,_,rfl,qp,rfl,_,_,rfl,_,_,rfl,rfl,rfl,?_⟩
   refine⟨_,rfl,?_,?_,sm⟩
   ·rw[zI,qT,zp];omega
   ·have ep':(ps.map (·.1))[i]? =some p.1:=by rw[qJ,ep];rfl
    rw[qB ep']
    unfold zv
    rw[zZ]
    rfl
  rintro zs H3 ⟨rfl,sm⟩
  have etk:(ps.map (·.1)).take xs.length=ps.map (·.1):=by rw[lx,<- zp (f:=(·.1)),jh]
  rw[etk]
  refine⟨by rw[zI,zp];omega,fun l2 hl2=>⟨l2,_,rfl,.inl ⟨SqL.of zb,fun t2 ht2=>⟨le2,fun q hq=>?_⟩⟩⟩⟩
  have s2:=(sm.trans (ze (o:=.lst (zv (ps.map (·.1)))) hl2)).trans (ze (o:=.tup (zv (ps.map (·.1)))) ht2)
  have s3:=s2.trans (ze (o:=.tup [.ref t1,.ref t2]) hq)
  refine k q sh _ (S2.trans (SameB.of s3)) (B2.same s3 |>.mono (by omega)) shp ?_
  refine⟨q,_,rfl,SqT.of zb,_,_,rfl,⟨t1,ys,rfl,SqT.of (s3 _ _ t12),rsh2.same s3⟩,_,_,rfl,⟨t2,_,rfl,SqT.of ((ze hq) _ _ zb),Jt _⟩,rfl⟩
end
def Q4(J:Job)(p:Nat×Nat):Prop:=∃pa fe,J.ps[p.1]? =some pa/\J.fs[p.2]? =some fe/\fe.k=pa.k
structure XR(J:Job)(t:jW):Prop where
 p1:1<=t.pk.length
 p2:(t.pk.length:Int)<=J.hd
 ok:∀p∈t.pk,Q4 J p
 ly:t.ly.Perm (t.pk.map (·.1))
def jg(ts:List jW):List Nat:=ts.flatMap (·.ly)
theorem va(ts:List jW)(t:jW):jg (ts++[t])=jg ts++t.ly:=by
 unfold jg
 rw[XC]
 simp
def vm(ts:List jW):List (Nat×Nat):=ts.flatMap (·.pk)
theorem Qf(ts:List jW)(t:jW):vm (ts++[t])=vm ts++t.pk:=by
 unfold vm
 rw[XC]
 simp
structure StL(J:Job)(st:List Int)(l:List (Nat×Nat)):Prop where
 len:st.length=J.fs.length
 nn:∀(f:Nat) (z:Int),st[f]? =some z->0<=z
 cnt:∀(f:Nat) (z:Int) (fe:vw),st[f]? =some z->J.fs[f]? =some fe->z=fe.m-((l.map (·.2)).count f:Int)
theorem StL.nil{J:Job}(h:∀f∈J.fs,0<=f.m):StL J (J.fs.map (·.m)) []:=by
 refine⟨zp ..,fun f z e=>?_,fun f z fe e ef=>?_⟩
 ·rw[qJ] at e
  obtain⟨x,ex,rfl⟩:=qw.mp e
  exact h x (qG ex)
 ·rw[qJ,ef] at e
  cases e
  show fe.m=fe.m-((0:Nat):Int)
  omega
theorem StL.perm{J:Job}{st:List Int}{l l':List (Nat×Nat)}(s:StL J st l)(p:l.Perm l'):StL J st l':=⟨s.len,s.nn,fun f z fe e ef=>by rw[<- (p.map (·.2)).count_eq];exact s.cnt f z fe e ef⟩
theorem StL.take{J:Job}{st:List Int}{l:List (Nat×Nat)}(s:StL J st l){c f:Nat}{z:Int}(e:st[f]? =some z)(h:0<z):StL J (st.set f (z-1)) (l++[(c,f)]):=by
 refine⟨by rw[w8];exact s.len,fun g y eg=>?_,fun g y fe eg ef=>?_⟩
 ·rw[WK] at eg
  split at eg
  ·split at eg
   ·cases eg;omega
   ·cases eg
  ·exact s.nn g y eg
 ·rw[zZ,List.count_append]
  show _=_-((_+[f].count g:Nat):Int)
  rw[WK] at eg
  split at eg
  ·split at eg
   ·cases eg
    rename_i x _
    subst x
    have:=s.cnt f z fe e ef
    rw[List.count_singleton_self]
    omega
   ·cases eg
  ·rename_i x
   have:=s.cnt g y fe eg ef
   rw[List.count_eq_zero_of_not_mem (a:=g) (l:=[f]) (fun z=>x (qg.mp z).symm)]
   omega
structure XS(J:Job)(os:List Nat)(ts:List jW):Prop where
 tr:∀t∈ts,XR J t
 sub:(jg ts).Sublist os
 len:ts.length<=60
 cl:∀p∈J.as,p.2∈jg ts->p.1∈jg ts
 stk:∃st,StL J st (vm ts)
structure PlC(J:Job)(ou laid pre:List Nat):Prop where
 a1:∀x∈pre,x∈laid\/x∈ou
 a2:∀p∈J.as,p.2∈laid->p.1∈laid
theorem PlC.out{J:Job}{ou laid pre:List Nat}{c:Nat}(h:PlC J ou laid pre):PlC J (ou++[c]) laid (pre++[c]):=⟨fun x hx=>by
 rcases zY.mp hx with z | z
 ·exact(h.a1 x z).imp id fun y=>ji _ y
 ·exact .inr (qH _ z),h.a2⟩
theorem PlC.lay{J:Job}{ou laid os:List Nat}{c i:Nat}(h:PlC J ou laid (os.take i))(ec:os[i]? =some c)(nd:os.Nodup)(bo:ByOrd os J.as)(hc:∀p∈J.as,p.2=c->p.1∉ou):PlC J ou (laid++[c]) (os.take i++[c]):=⟨fun x hx=>by
 rcases zY.mp hx with z | z
 ·exact(h.a1 x z).imp (fun y=>ji _ y) id
 ·exact .inl (qH _ z),fun p hp hl=>by
 rcases zY.mp hl with z | z
 ·exact ji _ (h.a2 p hp z)
 ·have e:p.2=c:=qg.mp z
  obtain⟨k,l,kl,e1,e2⟩:=bo p hp
  have il:l=i:=by
   obtain⟨h1,g1⟩:=zQ.mp e2
   obtain⟨h2,g2⟩:=zQ.mp ec
   exact(QH nd).mp (g1.trans (e.trans g2.symm))
  have:p.1∈os.take i:=List.mem_iff_getElem?.mpr ⟨k,by rw[List.getElem?_take,zx (by omega)];exact e1⟩
  rcases h.a1 _ this with y | y
  ·exact ji _ y
  ·exact absurd y (hc p hp e)⟩
section
variable{P:Program}{w:World}{K:PySem.W.Frag}{mg:Str->Option Value}{base:Heap}
structure PlS(K:PySem.W.Frag)(H:Hp)(b ls lf lp lo lq:Addr)(st:List Int)(tr pk:List V)(ou os:List Nat)(ts:List jW)(pks:List (Nat×Nat))(H':Hp)(n:Int):Prop where
 s:SameB b H H'
 bx:BoxAt H' b n
 nb:ls≠b/\lf≠b/\lp≠b/\lo≠b/\lq≠b
 nn:ls≠lf/\ls≠lp/\ls≠lo/\ls≠lq/\lf≠lp/\lf≠lo/\lf≠lq/\lp≠lo/\lp≠lq/\lo≠lq
 hN:H ls=none/\H lf=none/\H lp=none/\H lo=none
 hs:H' ls=some (.lst (st.map V.int))
 hf:H' lf=some (.lst tr)
 hp:H' lp=some (.lst pk)
 ho:H' lo=some (.lst (zv ou))
 hq:H' lq=some (.lst (zv os))
 rt:Reps K H' (ts.map vT) tr
 rk:Reps K H' (pks.map xc) pk
variable{H H' H'':Hp}{b ls lf lp lo lq:Addr}{st:List Int}{tr pk:List V}{ou os:List Nat}{ts:List jW}{pks:List (Nat×Nat)}{n m:Int}
theorem PlS.draw(g:PlS K H b ls lf lp lo lq st tr pk ou os ts pks H' n)(S:SameB b H' H'')(B:BoxAt H'' b m):PlS K H b ls lf lp lo lq st tr pk ou os ts pks H'' m:=by
 obtain⟨n1,n2,n3,n4,n5⟩:=g.nb
 have T:=SameT.draw g.bx S
 exact⟨g.s.trans S,B,g.nb,g.nn,g.hN,S _ _ g.hs n1,S _ _ g.hf n2,S _ _ g.hp n3,S _ _ g.ho n4,S _ _ g.hq n5,g.rt.keep T (xa ts),g.rk.keep T (qI pks)⟩
theorem PlS.same(g:PlS K H b ls lf lp lo lq st tr pk ou os ts pks H' n)(S:Same H' H''):PlS K H b ls lf lp lo lq st tr pk ou os ts pks H'' n:=g.draw (SameB.of S) (g.bx.same S)
theorem PlS.new{q:Addr}{o:HO}(g:PlS K H b ls lf lp lo lq st tr pk ou os ts pks H' n)(h:H' q=none):PlS K H b ls lf lp lo lq st tr pk ou os ts pks (upd H' q o) n:=g.same (ze h)
theorem PlS.mono(g:PlS K H b ls lf lp lo lq st tr pk ou os ts pks H' n)(h:n<=m):PlS K H b ls lf lp lo lq st tr pk ou os ts pks H' m:=⟨g.s,g.bx.mono h,g.nb,g.nn,g.hN,g.hs,g.hf,g.hp,g.ho,g.hq,g.rt,g.rk⟩
theorem PlS.putO{ou':List Nat}(g:PlS K H b ls lf lp lo lq st tr pk ou os ts pks H' n):PlS K H b ls lf lp lo lq st tr pk ou' os ts pks (upd H' lo (.lst (zv ou'))) n:=by
 obtain⟨n1,n2,n3,n4,n5⟩:=g.nb
 obtain⟨a1,a2,a3,a4,a5,a6,a7,a8,a9,a10⟩:=g.nn
 have T:=SameT.put (ys:=zv ou') g.ho
 exact⟨g.s.put g.hN.2.2.2,g.bx.other n4,g.nb,g.nn,g.hN,by rw[zi a3];exact g.hs,by rw[zi a6];exact g.hf,by rw[zi a8];exact g.hp,zb,by rw[zi a10.symm];exact g.hq,g.rt.keep T (xa ts),g.rk.keep T (qI pks)⟩
theorem PlS.putS{st':List Int}(g:PlS K H b ls lf lp lo lq st tr pk ou os ts pks H' n):PlS K H b ls lf lp lo lq st' tr pk ou os ts pks (upd H' ls (.lst (st'.map V.int))) n:=by
 obtain⟨n1,n2,n3,n4,n5⟩:=g.nb
 obtain⟨a1,a2,a3,a4,a5,a6,a7,a8,a9,a10⟩:=g.nn
 have T:=SameT.put (ys:=st'.map V.int) g.hs
 exact⟨g.s.put g.hN.1,g.bx.other n1,g.nb,g.nn,g.hN,zb,by rw[zi a1.symm];exact g.hf,by rw[zi a2.symm];exact g.hp,by rw[zi a3.symm];exact g.ho,by rw[zi a4.symm];exact g.hq,g.rt.keep T (xa ts),g.rk.keep T (qI pks)⟩
theorem PlS.putF{v:V}{t:jW}(g:PlS K H b ls lf lp lo lq st tr pk ou os ts pks H' n)(hv:Rep K H' (vT t) v):PlS K H b ls lf lp lo lq st (tr++[v]) pk ou os (ts++[t]) pks (upd H' lf (.lst (tr++[v]))) n:=by
 obtain⟨n1,n2,n3,n4,n5⟩:=g.nb
 obtain⟨a1,a2,a3,a4,a5,a6,a7,a8,a9,a10⟩:=g.nn
 have T:=SameT.put (ys:=tr++[v]) g.hf
 refine⟨g.s.put g.hN.2.1,g.bx.other n2,g.nb,g.nn,g.hN,by rw[zi a1];exact g.hs,zb,by rw[zi a5.symm];exact g.hp,by rw[zi a6.symm];exact g.ho,by rw[zi a7.symm];exact g.hq,?_,g.rk.keep T (qI pks)⟩
 rw[zZ]
 exact Reps.snoc (hv.keep T (Je t)) (g.rt.keep T (xa ts))
theorem PlS.putP{v:V}{p:Nat×Nat}(g:PlS K H b ls lf lp lo lq st tr pk ou os ts pks H' n)(hv:Rep K H' (xc p) v):PlS K H b ls lf lp lo lq st tr (pk++[v]) ou os ts (pks++[p]) (upd H' lp (.lst (pk++[v]))) n:=by
 obtain⟨n1,n2,n3,n4,n5⟩:=g.nb
 obtain⟨a1,a2,a3,a4,a5,a6,a7,a8,a9,a10⟩:=g.nn
 have T:=SameT.put (ys:=pk++[v]) g.hp
 refine⟨g.s.put g.hN.2.2.1,g.bx.other n3,g.nb,g.nn,g.hN,by rw[zi a2];exact g.hs,by rw[zi a5];exact g.hf,zb,by rw[zi a8.symm];exact g.ho,by rw[zi a9.symm];exact g.hq,g.rt.keep T (xa ts),?_⟩
 rw[zZ]
 exact Reps.snoc (hv.keep T (by rfl)) (g.rk.keep T (qI pks))
theorem PlS.newP{q:Addr}(g:PlS K H b ls lf lp lo lq st tr pk ou os ts pks H' n)(h:H' q=none):PlS K H b ls lf q lo lq st tr [] ou os ts [] (upd H' q (.lst [])) n:=by
 obtain⟨n1,n2,n3,n4,n5⟩:=g.nb
 obtain⟨a1,a2,a3,a4,a5,a6,a7,a8,a9,a10⟩:=g.nn
 have g':=g.new (o:=.lst []) h
 have nq:=g.bx.nne h
 exact⟨g'.s,g'.bx,⟨n1,n2,nq,n4,n5⟩,⟨a1,zj g.hs h,a3,a4,zj g.hf h,a6,a7,(zj g.ho h).symm,(zj g.hq h).symm,a10⟩,⟨g.hN.1,g.hN.2.1,g.s.none h nq,g.hN.2.2.2⟩,g'.hs,g'.hf,zb,g'.ho,g'.hq,g'.rt,rfl⟩
end
inductive zfV(t:TT)(σ:St)(H:Hp)(Q:Bool->Hp->Prop):Prop
 | mk (J:Bool->Hp->Prop) (_:t σ H J) (_:∀c H',J c H'->Q c H'):zfV t σ H Q
theorem YK{X:Cx}{e:Expr}{t:TT}(h:PT X e t):PT X e (zfV t):=by
 intro pins s σ H Q I hw
 obtain⟨J,q1,q2⟩:=hw
 exact thn (h pins s σ H J I q1) fun c s1 ⟨H1,I1,q⟩=>⟨H1,I1,q2 _ _ q⟩
section
variable{P:Program}{w:World}{K:PySem.W.Frag}{mg:Str->Option Value}{base:Heap}
theorem vp{H:Hp}{p:vw}{x:V}(h:Rep K H (xO p) x):∃a c,x=.ref a/\SqT K H a [.str p.k,.ref c,.int p.m]/\SqT K H c [.int p.x,.int p.y]:=by
 obtain⟨a,xs,rfl,q,y0,r0,f0,g0,y1,r1,f1,g1,y2,r2,f2,g2,f3⟩:=h
 subst f0 f1 f2
 cases(show r2=[] from f3)
 cases(show y0=_ from g0)
 cases(show y2=_ from g2)
 obtain⟨c,ys,rfl,q',z0,s0,e0,i0,z1,s1,e1,i1,e2⟩:=g1
 subst e0 e1
 cases(show s1=[] from e2)
 cases(show z0=_ from i0)
 cases(show z1=_ from i1)
 exact⟨a,c,rfl,q,q'⟩
theorem xS{H:Hp}{p:xo}{x:V}(h:Rep K H (jC p) x):∃a c,x=.ref a/\SqT K H a [.str p.k,.ref c]/\SqT K H c [.int p.x,.int p.y]:=by
 obtain⟨a,xs,rfl,q,y0,r0,f0,g0,y1,r1,f1,g1,f3⟩:=h
 subst f0 f1
 cases(show r1=[] from f3)
 cases(show y0=_ from g0)
 obtain⟨c,ys,rfl,q',z0,s0,e0,i0,z1,s1,e1,i1,e2⟩:=g1
 subst e0 e1
 cases(show s1=[] from e2)
 cases(show z0=_ from i0)
 cases(show z1=_ from i1)
 exact⟨a,c,rfl,q,q'⟩
theorem vJ{H:Hp}{α:Type}{f:α->Dat}{as:List α}{xs:List V}(h:Reps K H (as.map f) xs){i:Nat}{a:α}(hi:as[i]? =some a):∃v,xs[i]? =some v/\Rep K H (f a) v:=by
 have hl:=h.len
 rw[zp] at hl
 have hlt:i<xs.length:=by have:=(zQ.mp hi).1;omega
 obtain⟨d,e,r⟩:=h.get (i:=i) (x:=xs[i]) (by simp[hlt])
 rw[qJ,hi] at e
 cases e
 exact⟨xs[i],by simp[hlt],r⟩
inductive X4(K:PySem.W.Frag)(vs:List V)(H:Hp)(Q:VK):Prop
 | mk (b jp:Addr) (J:Job) (ord:List Nat) (most n:Int) (_:vs=[.ref b,.ref jp,.int most]) (_:BoxAt H b n) (_:n<500000) (_:Rep K H (xR J) (.ref jp)) (_:JobOk J ord) (_:0<=most) (_:most<=100) (_:∀(l:Addr) (os:List Nat) (ts:List jW) (tr:List V) H',SameB b H H'->BoxAt H' b (n+1000)->l≠b->H l=none->H' l=some (.lst tr)->Reps K H' (ts.map vT) tr->os.Perm (List.range J.ps.length)->ByOrd os J.as->XS J os ts->Q (.ref l) H'):X4 K vs H Q
def zbm(K:PySem.W.Frag):Sp:=fun vs H Q _=>X4 K vs H Q
theorem zbz:zK ["_law_box_here", "_law_job_here", "_law_most", "_law_stock", "_law_found", "_law_picks", "_law_out", "_law_part", "_law_some", "_law_lost", "_law_at"] ["_law_box_here", "_law_job_here", "_law_most"] (zu (topL 32)):=⟨rfl,rfl,rfl,by decide +kernel,rfl,by decide +kernel,by decide +kernel⟩
def zaj(b:_)(jp:_)(most:_)(ls:_)(lf:_)(lo:_)(K:_)(H:_)(lq:_)(os:List Nat)(n:_)(J:Job):=fun(i:Nat) (σ:St) (H':Hp)=>(zg3 fun(lp:Addr) (v7 v8 v9 v10:Option V) (st:List Int) (tr pk:List V) (ou:List Nat) (ts:List jW) (pks:List (Nat×Nat))=>zg5 (σ=[some (.ref b),some (.ref jp),some (.int most),some (.ref ls),some (.ref lf),some (.ref lp),some (.ref lo),v7,v8,v9,v10]) (PlS K H b ls lf lp lo lq st tr pk ou os ts pks H' (n+60+10*i)) (StL J st (vm ts++pks)) ((∀t∈ts,XR J t)) ((∀p∈pks,Q4 J p)) ((pks.length:Int)<J.hd) ((jg ts++pks.map (·.1)).Sublist (os.take i)) (ts.length+pks.length<=i) (ou.length<=i) (PlC J ou (jg ts++pks.map (·.1)) (os.take i)):Prop)
def zai(J:Job)(pa:xo)(st:List Int)(H8:_):=fun(i':Nat) (zs:List V) (H9:Hp)=>(Ex1 fun(ks:List Nat)=>An4 (zs=zv ks) (ks.length<=i') ((∀k'∈ks,∃fe,J.fs[k']? =some fe/\fe.k=pa.k/\∃z,st[k']? =some z/\0<z)) (Same H8 H9):Prop)
theorem zds{f:Addr}{fd:FuncData}(F:Fun K "_law_plan" "_law_plan" (topL 32) f fd)(B:Blt mg)(D_take:Dfn P w K mg base "_law_take" 1 ["_law_box_here", "_law_size"] xg)(D_order:Dfn P w K mg base "_law_order" 2 ["_law_box_here", "_law_job_here"] (Yo K))(D_trip:Dfn P w K mg base "_law_trip" 3 ["_law_box_here", "_law_picks"] (zbk K)):FnOk P w K mg base CX0 4 f fd ["_law_box_here", "_law_job_here", "_law_most"] (zbm K):=by
 have nd:=zbz.nd
 refine F.ok zbz (fun vs H Q E h=>?_) (fun cdv A outer s H vs Q E hr h=>?_)
 ·obtain⟨b,jp,J,ord,most,n,rfl,_⟩:=h
  rfl
 ·obtain⟨b,jp,J,ord,most,n,rfl,B0,hn,rj,jo,mo0,mo1,k⟩:=h
  have hu:=hr.units0
  have hbig:100000<sizeLine:=by rw[sizeLine_eq];decide
  have pl:=jo.pl
  have al:=jo.al
  have fl:=jo.fl
  have hd0:=jo.hd0
  have hd1:=jo.hd1
  obtain⟨g,fs,ps,as,qj,_,rf,rp,ra⟩:=VE rj
  obtain⟨fv,qf,rf'⟩:=yH rf
  obtain⟨pv',qp,rp'⟩:=yH rp
  obtain⟨av,qa,ra'⟩:=yH ra
  have lfv:=rf'.len
  rw[zp] at lfv
  have lp:=rp'.len
  rw[zp] at lp
  have la:=ra'.len
  rw[zp] at la
  refine⟨_,(zg (zD (i:=3) nd rfl (Or.inr rfl) (j8 [] [] rfl rfl (by kernel_rfl) (vZ (zr zM (pv 1) zf (fun _ _=>rfl))) (fun _ _ _ _=>jF) (fun _ _ _ _=>(zr (jt (K:=K) rfl) (pv 0) zf (fun _ _=>rfl)))))
   (zg (j7 (zX (za (zN zd) (za (zN zd) (za (zN zd) zd)))) (xi rfl (zR (zy (i:=4) nd rfl (Or.inl rfl)) (zR (zy (i:=5) nd rfl (Or.inl rfl)) (zR (zy (i:=6) nd rfl (Or.inr rfl)) jH)))))
   (zg (qO jw rfl (qN (zk D_order (hr.mono (by decide)) rfl (za (pv 0) (za (pv 1) zd)))) (zy (i:=7) nd rfl (Or.inr rfl))
   (zg (ze7 ["_law_stock", "_law_part", "_law_job_here"] [3,7,1] rfl rfl (by kernel_rfl) (zbT rfl B.enumerate (za (zr zM (pv 1) zf (fun _ _=>rfl)) zd)) (fun _ _ _ _=>(vg (PW.pt (J3 (zC ja (zr (jt (K:=K) rfl) (pv 1) zf (fun _ _=>rfl)) (zr (jt (K:=K) rfl) (zr (jt (K:=K) rfl) (zr (jt (K:=K) rfl) (pv 4) zf (fun _ _=>rfl)) (pv 3) (fun _ _=>rfl)) zf (fun _ _=>rfl)) (zE _)) (ZY (zC Jr (zr (yQ (K:=K) rfl) (pv 2) (pv 0) (fun _ _=>rfl)) zf (zE _))))))) (fun _ _ _ _=>(pv 0)) (zy (i:=8) nd rfl (Or.inl rfl)))
    (zg (xQ (zD (i:=9) nd rfl (Or.inl rfl) (zgr (qL (Vp hu) (pv 8) (zN zd) (zE _)) (xV (zo (wP rfl) rfl B.any yY (za (wa ["_law_part", "_law_out"] [7,6] rfl rfl (by kernel_rfl) (vZ (zr zM (pv 1) zf (fun _ _=>rfl))) (fun _ _ _ _=>jF) (fun _ _ _ _=>(xW (qL ja (pv 1) (pv 2) (zE _)) (xV (qL (j9 (K:=K) rfl) (pv 0) (pv 3) (by with_unfolding_all rfl)))))) zd))))))
    (zg (xQ (qY (YK (PW.pt (yI (jV (pv 9)) (vX (PW.pt (J3 (zC Jr (pv 2) zf (zE _)) (ZY (zC ja (zk D_take (hr.mono (by decide)) rfl (za (pv 0) (za (pv 2) zd))) zf (zE _)))))))))
    (zm (zU (qZ qW jM jL zV (pv 6) (za (pv 7) zd))))
    (zg (zD (i:=10) nd rfl (Or.inl rfl) (zr zJ (pv 8) (zk D_take (hr.mono (by decide)) rfl (za (pv 0) (za (zo zw rfl B.len boot_len (za (pv 8) zd)) zd))) (fun _ _=>rfl)))
     (zg (j7 (zB xN (zr zJ (pv 3) (pv 10) (fun _ _=>rfl)) zf) (vB (pv 3) (pv 10) xh))
     (zm (zU (qZ qW jM jL zV (pv 5) (za (zX (za (pv 7) (za (pv 10) zd))) zd))))))))
    (zm (qY (YK (PW.pt (J3 (zC (yL hu) (pv 5) (zN zd) (zE _)) (ZY (PW.pt (yI (zC ja (zo zw rfl B.len boot_len (za (pv 5) zd)) (zr zM (pv 1) zf (fun _ _=>rfl)) (zE _)) (vX (zC ja (zk D_take (hr.mono (by decide)) rfl (za (pv 0) (za zf zd))) zf (zE _)))))))))
    (zg (zU (qZ qW jM jL zV (pv 4) (za (zk D_trip (hr.mono (by decide)) rfl (za (pv 0) (za (pv 5) zd))) zd)))
     (zm (zD (i:=5) nd rfl (Or.inl rfl) (zN zd))))
    qK))))))
   (zm (zH (zB Zp (pv 4) (zB zfg (zN (za (zk D_trip (hr.mono (by decide)) rfl (za (pv 0) (za (pv 5) zd))) zd)) (jc wO rfl B.int vq (za (qL (yL hu) (pv 5) (zN zd) (zE _)) zd))))))))),?_⟩
  refine⟨_,rfl,jp,_,_,_,rfl,rfl,qj,rfl,fs,rfl,⟨_,qf⟩,wj (K:=K) (a:=fs) (xs:=fv) (fun i zs H1=>zs=((J.fs.take i).map (·.m)).map V.int/\Same H H1) ⟨rfl,Same.refl _⟩ (fun i zs H1 ⟨_,sm⟩=>sm.sqT qf) ?_ ?_⟩
  ·rintro i x zs H1 hx ⟨rfl,sm⟩
   obtain⟨d,e1,r1⟩:=(rf'.same sm).get hx
   rw[qJ] at e1
   obtain⟨p,ep,rfl⟩:=qw.mp e1
   obtain⟨a,c,rfl,q,q'⟩:=vp r1
   have hi:i<J.fs.length:=(zQ.mp ep).1
   refine⟨rfl,⟨_,rfl,a,_,_,_,rfl,rfl,q,rfl,?_,?_,sm⟩⟩
   ·rw[zp,zp,qT];omega
   ·rw[qB ep,zZ,zZ];rfl
  rintro zs H1 ⟨rfl,sm⟩
  have etk:J.fs.take fv.length=J.fs:=by rw[lfv,jh]
  rw[etk]
  refine⟨by rw[zp,zp];omega,fun ls hls=>?_⟩
  have st0l:StL J (J.fs.map (·.m)) []:=.nil fun f hf=>(jo.fa f hf).2.2.1
  generalize J.fs.map (·.m)=st0 at st0l
  have S1:=(SameB.of (b:=b) sm).new (o:=.lst (st0.map V.int)) hls
  have B1:=(B0.same sm).new (o:=.lst (st0.map V.int)) hls
  have LS:upd H1 ls (.lst (st0.map V.int)) ls=some (.lst (st0.map V.int)):=zb
  have NS:H ls=none:=(SameB.of (b:=b) sm).none hls ((B0.same sm).nne hls)
  have nsb:=(B0.same sm).nne hls
  generalize upd H1 ls (.lst (st0.map V.int))=H2 at S1 B1 LS
  refine⟨le0,fun lf hlf=>⟨le0,fun lp' hlp=>⟨le0,fun lo hlo=>⟨le3,fun t ht=>?_⟩⟩⟩⟩
  have nfb:=B1.nne hlf
  have NF:=S1.none hlf nfb
  have S2:=S1.new (o:=.lst []) hlf
  have B2:=B1.new (o:=.lst []) hlf
  have LS2:=(ze (o:=.lst []) hlf) _ _ LS
  have LF2:upd H2 lf (.lst []) lf=some (.lst []):=zb
  generalize upd H2 lf (.lst [])=H3 at S2 B2 LS2 LF2 hlp hlo ht
  have npb:=B2.nne hlp
  have NP:=S2.none hlp npb
  have S3:=S2.new (o:=.lst []) hlp
  have B3:=B2.new (o:=.lst []) hlp
  have LS3:=(ze (o:=.lst []) hlp) _ _ LS2
  have LF3:=(ze (o:=.lst []) hlp) _ _ LF2
  have LP3:upd H3 lp' (.lst []) lp'=some (.lst []):=zb
  generalize upd H3 lp' (.lst [])=H4 at S3 B3 LS3 LF3 LP3 hlo ht
  have nob:=B3.nne hlo
  have NO:=S3.none hlo nob
  have S4:=S3.new (o:=.lst []) hlo
  have B4:=B3.new (o:=.lst []) hlo
  have LS4:=(ze (o:=.lst []) hlo) _ _ LS3
  have LF4:=(ze (o:=.lst []) hlo) _ _ LF3
  have LP4:=(ze (o:=.lst []) hlo) _ _ LP3
  have LO4:upd H4 lo (.lst []) lo=some (.lst []):=zb
  have a1:ls≠lf:=zj LS hlf
  have a2:ls≠lp':=zj LS2 hlp
  have a3:ls≠lo:=zj LS3 hlo
  have a5:lf≠lp':=zj LF2 hlp
  have a6:lf≠lo:=zj LF3 hlo
  have a8:lp'≠lo:=zj LP3 hlo
  generalize upd H4 lo (.lst [])=H5 at S4 B4 LS4 LF4 LP4 LO4 ht
  have s5:=ze (o:=.tup [.ref lf,.ref lp',.ref lo]) ht
  have T5:upd H5 t (.tup [.ref lf,.ref lp',.ref lo]) t=some (.tup [.ref lf,.ref lp',.ref lo]):=zb
  have S5:=S4.new (o:=.tup [.ref lf,.ref lp',.ref lo]) ht
  have B5:=B4.new (o:=.tup [.ref lf,.ref lp',.ref lo]) ht
  have LS5:=s5 _ _ LS4
  have LF5:=s5 _ _ LF4
  have LP5:=s5 _ _ LP4
  have LO5:=s5 _ _ LO4
  generalize upd H5 t (.tup [.ref lf,.ref lp',.ref lo])=H6 at s5 T5 S5 B5 LS5 LF5 LP5 LO5
  refine⟨t,_,rfl,SqT.of T5,rfl,_,_,rfl,_,_,rfl,_,_,rfl,rfl,?_⟩
  clear S1 S2 S3 S4 B1 B2 B3 B4 LS LS2 LS3 LS4 LF2 LF3 LF4 LP3 LP4 LO4 hls hlf hlp hlo ht s5 T5
  have rj6:=rj.keep (SameT.draw B0 S5) (jX J)
  refine⟨_,rfl,_,rfl,b,jp,J,ord,n,rfl,B5.mono (by omega),by omega,rj6,jo,fun lq os H7 S7 B7 nqb hqN LQ7 pm ob=>?_⟩
  have osl:os.length=J.ps.length:=by have:=pm.length_eq;rwa[vd] at this
  have a4:ls≠lq:=zj LS5 hqN
  have a7:lf≠lq:=zj LF5 hqN
  have a9:lp'≠lq:=zj LP5 hqN
  have a10:lo≠lq:=zj LO5 hqN
  have g0:PlS K H b ls lf lp' lo lq st0 [] [] [] os [] [] H7 (n+60):=⟨S5.trans S7,B7,⟨nsb,nfb,npb,nob,nqb⟩,⟨a1,a2,a3,a4,a5,a6,a7,a8,a9,a10⟩,⟨NS,NF,NP,NO⟩,S7 _ _ LS5 nsb,S7 _ _ LF5 nfb,S7 _ _ LP5 npb,S7 _ _ LO5 nob,LQ7,rfl,rfl⟩
  clear S5 S7 B5 B7 LS5 LF5 LP5 LO5 LQ7 hqN rj6 sm
  refine⟨lq,rfl,⟨_,SqL.of g0.hq⟩,jP (K:=K) (a:=lq) (xs:=zv os) (zaj b jp most ls lf lo K H lq os n J)
   ⟨lp',none,none,none,none,st0,[],[],[],[],[],rfl,g0.mono (by omega),st0l,(fun _ h=>nomatch h),(fun _ h=>nomatch h),(by show((0:Nat):Int)<_;omega),Xx _,zG _,zG _,⟨(fun x hx=>by rw[List.take_zero] at hx;cases hx),(fun p _ h=>by cases(show p.2∈([]:List Nat) from h))⟩⟩
   (fun i σ H' _ ⟨_,_,_,_,_,_,_,_,_,_,_,_,g,_,_,_,_,_,_,_,_⟩=>SqL.of g.hq) ?_ ?_⟩
  ·rintro i x σ H8 hx ⟨lp,v7,v8,v9,v10,st,tr,pk,ou,ts,pks,rfl,g,stl,tok,pok,pkl,sub,cnt,oul,pc⟩
   have ndo:os.Nodup:=pm.nodup_iff.mpr Zz
   obtain⟨c,ec,rfl⟩:=Vt hx
   have stn:=stl.len
   have hi:i<os.length:=(zQ.mp ec).1
   have hc:c<J.ps.length:=xK.mp (pm.mem_iff.mp (qG ec))
   obtain⟨pa,epa⟩:∃pa,J.ps[c]? =some pa:=⟨J.ps[c],by simp[hc]⟩
   have T8:=SameT.draw B0 g.s
   have qj8:=qj.keep T8
   have qf8:=qf.keep T8
   have qp8:=qp.keep T8
   have qa8:=qa.keep T8
   have rf8:=rf'.keep T8 (xT J.fs)
   have rp8:=rp'.keep T8 (xb J.ps)
   have ra8:=ra'.keep T8 (qI J.as)
   obtain⟨pv0,epv,rpv⟩:=vJ rp8 epa
   obtain⟨pad,pac,rfl,qpa,_⟩:=xS rpv
   refine⟨_,rfl,jp,_,_,_,rfl,rfl,qj8,rfl,fs,rfl,⟨_,qf8⟩,zck (K:=K) (a:=fs) (xs:=fv) (zai J pa st H8) ⟨[],rfl,zG _,(fun _ h=>nomatch h),Same.refl _⟩ (fun i' zs H9 ⟨_,_,_,_,sm⟩=>sm.sqT qf8) ?_ ?_⟩
   ·rintro i' x zs H9 T hx' ⟨ks,rfl,kl,kk,sm⟩ hT
    obtain⟨d,e1,r1⟩:=(rf8.same sm).get hx'
    rw[qJ] at e1
    obtain⟨fe,efe,rfl⟩:=qw.mp e1
    have hi':i'<J.fs.length:=(zQ.mp efe).1
    have sT:=sm.trans (ze (o:=.tup [.int (i':Int),x]) hT)
    obtain⟨fa,fc,rfl,qfa,_⟩:=vp (r1.same (ze (o:=.tup [.int (i':Int),x]) hT))
    refine⟨T,_,rfl,SqT.of zb,rfl,_,_,rfl,_,_,rfl,rfl,rfl,?_⟩
    refine⟨_,rfl,fa,_,_,_,rfl,rfl,qfa,rfl,_,rfl,jp,_,_,_,rfl,rfl,sT.sqT qj8,rfl,_,rfl,ps,_,_,_,rfl,rfl,sT.sqT qp8,zT epv,pad,_,_,_,rfl,rfl,sT.sqT qpa,rfl,rfl,_,rfl,jD (fun c1=>?_) (fun c1=>?_)⟩
    ·have ek:fe.k=pa.k:=by have:=jA c1;exact V.str.inj this
     have hst:i'<st.length:=by omega
     refine⟨_,rfl,_,rfl,ls,_,_,.int st[i'],rfl,rfl,SqL.of (sT _ _ g.hs),zT (by rw[qJ,qX hst];rfl),_,_,rfl,rfl,_,rfl,jD (fun c2=>?_) (fun c2=>?_)⟩
     ·refine⟨_,rfl,by rw[zI];omega,ks++[i'],?_,by rw[zW];show _+1<=_;omega,fun k' hk'=>?_,sT⟩
      ·unfold zv
       rw[zZ]
       rfl
      ·rcases zY.mp hk' with z | z
       ·exact kk k' z
       ·rw[qg.mp z]
        exact⟨fe,efe,ek,_,qX hst,jA c2⟩
     ·exact⟨ks,rfl,by omega,kk,sT⟩
    ·exact ifF rfl ⟨ks,rfl,by omega,kk,sT⟩
   rintro zs H9 ⟨ks,rfl,kl,kk,sm⟩
   refine⟨by rw[zI];omega,fun lm hlm=>?_⟩
   have sm1:=sm.trans (ze (o:=.lst (zv ks)) hlm)
   have LM:upd H9 lm (.lst (zv ks)) lm=some (.lst (zv ks)):=zb
   have nmb:lm≠b:=(g.same sm).bx.nne hlm
   generalize upd H9 lm (.lst (zv ks))=Ha at sm1 LM
   clear sm hlm
   refine⟨fun σ' H'=>Ex1 fun(lost:Bool)=>An4 (σ'=[some (.ref b),some (.ref jp),some (.int most),some (.ref ls),some (.ref lf),some (.ref lp),some (.ref lo),some (.int (c:Int)),some (.ref lm),some (.bl lost),v10]) (Same H8 H') (H' lm=some (.lst (zv ks))) ((lost=false->ks≠[]/\∀p∈J.as,p.2=c->p.1∉ou)),?_,?_⟩
   ·refine⟨_,rfl,le0,fun q hq=>⟨lm,q,zv ks,rfl,rfl,SqL.of ((ze hq) _ _ LM),SqL.of zb,_,rfl,jD (fun c1=>?_) (fun c1=>?_)⟩⟩
    ·exact⟨true,rfl,sm1.trans (ze hq),(ze hq) _ _ LM,fun z=>nomatch z⟩
    ·have kne:ks≠[]:=fun z=>c1 (by rw[z];rfl)
     have sm2:=sm1.trans (ze (o:=.lst []) hq)
     have LM2:=(ze (o:=.lst []) hq) _ _ LM
     generalize upd Ha q (.lst [])=Hb at sm2 LM2
     refine⟨_,rfl,jp,_,_,_,rfl,rfl,sm2.sqT qj8,rfl,as,rfl,⟨_,sm2.sqT qa8⟩,wj (K:=K) (a:=as) (xs:=av) (fun i' zs H9=>Ex1 fun(bs:List Bool)=>An4 (zs=bs.map V.bl) (bs.length<=i') ((bs.any id=false->∀p∈J.as.take i',p.2=c->p.1∉ou)) (Same Hb H9)) ⟨[],rfl,zG _,(fun _ p hp=>by rw[List.take_zero] at hp;cases hp),Same.refl _⟩ (fun i' zs H9 ⟨_,_,_,_,sm⟩=>(sm2.trans sm).sqT qa8) ?_ ?_⟩
     ·rintro i' x zs H9 hx' ⟨bs,rfl,bl,bn,sm⟩
      obtain⟨d,e1,r1⟩:=(ra8.same (sm2.trans sm)).get hx'
      rw[qJ] at e1
      obtain⟨p,ep,rfl⟩:=qw.mp e1
      obtain⟨pp,rfl,qpp⟩:=Zo r1
      have hi':i'<J.as.length:=(zQ.mp ep).1
      refine⟨pp,_,rfl,qpp,rfl,_,_,rfl,_,_,rfl,rfl,rfl,?_⟩
      have nxt:∀v:Bool,(v=false->p.2=c->p.1∉ou)->((bs++[v]).any id=false->∀p∈J.as.take (i'+1),p.2=c->p.1∉ou):=fun v hv ha u hu=>by
       rw[List.any_append,Bool.or_eq_false_iff] at ha
       rw[qB ep] at hu
       rcases zY.mp hu with z | z
       ·exact bn ha.1 u z
       ·rw[qg.mp z]
        exact hv (by simpa using ha.2)
      refine⟨_,rfl,_,rfl,rfl,_,rfl,jD (fun c2=>?_) (fun c2=>?_)⟩
      ·refine⟨_,rfl,_,rfl,lo,zv ou,rfl,.inl (SqL.of ((sm2.trans sm) _ _ g.ho)),rfl,wH _,by rw[zp];omega,bs++[inV (.int (p.1:Int)) (zv ou)],?_,by rw[zW];show _+1<=_;omega,nxt _ (fun z _ hm=>by rw[Z1] at z;exact absurd hm (of_decide_eq_false z)),sm⟩
       rw[zZ]
       rfl
      ·refine⟨by rw[zp];omega,bs++[false],?_,by rw[zW];show _+1<=_;omega,nxt _ (fun _ z=>absurd (show decide (V.int (p.2:Int)=V.int (c:Int))=true by rw[z];exact qv rfl) c2),sm⟩
       rw[zZ]
       rfl
     ·rintro zs H9 ⟨bs,rfl,bl,bn,sm⟩
      rw[la,jh] at bn
      refine⟨by rw[zp];omega,fun D hD=>⟨D,bs,rfl,SqL.of zb,?_⟩⟩
      have sm3:=(sm2.trans sm).trans (ze (o:=.lst (bs.map V.bl)) hD)
      exact⟨bs.any id,rfl,sm3,(ze (o:=.lst (bs.map V.bl)) hD) _ _ (sm _ _ LM2),fun z=>⟨kne,bn z⟩⟩
   rintro σ' Hb ⟨lost,rfl,sm2,LM2,kne⟩
   have g2:=g.same sm2
   clear sm1 LM
   have sub1:(jg ts++pks.map (·.1)).Sublist (os.take (i+1)):=sub.trans (by rw[qB ec];exact List.sublist_append_left _ _)
   have eO:zv ou++[V.int (c:Int)]=zv (ou++[c]):=by unfold zv;rw[zZ];rfl
   refine⟨fun σ' H'=>Ex5 fun(v10:Option V) (st':List Int) (pk':List V) (ou':List Nat) (pks':List (Nat×Nat))=>An9 (σ'=[some (.ref b),some (.ref jp),some (.int most),some (.ref ls),some (.ref lf),some (.ref lp),some (.ref lo),some (.int (c:Int)),some (.ref lm),some (.bl lost),v10]) (PlS K H b ls lf lp lo lq st' tr pk' ou' os ts pks' H' (n+60+10*i+3)) (StL J st' (vm ts++pks')) ((∀p∈pks',Q4 J p)) ((pks'.length:Int)<=J.hd) ((jg ts++pks'.map (·.1)).Sublist (os.take (i+1))) (ts.length+pks'.length<=i+1) (ou'.length<=i+1) (PlC J ou' (jg ts++pks'.map (·.1)) (os.take (i+1))),?_,?_⟩
   ·have outC:∀(H':Hp) (m:Int),PlS K H b ls lf lp lo lq st tr pk ou os ts pks H' m->m<=n+60+10*i+3->PlS K H b ls lf lp lo lq st tr pk (ou++[c]) os ts pks (upd H' lo (.lst (zv ou++[V.int (c:Int)]))) (n+60+10*i+3):=fun H' m g' hm=>by
     rw[eO]
     exact(g'.mono hm).putO
    have oul2:(ou++[c]).length<=i+1:=by rw[zW];show _+1<=_;omega
    refine⟨fun(d:Bool) (H':Hp)=>PlS K H b ls lf lp lo lq st tr pk ou os ts pks H' (n+60+10*i+1)/\H' lm=some (.lst (zv ks))/\(d=false->ks≠[]/\∀p∈J.as,p.2=c->p.1∉ou),?_,?_⟩
    ·refine⟨_,rfl,_,rfl,jD (fun c1=>⟨g2.mono (by omega),LM2,(fun z=>nomatch z)⟩) (fun c1=>?_)⟩
     have kne':=kne (by simpa using c1)
     exact⟨_,rfl,_,_,rfl,rfl,_,rfl,jD (fun c2=>⟨_,rfl,_,rfl,b,most,_,rfl,g2.bx,by omega,jA c2,by omega,fun r Hc r0 r1 Bc Sc=>⟨rfl,_,rfl,(g2.draw Sc Bc).mono (by omega),Sc _ _ LM2 nmb,fun _=>kne'⟩⟩) (fun c2=>⟨g2.mono (by omega),LM2,fun _=>kne'⟩)⟩
    rintro d Hc ⟨g3,LM3,kn⟩
    refine jD (fun c1=>?_) (fun c1=>?_)
    ·exact⟨_,rfl,.inl ⟨rfl,_,SqL.of g3.ho⟩,_,rfl,lo,_,_,rfl,rfl,g3.ho,by rw[zI];omega,_,st,pk,ou++[c],pks,rfl,outC _ _ g3 (by omega),stl,pok,by omega,sub1,by omega,oul2,by rw[qB ec];exact pc.out⟩
    ·have kpos:0<ks.length:=XD.mpr (kn (by simpa using c1)).1
     have kc:=(kn (by simpa using c1)).2
     refine⟨_,rfl,_,rfl,_,rfl,lm,_,rfl,.inl (SqL.of LM3),b,_,_,rfl,g3.bx,by omega,by rw[zI];omega,by rw[zI];omega,fun r' Hd r0' r1' Bd Sd=>?_⟩
     rw[zI] at r1'
     have hr':r'.toNat<ks.length:=by omega
     have er':atI (zv ks) r'=some (.int ((ks[r'.toNat]:Nat):Int)):=by
      have er:(zv ks)[r'.toNat]? =some (.int ((ks[r'.toNat]:Nat):Int)):=by
       unfold zv
       rw[qJ,qX hr']
       rfl
      have:=zT er
      rwa[show((r'.toNat:Nat):Int)=r' by omega] at this
     obtain⟨fe,efe,ekf,z0,ez0,hz0⟩:=kk _ (wv hr')
     generalize ks[r'.toNat]=kf at er' efe ez0
     have hkf:kf<J.fs.length:=(zQ.mp efe).1
     have hst:kf<st.length:=by omega
     have g5:=g3.draw Sd Bd
     refine⟨lm,_,_,_,rfl,rfl,SqL.of (Sd _ _ LM3 nmb),er',?_⟩
     refine⟨_,rfl,_,rfl,ls,_,_,.int st[kf],rfl,rfl,SqL.of g5.hs,zT (by rw[qJ,qX hst];rfl),_,_,rfl,rfl,_,rfl,_,rfl,ls,_,_,kf,rfl,rfl,g5.hs,xE (by rw[zp];omega),?_⟩
     have eS:(st.map V.int).set kf (V.int (st[kf]-1))=(st.set kf (st[kf]-1)).map V.int:=by rw[List.map_set]
     rw[eS]
     have g6:=g5.putS (st':=st.set kf (st[kf]-1))
     generalize upd Hd ls (.lst ((st.set kf (st[kf]-1)).map V.int))=He at g6
     refine⟨_,rfl,.inl ⟨rfl,_,SqL.of g6.hp⟩,_,rfl,_,rfl,le2,fun q hq=>?_⟩
     have g7:=g6.new (o:=.tup [.int (c:Int),.int (kf:Int)]) hq
     have rq:Rep K (upd He q (.tup [.int (c:Int),.int (kf:Int)])) (xc (c,kf)) (.ref q):=⟨q,_,rfl,SqT.of zb,_,_,rfl,rfl,_,_,rfl,rfl,rfl⟩
     have pkn:pk.length=pks.length:=by have:=g.rk.len;rwa[zp] at this
     refine⟨lp,_,_,rfl,rfl,g7.hp,by omega,_,st.set kf (st[kf]-1),pk++[.ref q],ou,pks++[(c,kf)],rfl,(g7.putP rq).mono (by omega),by rw[<- jm];exact stl.take (qX hst) (by rw[qX hst] at ez0;rw[jK ez0];exact hz0),fun p' hp'=>?_,by rw[zW];show((_+1:Nat):Int)<=_;omega,?_,by rw[zW];show _+(_+1)<=_;omega,by omega,by rw[zZ,<- jm,qB ec];exact pc.lay ec ndo ob kc⟩
     ·rcases zY.mp hp' with z | z
      ·exact pok p' z
      ·rw[qg.mp z]
       exact⟨pa,fe,epa,efe,ekf⟩
     ·rw[zZ,<- jm,qB ec]
      exact sub.append (Xx _)
   rintro σ' Hc ⟨v10',st',pk',ou',pks',rfl,g4,stl',pok',pkl',sub',cnt',oul',pc'⟩
   have pkn:pk'.length=pks'.length:=by have:=g4.rk.len;rwa[zp] at this
   have trn:tr.length=ts.length:=by have:=g4.rt.len;rwa[zp] at this
   have T9:=SameT.draw B0 g4.s
   refine⟨fun(d:Bool) (H':Hp)=>PlS K H b ls lf lp lo lq st' tr pk' ou' os ts pks' H' (n+60+10*i+4)/\(d=true->1<=pks'.length)/\(d=false->(pks'.length:Int)<J.hd),?_,?_⟩
   ·refine⟨_,rfl,le0,fun q hq=>⟨lp,q,_,rfl,rfl,SqL.of (g4.new (o:=.lst []) hq).hp,SqL.of zb,_,rfl,jD (fun c1=>?_) (fun c1=>?_)⟩⟩
    ·have g5:=g4.new (o:=.lst []) hq
     have qj5:=(qj.keep T9).keep (SameT.of (ze (o:=.lst []) hq))
     generalize upd Hc q (.lst [])=Hd at g5 qj5
     have pne:1<=pks'.length:=by
      cases pk' with
      | nil=>cases c1
      | cons x r=>simp at pkn;omega
     refine⟨_,rfl,lp,_,rfl,.inl (SqL.of g5.hp),_,rfl,jp,_,_,_,rfl,rfl,qj5,rfl,rfl,_,rfl,jD (fun c2=>⟨g5.mono (by omega),fun _=>pne,fun z=>nomatch z⟩) (fun c2=>⟨_,rfl,b,3,_,rfl,g5.bx,by omega,by decide,by decide,fun r He r0 r1 Be Se=>⟨rfl,_,rfl,(g5.draw Se Be).mono (by omega),fun _=>pne,fun _=>?_⟩⟩)⟩
     have hne:¬(pk'.length:Int)=J.hd:=fun z=>c2 (by rw[z];simp)
     omega
    ·have pe:pks'=[]:=by
      cases pks' with
      | nil=>rfl
      | cons x r=>
       cases pk' with
       | nil=>simp at pkn
       | cons y r'=>exact absurd rfl c1
     exact⟨(g4.new (o:=.lst []) hq).mono (by omega),(fun z=>nomatch z),fun _=>by rw[pe];show((0:Nat):Int)<_;omega⟩
   rintro d Hd ⟨G,pne,hlt⟩
   refine jD (fun c1=>?_) (fun c1=>?_)
   ·have pne:=pne c1
    refine⟨_,rfl,.inl ⟨rfl,_,SqL.of G.hf⟩,_,rfl,_,rfl,b,lp,_,pk',pks',rfl,G.bx,by omega,G.nb.2.2.1,G.hp,G.rk,by omega,fun p sh Hg Sg Bg shp rt=>?_⟩
    have G2:=G.draw Sg Bg
    have shl:sh.length=pks'.length:=shp.length_eq
    refine⟨lf,_,_,rfl,rfl,G2.hf,by omega,?_⟩
    have G3:=G2.putF rt
    generalize upd Hg lf (.lst (tr++[.ref p]))=Hh at G3
    refine⟨le0,fun lp2 hlp2=>⟨lp2,_,_,_,_,st',tr++[.ref p],[],ou',ts++[⟨sh,pks'.map (·.1)⟩],[],rfl,(G3.newP hlp2).mono (by omega),by rw[Qf,qk];exact stl'.perm (shp.symm.append_left _),?_,(fun _ h=>nomatch h),(by show((0:Nat):Int)<_;omega),?_,?_,oul',by rw[va,yu,qk];exact pc'⟩⟩
    ·intro t' ht'
     rcases zY.mp ht' with z | z
     ·exact tok t' z
     ·rw[qg.mp z]
      exact⟨by show 1<=sh.length;omega,by show(sh.length:Int)<=_;omega,fun p' hp'=>pok' p' (shp.mem_iff.mp hp'),(shp.map (·.1)).symm⟩
    ·rw[va]
     simpa using sub'
    ·rw[zW]
     show _+1+0<=_
     omega
   ·exact⟨lp,_,_,_,_,st',tr,pk',ou',ts,pks',rfl,G.mono (by omega),stl',tok,pok',hlt (by simpa using c1),sub',cnt',oul',pc'⟩
  ·rintro σ H8 ⟨lp,v7,v8,v9,v10,st,tr,pk,ou,ts,pks,rfl,g,stl,tok,pok,pkl,sub,cnt,oul,pc⟩
   rw[zI] at sub cnt oul
   rw[zI] at g
   rw[jh] at sub
   have pkn:pk.length=pks.length:=by have:=g.rk.len;rwa[zp] at this
   have trn:tr.length=ts.length:=by have:=g.rt.len;rwa[zp] at this
   refine⟨_,rfl,_,rfl,_,rfl,b,lp,_,pk,pks,rfl,g.bx,by omega,g.nb.2.2.1,g.hp,g.rk,by omega,fun p sh Hg Sg Bg shp rt=>?_⟩
   have g2:=g.draw Sg Bg
   have shl:sh.length=pks.length:=shp.length_eq
   refine⟨le1,fun l1 hl1=>?_⟩
   have g3:=g2.new (o:=.lst [.ref p]) hl1
   have rt3:=rt.same (ze (o:=.lst [.ref p]) hl1)
   have L1:upd Hg l1 (.lst [.ref p]) l1=some (.lst [.ref p]):=zb
   generalize upd Hg l1 (.lst [.ref p])=Hh at g3 rt3 L1
   refine⟨_,rfl,le0,fun q hq=>⟨lp,q,_,rfl,rfl,SqL.of (g3.new (o:=.lst []) hq).hp,SqL.of zb,.inr ⟨_,rfl,l1,_,_,rfl,rfl,(ze hq) _ _ L1,?_,?_,?_,fun l2 hl2=>?_⟩⟩⟩
   ·split<;>decide
   ·split<;>decide
   ·show 1*_<=sizeLine
    split<;>(first| (show 1*1<=_;omega) | (show 1*0<=_;omega))
   have g4:=g3.new (o:=.lst []) hq
   have rt4:=rt3.same (ze (o:=.lst []) hq)
   generalize upd Hh q (.lst [])=Hi at g4 rt4 hl2
   have fin:∀(zs:List V) (us:List jW),Reps K Hi (us.map vT) zs->zs.length<=1->us.length+ts.length<=60->(∀t∈us,XR J t)->(jg (ts++us)).Sublist os->jg (ts++us)=jg ts++pks.map (·.1)->(vm ts++pks).Perm (vm (ts++us))->ze3 (V.ref lf) (V.ref l2) (upd Hi l2 (.lst zs)) Q:=by
    intro zs us rz zl ul uo us' hcl up
    have g5:=g4.new (o:=.lst zs) hl2
    have rz5:=rz.same (ze (o:=.lst zs) hl2)
    refine⟨lf,l2,tr,zs,rfl,rfl,g5.hf,zb,by omega,fun l3 hl3=>?_⟩
    have n3:=g5.bx.nne hl3
    have g6:=g5.new (o:=.lst (tr++zs)) hl3
    refine k l3 os (ts++us) (tr++zs) _ g6.s (g6.bx.mono (by omega)) n3 (g5.s.none hl3 n3) zb ?_ pm ob ⟨fun t ht=>?_,us',by rw[zW];omega,by rw[hcl];exact pc.a2,st,stl.perm up⟩
    ·rw[zZ]
     exact Reps.app g6.rt (rz5.same (ze hl3))
    ·rcases zY.mp ht with z | z
     ·exact tok t z
     ·exact uo t z
   cases pks with
   | nil=>
    have e:pk=[]:=List.length_eq_zero_iff.mp (by rw[pkn];rfl)
    subst e
    exact fin [] [] rfl (qu _) (by show 0+_<=_;omega) (fun _ h=>nomatch h) (by rw[qk];simpa using sub) (by simp) (by rw[qk,qk])
   | cons x r=>
    have hne:∃y r',pk=y::r':=by
     cases pk with
     | nil=>simp at pkn
     | cons y r'=>exact⟨y,r',rfl⟩
    obtain⟨y,r',rfl⟩:=hne
    refine fin [.ref p] [⟨sh,(x::r).map (·.1)⟩] ⟨_,_,rfl,rt4,rfl⟩ (zG _) (by simp at cnt;show 1+_<=_;omega) (fun t ht=>?_) (by rw[va];exact sub) (by rw[va]) (by rw[Qf];exact shp.symm.append_left _)
    rw[qg.mp ht]
    exact⟨by show 1<=sh.length;rw[shl];exact Nat.succ_le_succ (qu _),by show(sh.length:Int)<=_;omega,fun p' hp'=>pok p' (shp.mem_iff.mp hp'),(shp.map (·.1)).symm⟩
def prD(p:Int×Int):Dat:=.tup [.int p.1,.int p.2]
inductive Jh(K:PySem.W.Frag)(vs:List V)(H:Hp)(Q:VK):Prop
 | mk (t:Addr) (xs:List V) (as:List (Int×Int)) (_:vs=[.ref t]) (_:SqT K H t xs) (_:Reps K H (as.map prD) xs) (_:as.length<=1000) (_:∀(l:Addr) (ys:List V) H',Same H H'->H' l=some (.lst ys)->Reps K H' (as.map fun p=>prD p.swap) ys->Q (.ref l) H'):Jh K vs H Q
def Yi(K:PySem.W.Frag):Sp:=fun vs H Q _=>Jh K vs H Q
theorem YA:zK ["pairs"] ["pairs"] (zu (topL 4)):=⟨rfl,rfl,rfl,by decide +kernel,rfl,by decide +kernel,by decide +kernel⟩
theorem zb1{f:Addr}{fd:FuncData}(F:Fun K "turned" "turned" (topL 4) f fd)(B:Blt mg):FnOk P w K mg base CX0 1 f fd ["pairs"] (Yi K):=by
 have nd:=YA.nd
 refine F.ok YA (fun vs H Q E h=>?_) (fun cdv A outer s H vs Q E hr h=>?_)
 ·obtain⟨t,xs,as,rfl,_⟩:=h
  rfl
 ·obtain⟨t,xs,as,rfl,ht,rp,la,k⟩:=h
  have hbig:100000<sizeLine:=by rw[sizeLine_eq];decide
  have lx:=rp.len
  rw[zp] at lx
  refine⟨_,(zm (zH (wa [] [] rfl rfl (by kernel_rfl) (vZ (pv 0)) (fun _ _ _ _=>jF) (fun _ _ _ _=>(zX (za (pv 1) (za (pv 0) zd))))))),?_⟩
  have l2:∀x y:V,[x,y].length<=sizeLine:=fun x y=>by rw[sizeLine_eq];show 2<=_;decide
  refine⟨_,rfl,t,rfl,⟨_,ht⟩,wj (K:=K) (a:=t) (xs:=xs) (fun i zs H'=>Reps K H' ((as.take i).map fun p=>prD p.swap) zs/\Same H H') ⟨rfl,Same.refl _⟩ (fun i zs H' ⟨_,sm⟩=>sm.sqT ht) ?_ ?_⟩
  ·rintro i x zs H1 hx ⟨rz,sm⟩
   obtain⟨d,e1,r1⟩:=(rp.same sm).get hx
   rw[qJ] at e1
   obtain⟨p,ep,rfl⟩:=qw.mp e1
   have hi:i<as.length:=(zQ.mp ep).1
   obtain⟨a,ws,rfl,qa,x1,r1',rfl,e2,x2,r2',rfl,e3,e4⟩:=r1
   cases e2
   cases e3
   cases e4
   refine⟨a,_,rfl,qa,rfl,_,_,rfl,_,_,rfl,rfl,rfl,?_⟩
   refine⟨_,rfl,_,rfl,l2 _ _,fun q hq=>⟨?_,?_,sm.trans (ze hq)⟩⟩
   ·have:=rz.len
    rw[zp,qT] at this
    omega
   ·have e5:as.take (i+1)=as.take i++[p]:=by
     obtain⟨h1,h2⟩:=zQ.mp ep
     rw[<- h2,yd]
    rw[e5,zZ]
    exact Reps.snoc (d:=prD p.swap) ⟨q,_,rfl,SqT.of zb,_,_,rfl,rfl,_,_,rfl,rfl,rfl⟩ (rz.same (ze hq))
  ·rintro zs H1 ⟨rz,sm⟩
   rw[lx,jh] at rz
   refine⟨by have:=rz.len;rw[zp] at this;omega,fun l hl=>k l zs _ (sm.trans (ze hl)) zb (rz.same (ze hl))⟩
def vy(as:List (Int×Int))(i:Int):List Int:=(as.filter fun p=>decide (p.1=i)).map (·.2)
structure NB(H0 H:Hp)(kvs:List (Key×V))(as:List (Int×Int)):Prop where
 at_:∀i v,je kvs (Sum.inl i)=some v->∃l,v=.ref l/\H0 l=none/\H l=some (.lst ((vy as i).map V.int))
 no:∀i,je kvs (Sum.inl i)=none->vy as i=[]
 inj:∀i j l,je kvs (Sum.inl i)=some (.ref l)->je kvs (Sum.inl j)=some (.ref l)->i=j
 few:kvs.length<=as.length
theorem wC(as:List (Int×Int))(x y i:Int):vy (as++[(x,y)]) i=vy as i++(if x=i then [y] else []):=by
 unfold vy
 rw[vP,zZ]
 congr 1
 by_cases h:x=i<;>simp[h]
theorem zc5(as:List (Int×Int))(i:Int):(vy as i).length<=as.length:=by
 unfold vy
 rw[zp]
 exact xr _ _
theorem NB.old{H0 H H1:Hp}{kvs:List (Key×V)}{as:List (Int×Int)}{x y:Int}{l:Addr}(n:NB H0 H kvs as)(s:Same H H1)(e:je kvs (Sum.inl x)=some (.ref l)) :
  NB H0 (upd H1 l (.lst ((vy as x).map V.int++[.int y]))) kvs (as++[(x,y)]):=by
 refine⟨fun i v hv=>?_,fun i hv=>?_,n.inj,by rw[zW];have:=n.few;omega⟩
 ·obtain⟨l',rfl,h0,h1⟩:=n.at_ i v hv
  refine⟨l',rfl,h0,?_⟩
  rw[wC]
  by_cases hx:x=i
  ·subst hx
   rw[e] at hv
   cases hv
   rw[zb,zx rfl,zZ]
   rfl
  ·have ne:l'≠l:=fun z=>hx (n.inj x i l e (by rw[<- z];exact hv))
   rw[zi ne,zq hx,qk]
   exact s _ _ h1
 ·rw[wC,n.no i hv,zq (fun z=>by rw[<- z,e] at hv;cases hv)]
  rfl
theorem NB.new{H0 H:Hp}{kvs:List (Key×V)}{as:List (Int×Int)}{x y:Int}{m d:Addr}(n:NB H0 H kvs as)(hm:H m=none)(h0:H0 m=none)(hd:H d=some (.dK kvs))(e:je kvs (Sum.inl x)=none) :
  NB H0 (upd (upd (upd H m (.lst [])) d (.dK (j6 kvs (Sum.inl x) (.ref m)))) m (.lst ([]++[.int y]))) (j6 kvs (Sum.inl x) (.ref m)) (as++[(x,y)]):=by
 have old:∀i l,je kvs (Sum.inl i)=some (.ref l)->H l=some (.lst ((vy as i).map V.int))/\l≠m/\l≠d:=fun i l h=>by
  obtain⟨l',z,_,h1⟩:=n.at_ i _ h
  cases z
  refine⟨h1,fun z=>?_,fun z=>?_⟩
  ·rw[z,hm] at h1;cases h1
  ·rw[z,hd] at h1;cases h1
 refine⟨fun i v hv=>?_,fun i hv=>?_,fun i j l hi hj=>?_,?_⟩
 ·rw[Z5] at hv
  rw[wC]
  by_cases hx:i=x
  ·subst hx
   rw[zx rfl] at hv
   cases hv
   refine⟨m,rfl,h0,?_⟩
   rw[zb,n.no _ e,zx rfl]
   rfl
  ·rw[zq (fun z=>hx (wZ z))] at hv
   obtain⟨l,rfl,h1,h2⟩:=n.at_ i v hv
   obtain⟨_,n1,n2⟩:=old i l hv
   refine⟨l,rfl,h1,?_⟩
   rw[zi n1,zi n2,zi n1,zq (qz hx),qk]
   exact h2
 ·rw[Z5] at hv
  by_cases hx:i=x
  ·subst hx;rw[zx rfl] at hv;cases hv
  ·rw[zq (fun z=>hx (wZ z))] at hv
   rw[wC,n.no i hv,zq (qz hx)]
   rfl
 ·rw[Z5] at hi hj
  by_cases h1:i=x<;>by_cases h2:j=x
  ·rw[h1,h2]
  ·rw[zx (by rw[h1])] at hi
   rw[zq (fun z=>h2 (wZ z))] at hj
   cases hi
   exact absurd rfl (old j _ hj).2.1
  ·rw[zq (fun z=>h1 (wZ z))] at hi
   rw[zx (by rw[h2])] at hj
   cases hj
   exact absurd rfl (old i _ hi).2.1
  ·rw[zq (fun z=>h1 (wZ z))] at hi
   rw[zq (fun z=>h2 (wZ z))] at hj
   exact n.inj i j l hi hj
 ·have:=xI kvs (Sum.inl x) (.ref m)
  have:=n.few
  rw[zW,List.length_singleton]
  omega
inductive X7(K:PySem.W.Frag)(vs:List V)(H:Hp)(Q:VK):Prop
 | mk (t:Addr) (xs:List V) (as:List (Int×Int)) (_:vs=[.ref t]) (_:(SqL K H t xs\/SqT K H t xs)) (_:Reps K H (as.map prD) xs) (_:as.length<=1000) (_:∀(d:Addr) (kvs:List (Key×V)) H',Same H H'->H d=none->H' d=some (.dK kvs)->NB H H' kvs as->Q (.ref d) H'):X7 K vs H Q
def zbn(K:PySem.W.Frag):Sp:=fun vs H Q _=>X7 K vs H Q
theorem zbB:zK ["pairs", "rows", "one", "other"] ["pairs"] (zu (topL 5)):=⟨rfl,rfl,rfl,by decide +kernel,rfl,by decide +kernel,by decide +kernel⟩
theorem zdv{f:Addr}{fd:FuncData}(F:Fun K "next_by" "next_by" (topL 5) f fd)(B:Blt mg):FnOk P w K mg base CX0 1 f fd ["pairs"] (zbn K):=by
 have nd:=zbB.nd
 refine F.ok zbB (fun vs H Q E h=>?_) (fun cdv A outer s H vs Q E hr h=>?_)
 ·obtain⟨t,xs,as,rfl,_⟩:=h
  rfl
 ·obtain⟨t,xs,as,rfl,ht,rp,la,k⟩:=h
  have hbig:100000<sizeLine:=by rw[sizeLine_eq];decide
  have hu1:=Qp hr
  have lx:=rp.len
  rw[zp] at lx
  refine⟨_,(zg (zD (i:=1) nd rfl (Or.inl rfl) zbV)
   (zg (qO jw rfl (zbS (pv 0)) (xi rfl (zR (zy (i:=2) nd rfl (Or.inl rfl)) (zR (zy (i:=3) nd rfl (Or.inl rfl)) jH)))
   (zm (zU (qZ qW jM jL zV (zfe (pv 1) (pv 2) (zN zd) ⟨rfl,rfl,rfl,rfl⟩) (za (pv 3) zd)))))
   (zm (zH (pv 1))))),?_⟩
  refine fun d hd=>?_
  have e0:NB H (upd H d (.dK [])) [] ([]:List (Int×Int)):=⟨(fun i v z=>nomatch z),(fun _ _=>rfl),(fun i j l z=>nomatch z),zG _⟩
  have s0:Same H (upd H d (.dK [])):=ze hd
  have step:∀(i:Nat) (x:V) (H1:Hp) (kvs:List (Key×V)),xs[i]? =some x->H1 d=some (.dK kvs)->NB H H1 kvs (as.take i)->Same H H1->∃(a:Addr) (p:Int×Int),x=.ref a/\SqT K H1 a [.int p.1,.int p.2]/\as[i]? =some p/\i<as.length/\as.take (i+1)=as.take i++[p]:=fun i x H1 kvs hx _ _ sm=>by
   obtain⟨dd,e1,r1⟩:=(rp.same sm).get hx
   rw[qJ] at e1
   obtain⟨p,ep,rfl⟩:=qw.mp e1
   obtain⟨h1,h2⟩:=zQ.mp ep
   obtain⟨a,ws,rfl,qa,x1,r1',rfl,e2,x2,r2',rfl,e3,e4⟩:=r1
   cases e2
   cases e3
   cases e4
   exact⟨a,p,rfl,qa,ep,h1,by rw[<- h2,yd]⟩
  refine⟨_,rfl,t,rfl,ht.elim (fun hL=>.inl ⟨⟨_,s0.seq hL⟩,jP (K:=K) (a:=t) (xs:=xs) (fun i σ H'=>Ex3 fun(v2 v3:Option V) (kvs:List (Key×V))=>An4 (σ=[some (.ref t),some (.ref d),v2,v3]) (H' d=some (.dK kvs)) (NB H H' kvs (as.take i)) (Same H H'))
   ⟨_,_,[],rfl,zb,e0,s0⟩ (fun i σ H' _ ⟨_,_,_,_,_,_,sm⟩=>sm.seq hL) ?s1 ?e1⟩) (fun hT=>.inr ⟨⟨_,s0.sqT hT⟩,Y4 (K:=K) (a:=t) (xs:=xs) (fun i σ H'=>Ex3 fun(v2 v3:Option V) (kvs:List (Key×V))=>An4 (σ=[some (.ref t),some (.ref d),v2,v3]) (H' d=some (.dK kvs)) (NB H H' kvs (as.take i)) (Same H H'))
   ⟨_,_,[],rfl,zb,e0,s0⟩ (fun i σ H' _ ⟨_,_,_,_,_,_,sm⟩=>sm.sqT hT) ?s2 ?e2⟩)⟩
  case e1 | e2=>
   rintro σ H1 ⟨v2,v3,kvs,rfl,h1,n1,sm⟩
   rw[lx,jh] at n1
   exact⟨_,rfl,k d kvs H1 sm hd h1 n1⟩
  case s1 | s2=>
   rintro i x σ H1 hx ⟨v2,v3,kvs,rfl,h1,n1,sm⟩
   obtain⟨a,p,rfl,qa,ep,hi,et⟩:=step i x H1 kvs hx h1 n1 sm
   rw[et]
   have few:=n1.few
   rw[qT] at few
   refine⟨a,_,rfl,qa,rfl,_,_,rfl,_,_,rfl,rfl,?_⟩
   refine⟨_,rfl,d,rfl,.inl ⟨_,.inl h1⟩,_,rfl,le0,fun m hm=>⟨kvs,Sum.inl p.1,(ze (o:=.lst []) hm) _ _ h1,rfl,by omega,fun v hv=>?_,fun hv=>?_⟩⟩
   ·obtain⟨l,rfl,l0,ll⟩:=n1.at_ _ v hv
    have L:=(ze (o:=.lst []) hm) _ _ ll
    have nd:d≠l:=fun z=>by rw[<- z,h1] at ll;cases ll
    have sl:=zc5 (as.take i) p.1
    rw[qT] at sl
    refine⟨.inl ⟨rfl,_,SqL.of L⟩,_,rfl,l,_,_,rfl,rfl,L,by rw[zp];omega,?_⟩
    exact⟨_,_,kvs,rfl,by rw[zi nd];exact(ze (o:=.lst []) hm) _ _ h1,n1.old (ze hm) hv,fun c o e=>by rw[zi (zj e l0)];exact(ze hm) _ _ (sm _ _ e)⟩
   ·have nmd:m≠d:=fun z=>by rw[z,h1] at hm;cases hm
    have m0:H m=none:=by
     cases z:H m with
     | none=>rfl
     | some o=>rw[sm _ _ z] at hm;cases hm
    have L:upd (upd H1 m (.lst [])) d (.dK (j6 kvs (Sum.inl p.1) (.ref m))) m=some (.lst []):=by rw[zi nmd];exact zb
    refine⟨.inl ⟨rfl,_,SqL.of L⟩,_,rfl,m,_,_,rfl,rfl,L,by show 0<_;omega,?_⟩
    exact⟨_,_,_,rfl,by rw[zi (qz nmd)];exact zb,n1.new hm m0 h1 hv,fun c o e=>by rw[zi (zj e m0),zi (zj e hd),zi (zj e m0)];exact sm _ _ e⟩
end
def Wk(as:List (Int×Int)):Nat->Int->Int->Prop
 | 0,i,j=>i=j
 | n+1,i,j=>∃m,(i,m)∈as/\Wk as n m j
section
variable{as:List (Int×Int)}
theorem Wk.snoc:∀{n:Nat} {i j k:Int},Wk as n i j->(j,k)∈as->Wk as (n+1) i k
 | 0,i,j,k,h,e=>by cases(show i=j from h);exact⟨k,e,rfl⟩
 | n+1,i,j,k,⟨m,h,h'⟩,e=>⟨m,h,Wk.snoc h' e⟩
theorem Wk.add:∀{n m:Nat} {i j k:Int},Wk as n i j->Wk as m j k->Wk as (n+m) i k
 | 0,m,i,j,k,h,e=>by cases(show i=j from h);rw[Nat.zero_add];exact e
 | n+1,m,i,j,k,⟨x,h,h'⟩,e=>by rw[Nat.add_right_comm];exact⟨x,h,Wk.add h' e⟩
theorem Wk.split:∀{n m:Nat} {i k:Int},Wk as (n+m) i k->∃j,Wk as n i j/\Wk as m j k
 | 0,m,i,k,h=>by rw[Nat.zero_add] at h;exact⟨i,rfl,h⟩
 | n+1,m,i,k,h=>by
  rw[Nat.add_right_comm] at h
  obtain⟨x,h1,h2⟩:=h
  obtain⟨j,h3,h4⟩:=Wk.split h2
  exact⟨j,⟨x,h1,h3⟩,h4⟩
theorem Wk.closed{C:Int->Prop}(c:∀x y,C x->(x,y)∈as->C y):∀{n:Nat} {i j:Int},C i->Wk as n i j->C j
 | 0,i,j,h,e=>by cases(show i=j from e);exact h
 | n+1,i,j,h,⟨m,e,w⟩=>Wk.closed c (c i m h e) w
theorem Wk.back:∀{n:Nat} {i j:Int},Wk as n i j->Wk (as.map Prod.swap) n j i
 | 0,i,j,h=>Eq.symm h
 | n+1,i,j,⟨m,e,w⟩=>Wk.snoc (Wk.back w) (qo.mpr ⟨(i,m),e,rfl⟩)
theorem Vy{i j:Int}:j∈vy as i↔(i,j)∈as:=by
 unfold vy
 rw[qo]
 constructor
 ·rintro⟨⟨a,b⟩,h,rfl⟩
  obtain⟨h1,h2⟩:=jz.mp h
  rw[<- jA h2]
  exact h1
 ·intro h
  exact⟨(i,j),jz.mpr ⟨h,qv rfl⟩,rfl⟩
end
theorem Q6(as:List (Int×Int)):(as.map Prod.swap).map Prod.swap=as:=by
 rw[wu]
 exact List.map_id'' (fun _=>rfl) as
def dkI(ps:List (Int×Int)):List (Key×V):=ps.map fun p=>(Sum.inl p.1,V.int p.2)
theorem Y7(ps:List (Int×Int)):(dkI ps).length=ps.length:=zp _
theorem Xi:∀(ps:List (Int×Int)) (i:Int),(∃v,je (dkI ps) (Sum.inl i)=some (.int v)/\i∈ps.map (·.1))\/(je (dkI ps) (Sum.inl i)=none/\i∉ps.map (·.1))
 | [],i=>.inr ⟨rfl,by simp⟩
 | p::ps,i=>by
  by_cases h:p.1=i
  ·exact .inl ⟨p.2,jx (by show Sum.inl p.1=_;rw[h]),by simp[h]⟩
  ·have e:je (dkI (p::ps)) (Sum.inl i)=je (dkI ps) (Sum.inl i):=jy (fun z=>h (wZ z))
   rcases Xi ps i with ⟨v,h1,h2⟩ | ⟨h1,h2⟩
   ·exact .inl ⟨v,e.trans h1,by simp only[jJ,zS];exact .inr h2⟩
   ·exact .inr ⟨e.trans h1,by simp only[jJ,zS];rintro(z | z);exact h z.symm;exact h2 z⟩
theorem zdV{ps:List (Int×Int)}{i v:Int}(h:je (dkI ps) (Sum.inl i)=none):j6 (dkI ps) (Sum.inl i) (.int v)=dkI (ps++[(i,v)]):=by
 rw[Vl _ h]
 unfold dkI
 rw[zZ]
 rfl
theorem Js{α:Type}[DecidableEq α]:∀{l m:List α},l.Nodup->(∀x∈l,x∈m)->l.length<=m.length
 | [],_,_,_=>qu _
 | x::l,m,h,s=>by
  have hx:=s x (by simp)
  have h':=yA.mp h
  have:=Js (l:=l) (m:=m.erase x) h'.2 fun y hy=>(List.mem_erase_of_ne (fun e:y=x=>h'.1 (e▸hy))).mpr (s y (qV _ hy))
  rw[W1 hx] at this
  have:=WW hx
  rw[qU];omega
def InN(n:Nat)(i:Int):Prop:=0<=i/\i<n
theorem wc{n:Nat}{l:List Int}(h:l.Nodup)(s:∀x∈l,InN n x):l.length<=n:=by
 have:=Js (m:=(List.range n).map fun k:Nat=>(k:Int)) h fun x hx=>by
  obtain⟨h0,h1⟩:=s x hx
  exact qo.mpr ⟨x.toNat,xK.mpr (by omega),by omega⟩
 rwa[zp,vd] at this
theorem yk{α:Type}{l:List α}{x:α}(h:l.Nodup)(hx:x∉l):(l++[x]).Nodup:=by
 rw[WL]
 exact⟨h,by simp,fun a ha b hb e=>hx (by rw[qg] at hb;rw[<- hb,<- e];exact ha)⟩
structure RowsOk(H:Hp)(rk:List (Key×V))(as:List (Int×Int)):Prop where
 at_:∀i v,je rk (Sum.inl i)=some v->∃l,v=.ref l/\H l=some (.lst ((vy as i).map V.int))
 no:∀i,je rk (Sum.inl i)=none->vy as i=[]
theorem RowsOk.same{H H':Hp}{rk:List (Key×V)}{as:List (Int×Int)}(r:RowsOk H rk as)(s:Same H H'):RowsOk H' rk as:=⟨fun i v e=>let ⟨l,a,b⟩:=r.at_ i v e;⟨l,a,s _ _ b⟩,r.no⟩
def WSt(H:Hp)(as:List (Int×Int))(n:Nat)(s:Int)(r d:Addr)(m:Nat)(σ:St)(H':Hp):Prop:=
 ∃(e:Addr) (es:List Int) (ps:List (Int×Int)) (v4 v5 v6:Option V),σ=[some (.int s),some (.ref r),some (.ref d),some (.ref e),v4,v5,v6]/\H e=none/\e≠d/\H' e=some (.lst (es.map V.int))/\H' d=some (.dK (dkI ps))/\Same H H' /\
  (ps.map (·.1)).Nodup/\(∀j∈ps.map (·.1),∃k,Wk as k s j)/\s∈ps.map (·.1)/\(∀j∈es,j∈ps.map (·.1))/\(∀x∈ps.map (·.1),x∉es->∀y,(x,y)∈as->y∈ps.map (·.1))/\es.length<=60/\m=2*(n-ps.length)+(if es=[] then 0 else 1)
structure RSt(as:List (Int×Int))(s:Int)(d l:Addr)(ps:List (Int×Int))(H H':Hp)(qs:List (Int×Int))(rs:List Int):Prop where
 hd:H' d=some (.dK (dkI qs))
 hl:H' l=some (.lst (rs.map V.int))
 sm:Same H H'
 nd:(qs.map (·.1)).Nodup
 snd:∀j∈qs.map (·.1),∃k,Wk as k s j
 eq:qs.map (·.1)=ps.map (·.1)++rs
section
variable{P:Program}{w:World}{K:PySem.W.Frag}{mg:Str->Option Value}{base:Heap}
inductive Ji(K:PySem.W.Frag)(vs:List V)(H:Hp)(Q:VK):Prop
 | mk (s:Int) (r:Addr) (rk:List (Key×V)) (as:List (Int×Int)) (n:Nat) (_:vs=[.int s,.ref r]) (_:H r=some (.dK rk)) (_:RowsOk H rk as) (_:n<=60) (_:InN n s) (_:(∀p∈as,InN n p.2)) (_:as.length<=1000) (_:∀(d:Addr) (ps:List (Int×Int)) H',Same H H'->H d=none->H' d=some (.dK (dkI ps))->(ps.map (·.1)).Nodup->ps.length<=n->(∀j,j∈ps.map (·.1)↔∃k,Wk as k s j)->Q (.ref d) H'):Ji K vs H Q
def Yl(K:PySem.W.Frag):Sp:=fun vs H Q _=>Ji K vs H Q
theorem YB:zK ["start", "rows", "steps", "edge", "reached", "part", "other"] ["start", "rows"] (zu (topL 6)):=⟨rfl,rfl,rfl,by decide +kernel,rfl,by decide +kernel,by decide +kernel⟩
theorem zb2{f:Addr}{fd:FuncData}(F:Fun K "steps_from" "steps_from" (topL 6) f fd)(B:Blt mg):FnOk P w K mg base CX0 1 f fd ["start", "rows"] (Yl K):=by
 have nd:=YB.nd
 refine F.ok YB (fun vs H Q E h=>?_) (fun cdv A outer s H vs Q E hr h=>?_)
 ·obtain⟨s,r,rk,as,n,rfl,_⟩:=h
  rfl
 ·obtain⟨s,r,rk,as,n,rfl,hR,ro,n60,ins,ina,al,k⟩:=h
  have hbig:100000<sizeLine:=by rw[sizeLine_eq];decide
  have hu1:=Qp hr
  refine⟨_,(zg (zD (i:=2) nd rfl (Or.inl rfl) (J6 (xG (pv 0) zf J5) rfl rfl (by intro z;cases z) (by show 1<=15;decide)))
   (zg (zD (i:=3) nd rfl (Or.inl rfl) (zN (za (pv 0) zd)))
   (zg (Vm jw (zdb (pv 3))
   (zg (zD (i:=4) nd rfl (Or.inl rfl) (zN zd))
    (zg (qO jw rfl (qN (pv 3)) (zy (i:=5) nd rfl (Or.inl rfl))
    (zm (qO jw rfl (qN (zbW hu1 (pv 1) (pv 5) (zN zd) ⟨rfl,rfl,rfl,rfl⟩)) (zy (i:=6) nd rfl (Or.inl rfl))
     (zm (qY (ze4 (zaE hu1 (pv 6) (pv 2)))
      (zg (J4 hu1 (pv 2) (pv 6) (zB qE (qD hu1 (pv 2) (pv 5) (fun _ _=>rfl)) zf) rfl)
       (zm (zU (qZ qW jM jL zV (pv 4) (za (pv 6) zd)))))
      qK)))))
    (zm (zD (i:=3) nd rfl (Or.inl rfl) (pv 4))))))
   (zm (zH (pv 2)))))),?_⟩
  refine fun d hd=>⟨_,rfl,zb,[(Sum.inl s,.int 0)],rfl,(by show 1<=15;decide),_,rfl,le1,fun e he=>?_⟩
  have ed:e≠d:=fun z=>by rw[z,zb] at he;cases he
  have e0:H e=none:=by rw[zi ed,zi ed] at he;exact he
  have s0:Same H (upd (upd (upd H d (.dK [])) d (.dK (ju [] [(Sum.inl s,V.int 0)]))) e (.lst [.int s])):=fun c o z=>by rw[zi (zj z e0),zi (zj z hd),zi (zj z hd)];exact z
  have dd0:(upd (upd (upd H d (.dK [])) d (.dK (ju [] [(Sum.inl s,V.int 0)]))) e (.lst [.int s])) d=some (.dK (dkI [(s,0)])):=by rw[zi (qz ed),zb];rfl
  have ee0:(upd (upd (upd H d (.dK [])) d (.dK (ju [] [(Sum.inl s,V.int 0)]))) e (.lst [.int s])) e=some (.lst ([s].map V.int)):=zb
  generalize upd (upd (upd H d (.dK [])) d (.dK (ju [] [(Sum.inl s,V.int 0)]))) e (.lst [.int s])=H1 at s0 dd0 ee0
  refine⟨WSt H as n s r d,⟨_,e,[s],[(s,0)],_,_,_,rfl,e0,ed,ee0,dd0,s0,by simp,fun j hj=>⟨0,by simp at hj;exact hj.symm⟩,by simp,by simp,fun x hx hn=>absurd hx (by simpa using hn),by simp,rfl⟩,?_⟩
  rintro m σ H2 ⟨e,es,ps,v4,v5,v6,rfl,en,ned,he2,hd2,s2,nd2,snd,hs2,sub2,cl2,el,rfl⟩
  have inn:∀j∈ps.map (·.1),InN n j:=fun j hj=>by
   obtain⟨k,wk⟩:=snd j hj
   exact Wk.closed (C:=InN n) (fun x y _ h=>ina _ h) ins wk
  have pl:ps.length<=n:=by have:=wc nd2 inn;rwa[zp] at this
  refine⟨_,rfl,e,_,rfl,SqL.of he2,?_⟩
  cases es with
  | nil=>
   refine ifF (by rfl) ?_
   refine⟨_,rfl,k d ps H2 s2 hd hd2 nd2 pl fun j=>⟨snd j,fun ⟨k,wk⟩=>Wk.closed (C:=fun j=>j∈ps.map (·.1)) (fun x y hx h=>cl2 x hx (by simp) y h) hs2 wk⟩⟩
  | cons e1 er=>
   refine ifT (by rfl) ?_
   refine⟨fun σ' H'=>∃m',m'<2*(n-ps.length)+(if e1::er=[] then 0 else 1)/\WSt H as n s r d m' σ' H',fun _ _ h=>h,?_⟩
   refine⟨le0,fun l hl=>?_⟩
   have lH:H l=none:=by
    cases z:H l with
    | none=>rfl
    | some o=>rw[s2 _ _ z] at hl;cases hl
   have ld:l≠d:=fun z=>by rw[z,hd2] at hl;cases hl
   have le:l≠e:=fun z=>by rw[z,he2] at hl;cases hl
   refine⟨_,rfl,e,rfl,⟨_,SqL.of ((ze hl) _ _ he2)⟩,jP (K:=K) (a:=e) (xs:=(e1::er).map V.int) (fun i σ H'=>Ex4 fun(v5 v6:Option V) (qs:List (Int×Int)) (rs:List Int)=>An4 (σ=[some (.int s),some (.ref r),some (.ref d),some (.ref e),some (.ref l),v5,v6]) (H' e=some (.lst ((e1::er).map V.int))) (RSt as s d l ps H H' qs rs) ((∀x∈(e1::er).take i,∀y,(x,y)∈as->y∈qs.map (·.1))))
    ⟨_,_,ps,[],rfl,(ze hl) _ _ he2,⟨(ze hl) _ _ hd2,zb,s2.trans (ze hl),nd2,snd,by simp⟩,by simp⟩ (fun i σ H' _ ⟨_,_,_,_,_,h,_,_⟩=>SqL.of h) ?_ ?_⟩
   ·rintro i x σ H3 hx ⟨v5,v6,qs,rs,rfl,he3,R3,cl3⟩
    rw[qJ] at hx
    obtain⟨x,ex,rfl⟩:=qw.mp hx
    have et:(e1::er).take (i+1)=(e1::er).take i++[x]:=by
     obtain⟨h1,h2⟩:=zQ.mp ex
     rw[<- h2,yd]
    have xk:x∈ps.map (·.1):=sub2 x (qG ex)
    have xq:x∈qs.map (·.1):=by rw[R3.eq];exact ji _ xk
    refine⟨_,rfl,r,rfl,.inl ⟨_,.inl (R3.sm _ _ hR)⟩,_,rfl,le0,fun q hq=>?_⟩
    have sq:=ze (H:=H3) (o:=.lst []) hq
    have qd:q≠d:=fun z=>by rw[z,R3.hd] at hq;cases hq
    have ql:q≠l:=fun z=>by rw[z,R3.hl] at hq;cases hq
    refine⟨_,.inl ⟨rk,Sum.inl x,.inl (sq _ _ (R3.sm _ _ hR)),rfl,rfl⟩,?_⟩
    have tt:∃t,(je rk (Sum.inl x)).getD (.ref q)=.ref t/\upd H3 q (.lst []) t=some (.lst ((vy as x).map V.int))/\t≠d/\t≠l:=by
     cases z:je rk (Sum.inl x) with
     | none=>exact⟨q,rfl,by rw[ro.no x z];exact zb,qd,ql⟩
     | some v=>
      obtain⟨t,rfl,ht⟩:=ro.at_ x v z
      exact⟨t,rfl,sq _ _ (R3.sm _ _ ht),zj ht hd,zj ht lH⟩
    obtain⟨t,etq,ht,td,tl⟩:=tt
    rw[etq]
    refine⟨t,rfl,⟨_,SqL.of ht⟩,jP (K:=K) (a:=t) (xs:=(vy as x).map V.int) (fun k σ H'=>Ex3 fun(v6:Option V) (qs:List (Int×Int)) (rs:List Int)=>An6 (σ=[some (.int s),some (.ref r),some (.ref d),some (.ref e),some (.ref l),some (.int x),v6]) (H' e=some (.lst ((e1::er).map V.int))) (H' t=some (.lst ((vy as x).map V.int))) (RSt as s d l ps H H' qs rs) ((∀x∈(e1::er).take i,∀y,(x,y)∈as->y∈qs.map (·.1))) (∀y∈(vy as x).take k,y∈qs.map (·.1)))
     ⟨_,qs,rs,rfl,sq _ _ he3,ht,⟨sq _ _ R3.hd,sq _ _ R3.hl,R3.sm.trans sq,R3.nd,R3.snd,R3.eq⟩,cl3,by simp⟩ (fun i σ H' _ ⟨_,_,_,_,_,h,_,_,_⟩=>SqL.of h) ?_ ?_⟩
    ·rintro j y σ H4 hy ⟨v6,qs,rs,rfl,he4,ht4,R4,cl4,dn4⟩
     rw[qJ] at hy
     obtain⟨y,ey,rfl⟩:=qw.mp hy
     have ety:(vy as x).take (j+1)=(vy as x).take j++[y]:=by
      obtain⟨h1,h2⟩:=zQ.mp ey
      rw[<- h2,yd]
     have xy:(x,y)∈as:=Vy.mp (qG ey)
     have xk4:x∈qs.map (·.1):=by rw[R4.eq];exact ji _ xk
     refine⟨_,rfl,_,rfl,d,_,rfl,.inl ⟨_,Sum.inl y,.inl R4.hd,rfl,rfl⟩,?_⟩
     rcases Xi qs y with ⟨v,hv,my⟩ | ⟨hv,my⟩
     ·rw[hv]
      refine⟨_,rfl,ifF (by rfl) ?_⟩
      refine⟨_,qs,rs,rfl,he4,ht4,R4,cl4,fun z hz=>?_⟩
      rw[ety] at hz
      rcases zY.mp hz with h | h
      ·exact dn4 z h
      ·rw[qg.mp h];exact my
     ·rw[hv]
      refine⟨_,rfl,ifT (by rfl) ?_⟩
      rcases Xi qs x with ⟨vx,hvx,_⟩ | ⟨_,z⟩
      ·have inq:∀j∈qs.map (·.1),InN n j:=fun j hj=>by
        obtain⟨k,wk⟩:=R4.snd j hj
        exact Wk.closed (C:=InN n) (fun x y _ h=>ina _ h) ins wk
       have ql:qs.length<=n:=by have:=wc R4.nd inq;rwa[zp] at this
       have lq:qs.length=ps.length+rs.length:=by
        have:=congrArg List.length R4.eq
        rwa[zW,zp,zp] at this
       refine⟨_,rfl,_,rfl,d,_,rfl,.inl ⟨_,Sum.inl x,.inl R4.hd,rfl,hvx.symm⟩,_,_,rfl,rfl,_,rfl,_,rfl,d,_,rfl,.inl ⟨_,Sum.inl y,R4.hd,rfl,by rw[Y7];omega,rfl⟩,?_⟩
       rw[zdV hv]
       have H5l:upd H4 d (.dK (dkI (qs++[(y,vx+1)]))) l=some (.lst (rs.map V.int)):=by rw[zi ld];exact R4.hl
       refine⟨_,rfl,.inl ⟨rfl,_,SqL.of H5l⟩,_,rfl,l,_,_,rfl,rfl,H5l,by rw[zp];omega,?_⟩
       refine⟨_,qs++[(y,vx+1)],rs++[y],rfl,by rw[zi (qz le),zi ned];exact he4,by rw[zi tl,zi td];exact ht4,⟨by rw[zi (qz ld)];exact zb,by rw[zb,zZ];rfl,fun c o z=>by rw[zi (zj z lH),zi (zj z hd)];exact R4.sm _ _ z,?_,?_,by rw[zZ,R4.eq,jm];rfl⟩,fun z hz u hu=>?_,fun z hz=>?_⟩
       ·rw[zZ]
        exact yk R4.nd my
       ·intro z hz
        rw[zZ] at hz
        rcases zY.mp hz with h | h
        ·exact R4.snd z h
        ·obtain⟨k,wk⟩:=R4.snd x xk4
         rw[qg.mp h]
         exact⟨k+1,wk.snoc xy⟩
       ·rw[zZ]
        exact ji _ (cl4 z hz u hu)
       ·rw[ety] at hz
        rw[zZ]
        rcases zY.mp hz with h | h
        ·exact ji _ (dn4 z h)
        ·exact qH _ h
      ·exact absurd xk4 z
    ·rintro σ H4 ⟨v6,qs,rs,rfl,he4,ht4,R4,cl4,dn4⟩
     rw[zp,jh] at dn4
     refine⟨_,_,qs,rs,rfl,he4,R4,fun z hz y hy=>?_⟩
     rw[et] at hz
     rcases zY.mp hz with h | h
     ·exact cl4 z h y hy
     ·rw[qg.mp h] at hy
      exact dn4 y (Vy.mpr hy)
   ·rintro σ H3 ⟨v5,v6,qs,rs,rfl,he3,R3,cl3⟩
    rw[zp,jh] at cl3
    have inq:∀j∈qs.map (·.1),InN n j:=fun j hj=>by
     obtain⟨k,wk⟩:=R3.snd j hj
     exact Wk.closed (C:=InN n) (fun x y _ h=>ina _ h) ins wk
    have ql:qs.length<=n:=by have:=wc R3.nd inq;rwa[zp] at this
    have lq:qs.length=ps.length+rs.length:=by
     have:=congrArg List.length R3.eq
     rwa[zW,zp,zp] at this
    refine⟨_,rfl,2*(n-qs.length)+(if rs=[] then 0 else 1),?_,l,rs,qs,_,_,_,rfl,lH,ld,R3.hl,R3.hd,R3.sm,R3.nd,R3.snd,by rw[R3.eq];exact ji _ hs2,fun j hj=>by rw[R3.eq];exact qH _ hj,fun x hx hn y hy=>?_,by omega,rfl⟩
    ·rw[zq (by simp:¬e1::er=[])]
     split
     ·omega
     ·rename_i h
      have:=XD.mpr h
      omega
    ·rw[R3.eq] at hx
     rcases zY.mp hx with h | h
     ·by_cases hx2:x∈e1::er
      ·exact cl3 x hx2 y hy
      ·rw[R3.eq];exact ji _ (cl2 x h hx2 y hy)
     ·exact absurd h hn
end
theorem zeb{ms ns:List Int}(p:ms.Perm ns)(nd:ns.Nodup)(h:ms.Pairwise (·<= ·)):ms.Pairwise (·< ·):=by
 have n':ms.Pairwise (·≠ ·):=p.nodup_iff.mpr nd
 exact(h.and n').imp fun ⟨a,b⟩=>by omega
section
variable{P:Program}{w:World}{K:PySem.W.Frag}{mg:Str->Option Value}{base:Heap}
inductive Yy(K:PySem.W.Frag)(vs:List V)(H:Hp)(Q:VK):Prop
 | mk (s:Int) (r:Addr) (rk:List (Key×V)) (as:List (Int×Int)) (n:Nat) (_:vs=[.int s,.ref r]) (_:H r=some (.dK rk)) (_:RowsOk H rk as) (_:n<=60) (_:InN n s) (_:(∀p∈as,InN n p.2)) (_:as.length<=1000) (_:∀(l:Addr) (ms:List Int) H',Same H H'->H l=none->H' l=some (.lst (ms.map V.int))->ms.length<=60->ms.Pairwise (·< ·)->(∀j,j∈ms↔j≠s/\∃k,Wk as k s j)->Q (.ref l) H'):Yy K vs H Q
def zek(K:PySem.W.Frag):Sp:=fun vs H Q _=>Yy K vs H Q
theorem zeu:zK ["part", "rows"] ["part", "rows"] (zu (topL 7)):=⟨rfl,rfl,rfl,by decide +kernel,rfl,by decide +kernel,by decide +kernel⟩
theorem zfs{f:Addr}{fd:FuncData}(F:Fun K "all_from" "all_from" (topL 7) f fd)(B:Blt mg)(Dsteps_from:Dfn P w K mg base "steps_from" 1 ["start", "rows"] (Yl K)):FnOk P w K mg base CX0 2 f fd ["part", "rows"] (zek K):=by
 have nd:=zeu.nd
 refine F.ok zeu (fun vs H Q E h=>?_) (fun cdv A outer s H vs Q E hr h=>?_)
 ·obtain⟨s,r,rk,as,n,rfl,_⟩:=h
  rfl
 ·obtain⟨s,r,rk,as,n,rfl,hR,ro,n60,ins,ina,al,k⟩:=h
  have hbig:100000<sizeLine:=by rw[sizeLine_eq];decide
  refine⟨_,(zm (zH (zo vI rfl B.sorted vc (za (j8 ["part"] [0] rfl rfl (by kernel_rfl) (zbU (zk Dsteps_from (hr.mono (by decide)) rfl (za (pv 0) (za (pv 1) zd)))) (fun _ _ _ _=>(vg (zC zbZ (pv 0) (pv 1) (zE _)))) (fun _ _ _ _=>(pv 0))) zd)))),?_⟩
  refine⟨_,rfl,_,rfl,s,r,rk,as,n,rfl,hR,ro,n60,ins,ina,al,fun d ps H1 s1 hd hd1 nd1 lp mem=>⟨d,_,rfl,hd1,fun o=>zcl (d:=d) (o:=o) (kvs:=dkI ps) (fun i zs H'=>zs=(((ps.take i).map (·.1)).filter fun j=>decide (j≠s)).map V.int/\H'=upd H1 d (.frz o (.dK (dkI ps)))) ⟨rfl,rfl⟩ (fun i zs H' ⟨_,h⟩=>by rw[h];exact zb) ?_ ?_⟩⟩
  ·rintro i kk v zs H2 hx ⟨rfl,rfl⟩
   unfold dkI at hx
   rw[qJ] at hx
   obtain⟨p,ep,e1⟩:=qw.mp hx
   cases e1
   have et:ps.take (i+1)=ps.take i++[p]:=by
    obtain⟨h1,h2⟩:=zQ.mp ep
    rw[<- h2,yd]
   have hi:=(zQ.mp ep).1
   rw[et,zZ,vP,zZ]
   have lf:=xr (fun j=>decide (j≠s)) ((ps.take i).map (·.1))
   rw[zp,qT] at lf
   refine⟨rfl,_,rfl,_,rfl,rfl,_,rfl,?_⟩
   by_cases c:p.1=s
   ·refine ifF (by show(!decide (V.int p.1=V.int s))=false;rw[c];simp) ⟨?_,rfl⟩
    simp[c]
   ·refine ifT (by show(!decide (V.int p.1=V.int s))=true;rw[jS (fun z=>c (V.int.inj z))];rfl) ⟨_,rfl,by rw[zp];omega,?_,rfl⟩
    simp[c,kV]
  ·rintro zs H2 ⟨rfl,rfl⟩
   rw[Y7,jh]
   have lf:=xr (fun j=>decide (j≠s)) (ps.map (·.1))
   rw[zp] at lf
   refine⟨by rw[zp];omega,fun l hl=>⟨l,(ps.map (·.1)).filter fun j=>decide (j≠s),rfl,SqL.of zb,by omega,fun l2 ms hl2 pm pw=>?_⟩⟩
   have ld:l≠d:=fun z=>by rw[z,zb] at hl;cases hl
   have h1l:H1 l=none:=by rw[zi ld] at hl;exact hl
   have s3:Same H (upd (upd H1 d (.frz o (.dK (dkI ps)))) l (.lst (((ps.map (·.1)).filter fun j=>decide (j≠s)).map V.int))):=fun c o z=>by
    rw[zi (zj (s1 _ _ z) h1l),zi (zj z hd)]
    exact s1 _ _ z
   refine k l2 ms _ (s3.trans (ze hl2)) ?_ zb (by rw[pm.length_eq];omega) (zeb pm (nd1.filter _) pw) fun j=>?_
   ·cases z:H l2 with
    | none=>rfl
    | some o=>rw[s3 _ _ z] at hl2;cases hl2
   ·rw[pm.mem_iff,jz,mem j]
    constructor
    ·rintro⟨a,b⟩;exact⟨jA b,a⟩
    ·rintro⟨a,b⟩;exact⟨b,qv a⟩
def asI(J:Job):List (Int×Int):=J.as.map fun p=>((p.1:Int),(p.2:Int))
theorem zd3(J:Job):(asI J).map prD=J.as.map xc:=by
 unfold asI
 rw[wu]
 rfl
theorem y3(J:Job):(asI J).length=J.as.length:=zp _
inductive Jo(K:PySem.W.Frag)(vs:List V)(H:Hp)(Q:VK):Prop
 | mk (s:Int) (p:Addr) (J:Job) (_:vs=[.ref p,.int s]) (_:Rep K H (xR J) (.ref p)) (_:J.ps.length<=60) (_:InN J.ps.length s) (_:(∀q∈asI J,InN J.ps.length q.1/\InN J.ps.length q.2)) (_:J.as.length<=300) (_:∀(l:Addr) (ms:List Int) H',Same H H'->H l=none->H' l=some (.lst (ms.map V.int))->ms.length<=60->ms.Pairwise (·< ·)->(∀j,j∈ms↔j≠s/\∃k,Wk (asI J) k j s)->Q (.ref l) H'):Jo K vs H Q
def Yz(K:PySem.W.Frag):Sp:=fun vs H Q _=>Jo K vs H Q
theorem yo{J:Job}{H:Hp}{p:Addr}(h:Rep K H (xR J) (.ref p)):∃(t:Addr) (x0 x1 x2 x3:V) (xs:List V),SqT K H p [x0,x1,x2,x3,.ref t]/\SqT K H t xs/\Reps K H ((asI J).map prD) xs:=by
 obtain⟨a,xs,e,qa,x0,_,rfl,_,x1,_,rfl,_,x2,_,rfl,_,x3,_,rfl,_,x4,r4,rfl,e4,rfl⟩:=h
 cases e
 obtain⟨t,ys,rfl,qt,ry⟩:=e4
 exact⟨t,_,_,_,_,ys,qa,qt,by rw[zd3];exact ry⟩
theorem YG:zK ["job", "part"] ["job", "part"] (zu (topL 8)):=⟨rfl,rfl,rfl,by decide +kernel,rfl,by decide +kernel,by decide +kernel⟩
theorem zb8{f:Addr}{fd:FuncData}(F:Fun K "ahead_of" "ahead_of" (topL 8) f fd)(B:Blt mg)(Dturned:Dfn P w K mg base "turned" 1 ["pairs"] (Yi K))(Dnext_by:Dfn P w K mg base "next_by" 1 ["pairs"] (zbn K))(Dall_from:Dfn P w K mg base "all_from" 2 ["part", "rows"] (zek K)):FnOk P w K mg base CX0 3 f fd ["job", "part"] (Yz K):=by
 have nd:=YG.nd
 refine F.ok YG (fun vs H Q E h=>?_) (fun cdv A outer s H vs Q E hr h=>?_)
 ·obtain⟨s,p,J,rfl,_⟩:=h
  rfl
 ·obtain⟨s,p,J,rfl,rp,n60,ins,ina,al,k⟩:=h
  have hbig:100000<sizeLine:=by rw[sizeLine_eq];decide
  refine⟨_,(zm (zH (zk Dall_from (hr.mono (by decide)) rfl (za (pv 1) (za (zk Dnext_by (hr.mono (by decide)) rfl (za (zk Dturned (hr.mono (by decide)) rfl (za (zr zM (pv 0) zf (fun _ _=>rfl)) zd)) zd)) zd))))),?_⟩
  obtain⟨t,x0,x1,x2,x3,xs,qa,qt,rx⟩:=yo rp
  refine⟨_,rfl,_,rfl,p,_,_,_,rfl,rfl,qa,rfl,t,xs,asI J,rfl,qt,rx,by rw[y3];omega,fun l0 ys H0 s0 hl0 ry=>?_⟩
  have em:((asI J).map Prod.swap).map prD=(asI J).map fun p=>prD p.swap:=by rw[wu];rfl
  refine⟨l0,ys,(asI J).map Prod.swap,rfl,.inl (SqL.of hl0),by rw[em];exact ry,by rw[zp,y3];omega,fun d kvs H1 s1 hd hd1 nb=>?_⟩
  refine⟨s,d,kvs,(asI J).map Prod.swap,J.ps.length,rfl,hd1,⟨fun i v hv=>let ⟨l,a,_,b⟩:=nb.at_ i v hv;⟨l,a,b⟩,nb.no⟩,n60,ins,fun q hq=>?_,by rw[zp,y3];omega,fun l ms H2 s2 hl hl2 mlen pw mem=>?_⟩
  ·obtain⟨q',hq',rfl⟩:=qo.mp hq
   exact(ina q' hq').1
  refine k l ms H2 (s0.trans (s1.trans s2)) ?_ hl2 mlen pw fun j=>?_
  ·cases z:H l with
   | none=>rfl
   | some o=>rw[s1 _ _ (s0 _ _ z)] at hl;cases hl
  ·rw[mem j]
   refine⟨fun ⟨a,k,b⟩=>⟨a,k,?_⟩,fun ⟨a,k,b⟩=>⟨a,k,b.back⟩⟩
   have:=b.back
   rwa[Q6] at this
end
def dkB(ks:List Int):List (Key×V):=ks.map fun j=>(Sum.inl j,V.bl true)
def XQ(ks:List Int)(j:Int):List Int:=if j∈ks then ks else ks++[j]
def yF(ks js:List Int):List Int:=js.foldl XQ ks
theorem Y8:∀(ks:List Int) (i:Int),(je (dkB ks) (Sum.inl i)=some (.bl true)/\i∈ks)\/(je (dkB ks) (Sum.inl i)=none/\i∉ks)
 | [],i=>.inr ⟨rfl,by simp⟩
 | p::ps,i=>by
  by_cases h:p=i
  ·exact .inl ⟨jx (by show Sum.inl p=_;rw[h]),by simp[h]⟩
  ·have e:je (dkB (p::ps)) (Sum.inl i)=je (dkB ps) (Sum.inl i):=jy (fun z=>h (wZ z))
   rcases Y8 ps i with ⟨h1,h2⟩ | ⟨h1,h2⟩
   ·exact .inl ⟨e.trans h1,qV _ h2⟩
   ·exact .inr ⟨e.trans h1,by simp only[zS];rintro(z | z);exact h z.symm;exact h2 z⟩
theorem zdW(ks:List Int)(j:Int):j6 (dkB ks) (Sum.inl j) (.bl true)=dkB (XQ ks j):=by
 unfold XQ
 rcases Y8 ks j with ⟨h1,h2⟩ | ⟨h1,h2⟩
 ·rw[zx h2]
  unfold j6
  rw[zx (by rw[vi,h1];rfl)]
  unfold dkB
  rw[wu]
  refine List.map_congr_left fun x _=>?_
  show(if(Sum.inl x:Key)=Sum.inl j then((Sum.inl x:Key),V.bl true) else(Sum.inl x,V.bl true))=_
  split<;>rfl
 ·rw[zq h2,Vl _ h1]
  unfold dkB
  rw[zZ]
  rfl
theorem Zv:∀(js ks:List Int),ju (dkB ks) (dkB js)=dkB (yF ks js)
 | [],ks=>rfl
 | j::js,ks=>by
  show ju (j6 (dkB ks) (Sum.inl j) (.bl true)) (dkB js)=dkB (yF (XQ ks j) js)
  rw[zdW,Zv js]
theorem zcf{ks:List Int}{j x:Int}:x∈XQ ks j↔x∈ks\/x=j:=by
 unfold XQ
 split
 ·rename_i h
  constructor
  ·exact .inl
  ·rintro(z | z)
   ·exact z
   ·rw[z];exact h
 ·rw[zY,qg]
theorem vn:∀{js ks:List Int} {x:Int},x∈yF ks js↔x∈ks\/x∈js
 | [],ks,x=>by simp[yF]
 | j::js,ks,x=>by
  show x∈yF (XQ ks j) js↔_
  rw[vn,zcf,zS,or_assoc]
theorem Wn{ks:List Int}{j:Int}(h:ks.Nodup):(XQ ks j).Nodup:=by
 unfold XQ
 split
 ·exact h
 ·rename_i z
  exact yk h z
theorem yj:∀{js ks:List Int},ks.Nodup->(yF ks js).Nodup
 | [],_,h=>h
 | j::js,ks,h=>yj (js:=js) (Wn h)
theorem Z2(ks:List Int):(dkB ks).length=ks.length:=zp _
theorem Jf{α:Type}{l:List α}{i:Nat}{x:α}(h:l[i]? =some x):l.take (i+1)=l.take i++[x]:=by
 obtain⟨h1,h2⟩:=zQ.mp h
 rw[<- h2,yd]
structure Ov(H H':Hp)(ds:List Addr)(κ:Nat->List Int):Prop where
 nd:ds.Nodup
 at_:∀(p:Nat) (d:Addr),ds[p]? =some d->H d=none/\H' d=some (.dK (dkB (κ p)))
 sm:Same H H'
theorem Ov.snoc{H H1 H2:Hp}{ds:List Addr}{κ:Nat->List Int}{d:Addr}(o:Ov H H1 ds κ)(s:Same H1 H2)(h1:H1 d=none)(h2:H2 d=some (.dK (dkB (κ ds.length)))):Ov H H2 (ds++[d]) κ:=by
 refine⟨yk o.nd fun z=>?_,fun p e he=>?_,o.sm.trans s⟩
 ·obtain⟨p,hp⟩:=List.getElem?_of_mem z
  rw[(o.at_ p d hp).2] at h1
  cases h1
 ·by_cases hp:p<ds.length
  ·rw[xt hp] at he
   exact⟨(o.at_ p e he).1,s _ _ (o.at_ p e he).2⟩
  ·rw[xu (by omega)] at he
   have:p=ds.length:=by
    have:=(zQ.mp he).1
    simp at this;omega
   subst this
   simp at he
   subst he
   refine⟨?_,h2⟩
   cases z:H d with
   | none=>rfl
   | some o'=>rw[o.sm _ _ z] at h1;cases h1
def Wv(as:List (Int×Int))(p:Nat):List Int:=yF [] ((as.filter fun q=>decide (q.2=(p:Int))).map (·.1))
theorem Xk{ds:List Addr}{p:Nat}{d:Addr}(h:ds[p]? =some d):atI (ds.map V.ref) (p:Int)=some (.ref d):=by
 have hp:=(zQ.mp h).1
 obtain⟨v,h1,h2⟩:=QE (xs:=ds.map V.ref) (i:=(p:Int)) (by omega) (by rw[zp];omega)
 rw[h1,<- h2,xn,qJ,h]
 rfl
theorem Ov.upd{H H':Hp}{ds:List Addr}{κ:Nat->List Int}{p:Nat}{d:Addr}(o:Ov H H' ds κ)(h:ds[p]? =some d)(ks:List Int):Ov H (upd H' d (.dK (dkB ks))) ds (fun x=>if x=p then ks else κ x):=by
 refine⟨o.nd,fun q e he=>⟨(o.at_ q e he).1,?_⟩,fun c o' z=>by rw[zi (zj z (o.at_ p d h).1)];exact o.sm _ _ z⟩
 by_cases c:q=p
 ·subst c
  rw[h] at he
  cases he
  rw[zb,zx rfl]
 ·have ne:e≠d:=fun z=>by
   subst z
   obtain⟨h1,h2⟩:=zQ.mp h
   obtain⟨h3,h4⟩:=zQ.mp he
   exact c ((QH o.nd).mp (h4.trans h2.symm))
  rw[zi ne,zq c]
  exact(o.at_ q e he).2
theorem Ov.same{H H' H2:Hp}{ds:List Addr}{κ:Nat->List Int}(o:Ov H H' ds κ)(s:Same H' H2):Ov H H2 ds κ:=⟨o.nd,fun p d h=>⟨(o.at_ p d h).1,s _ _ (o.at_ p d h).2⟩,o.sm.trans s⟩
def W9(as:List (Int×Int))(κ:Nat->List Int):Prop:=∀p:Nat,(κ p).Nodup/\∀q∈κ p,∃k,1<=k/\Wk as k q p
def zea(as:List (Int×Int))(κ:Nat->List Int)(m p:Nat):Prop:=∀q k,1<=k->k<=m->Wk as k q p->q∈κ p
theorem VA{as:List (Int×Int)}{p:Nat}{q:Int}:q∈Wv as p↔(q,(p:Int))∈as:=by
 unfold Wv
 rw[vn,qo]
 constructor
 ·rintro(z | ⟨⟨a,b⟩,h,rfl⟩)
  ·exact absurd z (by simp)
  ·obtain⟨h1,h2⟩:=jz.mp h
   rw[<- jA h2]
   exact h1
 ·intro h
  exact .inr ⟨_,jz.mpr ⟨h,qv rfl⟩,rfl⟩
theorem zgN(as:List (Int×Int)):W9 as (Wv as):=fun p=>⟨yj WE,fun q h=>⟨1,zG _,_,VA.mp h,rfl⟩⟩
theorem zgO(as:List (Int×Int))(p:Nat):zea as (Wv as) 1 p:=fun q k h1 h2 wk=>by
 cases(show k=1 by omega)
 obtain⟨m,h,e⟩:=wk
 cases(show m=(p:Int) from e)
 exact VA.mpr h
theorem Wk.rank{as:List (Int×Int)}{rk:Int->Nat}(h:∀q∈as,rk q.1<rk q.2):∀{k:Nat} {a b:Int},Wk as k a b->rk a+k<=rk b
 | 0,a,b,e=>by cases(show a=b from e);exact zG _
 | k+1,a,b,⟨m,e,w⟩=>by
  have:=Wk.rank h w
  have:rk a<rk m:=h (a,m) e
  omega
theorem Wk.in1{as:List (Int×Int)}{n:Nat}(h:∀q∈as,InN n q.1/\InN n q.2):∀{k:Nat} {a b:Int},1<=k->Wk as k a b->InN n a
 | k+1,a,b,_,⟨m,e,w⟩=>(h _ e).1
theorem zdP{as:List (Int×Int)}{κ:Nat->List Int}{p o:Nat}(g:W9 as κ)(h:(o:Int)∈κ p):W9 as (fun x=>if x=p then yF (κ p) (κ o) else κ x):=fun x=>by
 dsimp only
 by_cases c:x=p
 ·subst c
  rw[zx rfl]
  refine⟨yj (g x).1,fun q hq=>?_⟩
  rcases vn.mp hq with z | z
  ·exact(g x).2 q z
  ·obtain⟨k1,a1,w1⟩:=(g o).2 q z
   obtain⟨k2,a2,w2⟩:=(g x).2 _ h
   exact⟨k1+k2,by omega,w1.add w2⟩
 ·rw[zq c]
  exact g x
theorem zaT{as:List (Int×Int)}{κ κ':Nat->List Int}{n m p:Nat}{ks:List Int}(ina:∀q∈as,InN n q.1/\InN n q.2)(f:∀x<n,zea as κ m x)(hp:p<n)(sub:∀x q,q∈κ x->q∈κ' x)(s1:∀q∈κ' p,q∈ks)(s2:∀o∈κ' p,∀q∈κ' o.toNat,q∈ks) :
  ∀q k,1<=k->k<=2*m->Wk as k q p->q∈ks:=fun q k h1 h2 wk=>by
 by_cases c:k<=m
 ·exact s1 q (sub p q (f p hp q k h1 c wk))
 ·have e:k=m+(k-m):=by omega
  rw[e] at wk
  by_cases m0:m=0
  ·omega
  obtain⟨j,w1,w2⟩:=wk.split
  have hj:=Wk.in1 ina (by omega) w2
  have ej:((j.toNat:Nat):Int)=j:=by have:=hj.1;omega
  have mj:=sub p j (f p hp j (k-m) (by omega) (by omega) w2)
  refine s2 j mj q (sub _ _ (f j.toNat (by have:=hj.1;have:=hj.2;omega) q m (by omega) (zG _) ?_))
  rw[ej]
  exact w1
def Rws(H H':Hp)(mss:List (List Int))(zs:List V):Prop:=zs.length=mss.length/\∀(p:Nat) (ms:List Int),mss[p]? =some ms->∃a,zs[p]? =some (.ref a)/\H a=none/\H' a=some (.lst (ms.map V.int))
theorem Rws.same{H H' H'':Hp}{mss:List (List Int)}{zs:List V}(h:Rws H H' mss zs)(s:Same H' H''):Rws H H'' mss zs:=⟨h.1,fun p ms e=>by
 obtain⟨a,e1,e2,e3⟩:=h.2 p ms e
 exact⟨a,e1,e2,s _ _ e3⟩⟩
theorem Rws.snoc{H H':Hp}{mss:List (List Int)}{zs:List V}{l:Addr}{ms:List Int}(h:Rws H H' mss zs)(h0:H l=none)(e:H' l=some (.lst (ms.map V.int))):Rws H H' (mss++[ms]) (zs++[.ref l]):=by
 refine⟨by rw[zW,zW,h.1];rfl,fun p ms' e'=>?_⟩
 by_cases c:p<mss.length
 ·rw[xt c] at e'
  rw[xt (by rw[h.1];exact c)]
  exact h.2 p ms' e'
 ·rw[xu (by omega)] at e'
  rw[xu (by rw[h.1];omega),h.1]
  have:p-mss.length=0:=by
   have:=(zQ.mp e').1
   simp at this;omega
  rw[this] at e' ⊢
  cases e'
  exact⟨l,rfl,h0,e⟩
section
variable{P:Program}{w:World}{K:PySem.W.Frag}{mg:Str->Option Value}{base:Heap}
inductive X6(K:PySem.W.Frag)(vs:List V)(H:Hp)(Q:VK):Prop
 | mk (t:Addr) (xs:List V) (as:List (Int×Int)) (n:Nat) (rk:Int->Nat) (_:vs=[.int n,.ref t]) (_:(SqL K H t xs\/SqT K H t xs)) (_:Reps K H (as.map prD) xs) (_:as.length<=1000) (_:n<=60) (_:(∀q∈as,InN n q.1/\InN n q.2)) (_:(∀q∈as,rk q.1<rk q.2)) (_:(∀i,rk i<=60)) (_:∀(l:Addr) (mss:List (List Int)) H',Same H H'->H l=none->(∃zs,H' l=some (.lst zs)/\Rws H H' mss zs)->mss.length=n->(∀p ms,mss[p]? =some ms->ms.Pairwise (·< ·)/\∀j,j∈ms↔∃k,1<=k/\Wk as k j (p:Nat))->Q (.ref l) H'):X6 K vs H Q
def Qa(K:PySem.W.Frag):Sp:=fun vs H Q _=>X6 K vs H Q
theorem zbA:zK ["_law_many", "_law_aheads_here", "_law_found", "_law_turn", "_law_part", "_law_one"] ["_law_many", "_law_aheads_here"] (zu (topL 34)):=⟨rfl,rfl,rfl,by decide +kernel,rfl,by decide +kernel,by decide +kernel⟩
theorem zdt{f:Addr}{fd:FuncData}(F:Fun K "_law_over" "_law_over" (topL 34) f fd)(B:Blt mg):FnOk P w K mg base CX0 1 f fd ["_law_many", "_law_aheads_here"] (Qa K):=by
 have nd:=zbA.nd
 refine F.ok zbA (fun vs H Q E h=>?_) (fun cdv A outer s H vs Q E hr h=>?_)
 ·obtain⟨t,xs,as,n,rk,rfl,_⟩:=h
  rfl
 ·obtain⟨t,xs,as,n,rk,rfl,ht,rp,al,n60,ina,rks,rk60,k⟩:=h
  have hbig:100000<sizeLine:=by rw[sizeLine_eq];decide
  have hu1:=Qp hr
  have lx:=rp.len
  rw[zp] at lx
  refine⟨_,(zg (ze5 ["_law_aheads_here"] [1] rfl rfl (by kernel_rfl) (qx rfl B.range (za (pv 0) zd)) (fun _ _ _ _=>jF) (fun _ _ _ _=>(jc (WC hr.hd) rfl B.dict za3 (za (zdj (K:=K) rfl ["_law_part"] [0] rfl rfl (by kernel_rfl) (zdh (K:=K) rfl (pv 1)) (fun _ _ _ _=>(vg (zC ja (pv 1) (pv 2) (zE _)))) (fun _ _ _ _=>(zX (za (pv 0) (za xH zd))))) zd))) (zy (i:=2) nd rfl (Or.inl rfl)))
   (zg (qO jw rfl (qx rfl B.range (za zf zd)) (zy (i:=3) nd rfl (Or.inl rfl))
   (zm (qO jw rfl (qx rfl B.range (za (pv 0) zd)) (zy (i:=4) nd rfl (Or.inl rfl))
    (zm (qO jw rfl (qN (jc (VR hr.hd) rfl B.list jq (za (zr zJ (pv 2) (pv 4) (fun _ _=>rfl)) zd))) (zy (i:=5) nd rfl (Or.inl rfl))
     (zm (zU (YM (zr zJ (pv 2) (pv 4) (fun _ _=>rfl)) (zr zJ (pv 2) (pv 5) (fun _ _=>rfl)) ⟨rfl,rfl,rfl,rfl⟩))))))))
   (zm (zH (j8 [] [] rfl rfl (by kernel_rfl) (qN (pv 2)) (fun _ _ _ _=>jF) (fun _ _ _ _=>(zo (Q9 hr.hd) rfl B.sorted vc (za (pv 0) zd)))))))),?_⟩
  have e62:(2:Int)^62=4611686018427387904:=by decide
  have l2:∀x y:V,[x,y].length<=sizeLine:=fun x y=>by rw[sizeLine_eq];show 2<=_;decide
  refine⟨_,rfl,_,rfl,(by rw[e62];omega),(by rw[e62];omega),yP (fun i zs H1=>∃ds:List Addr,zs=ds.map V.ref/\ds.length=i/\Ov H H1 ds (Wv as)) ⟨[],rfl,rfl,WE,(fun p d e=>by simp at e),Same.refl _⟩ ?_ ?_⟩
  ·rintro i zs H1 hi ⟨ds,rfl,ld,ov⟩
   have rp1:=rp.same ov.sm
   have i0:(0:Int)+(i:Int)=(i:Int):=Xm _
   rw[i0]
   refine⟨rfl,_,rfl,t,rfl,ht.elim (fun hL=>.inl ⟨⟨_,ov.sm.seq hL⟩,j4 (K:=K) (a:=t) (xs:=xs) (fun j ys H2=>PrsL H2 ys (dkB (((as.take j).filter fun q=>decide (q.2=(i:Int))).map (·.1)))/\Same H1 H2) ⟨PrsL.nil,Same.refl _⟩ (fun j ys H2 ⟨_,sm⟩=>(ov.sm.trans sm).seq hL) ?s1 ?e1⟩)
    (fun hT=>.inr ⟨⟨_,ov.sm.sqT hT⟩,wj (K:=K) (a:=t) (xs:=xs) (fun j ys H2=>PrsL H2 ys (dkB (((as.take j).filter fun q=>decide (q.2=(i:Int))).map (·.1)))/\Same H1 H2) ⟨PrsL.nil,Same.refl _⟩ (fun j ys H2 ⟨_,sm⟩=>(ov.sm.trans sm).sqT hT) ?s2 ?e2⟩)⟩
   case s1 | s2=>
    rintro j x ys H2 hx ⟨pr,sm⟩
    obtain⟨dd,e1,r1⟩:=(rp1.same sm).get hx
    rw[qJ] at e1
    obtain⟨q,eq,rfl⟩:=qw.mp e1
    obtain⟨a,ws,rfl,qa,x1,r1',rfl,e2,x2,r2',rfl,e3,e4⟩:=r1
    cases e2
    cases e3
    cases e4
    have hj:=(zQ.mp eq).1
    rw[Jf eq,vP,zZ]
    refine⟨a,_,rfl,qa,rfl,_,_,rfl,_,_,rfl,rfl,rfl,_,rfl,_,rfl,rfl,_,rfl,?_⟩
    by_cases c:q.2=(i:Int)
    ·refine ifT (by show decide (V.int q.2=V.int (i:Int))=true;rw[c];exact qv rfl) ⟨_,rfl,l2 _ _,fun T hT=>⟨?_,?_,sm.trans (ze hT)⟩⟩
     ·have:=pr.1
      have:=xr (fun q:Int×Int=>decide (q.2=(i:Int))) (as.take j)
      rw[Z2,zp] at *
      rw[qT] at this
      omega
     ·rw[w9,zx (qv c)]
      have e:∀a b,dkB (a++b)=dkB a++dkB b:=fun a b=>zZ
      rw[e]
      exact(pr.same (ze hT)).snoc (k:=Sum.inl q.1) zb
    ·refine ifF (by show decide (V.int q.2=V.int (i:Int))=false;exact jS fun z=>c (V.int.inj z)) ⟨?_,sm⟩
     rw[w9,zq (by simpa using c)]
     simpa using pr
   case e1 | e2=>
    rintro ys H2 ⟨pr,sm⟩
    rw[lx,jh] at pr
    have ly:ys.length<=1000:=by
     have:=pr.1
     have:=xr (fun q:Int×Int=>decide (q.2=(i:Int))) as
     rw[Z2,zp] at *
     omega
    refine⟨by omega,fun l hl=>⟨l,ys,_,rfl,zb,pr.same (ze hl),fun d hd=>⟨by rw[zp];omega,ds++[d],by rw[zZ];rfl,by rw[zW,ld];rfl,?_⟩⟩⟩
    have dl:d≠l:=fun z=>by rw[z,zb] at hd;cases hd
    have d2:H2 d=none:=by rw[zi dl] at hd;exact hd
    refine ov.snoc (d:=d) ((sm.trans (ze hl)).trans (ze hd)) ?_ ?_
    ·cases z:H1 d with
     | none=>rfl
     | some o'=>rw[sm _ _ z] at d2;cases d2
    ·rw[zb,ld]
     have:(ju [] (dkB ((as.filter fun q=>decide (q.2=(i:Int))).map (·.1))))=dkB (Wv as i):=Zv _ []
     rw[this]
  ·rintro zs H1 ⟨ds,rfl,ld,ov⟩
   rw[xn] at ld
   have lr:(ds.map V.ref).length=n:=by rw[zp];exact ld
   refine⟨by omega,fun F hF=>?_⟩
   have F0:H F=none:=by
    cases z:H F with
    | none=>rfl
    | some o'=>rw[ov.sm _ _ z] at hF;cases hF
   refine⟨7,rfl,(by decide),(by decide),jd (fun t' σ H2=>Ex4 fun(v3 v4 v5:Option V) (κ:Nat->List Int)=>An5 (σ=[some (.int n),some (.ref t),some (.ref F),v3,v4,v5]) (H2 F=some (.lst (ds.map V.ref))) (Ov H H2 ds κ) (W9 as κ) (∀x<n,zea as κ (2^t') x))
    ⟨_,_,_,Wv as,rfl,zb,ov.same (ze hF),zgN as,fun x _=>zgO as x⟩ ?_ ?_⟩
   ·rintro t' σ H2 ht' ⟨v3,v4,v5,κ,rfl,hF2,ov2,g2,f2⟩
    refine⟨_,rfl,_,rfl,(by rw[e62];omega),(by rw[e62];omega),jd (fun p σ H3=>Ex3 fun(v4 v5:Option V) (κ':Nat->List Int)=>An6 (σ=[some (.int n),some (.ref t),some (.ref F),some (.int (0+(t':Int))),v4,v5]) (H3 F=some (.lst (ds.map V.ref))) (Ov H H3 ds κ') (W9 as κ') ((∀x q,q∈κ x->q∈κ' x)) (∀x<p,zea as κ' (2^(t'+1)) x))
     ⟨_,_,κ,rfl,hF2,ov2,g2,fun _ _ h=>h,fun x hx=>absurd hx (Nat.not_lt_zero _)⟩ ?_ ?_⟩
    ·rintro p σ H3 hp ⟨v4,v5,κ',rfl,hF3,ov3,g3,sub3,f3⟩
     rw[xn] at hp
     have i0:(0:Int)+(p:Int)=(p:Int):=Xm _
     rw[i0]
     have ed:ds[p]? =some (ds[p]'(by omega)):=qX _
     generalize ds[p]'(by omega)=d at ed
     obtain⟨d0,hd3⟩:=ov3.at_ p d ed
     refine⟨_,rfl,_,rfl,F,_,_,_,rfl,rfl,SqL.of hF3,Xk ed,d,_,rfl,.inl hd3,fun L hL=>⟨L,rfl,⟨_,SqL.of zb⟩,?_⟩⟩
     have em:(dkB (κ' p)).map (fun kv=>kV kv.1)=(κ' p).map V.int:=by
      unfold dkB
      rw[wu]
      rfl
     rw[em]
     have Ld:L≠d:=fun z=>by rw[z,hd3] at hL;cases hL
     refine jP (K:=K) (a:=L) (xs:=(κ' p).map V.int) (fun i σ H4=>Ex2 fun(v5:Option V) (ks:List Int)=>An7 (σ=[some (.int n),some (.ref t),some (.ref F),some (.int (0+(t':Int))),some (.int (p:Int)),v5]) (H4 F=some (.lst (ds.map V.ref))) (H4 L=some (.lst ((κ' p).map V.int))) (Ov H H4 ds (fun x=>if x=p then ks else κ' x)) (W9 as (fun x=>if x=p then ks else κ' x)) ((∀q∈κ' p,q∈ks)) (∀o∈(κ' p).take i,∀q∈κ' o.toNat,q∈ks))
      ⟨_,κ' p,rfl,(ze hL) _ _ hF3,zb,?_,?_,fun _ h=>h,fun o ho=>absurd ho (by simp)⟩ (fun i σ H' _ ⟨_,_,_,_,h,_,_,_,_⟩=>SqL.of h) ?_ ?_
     ·have:(fun x=>if x=p then κ' p else κ' x)=κ':=funext fun x=>by by_cases c:x=p<;>simp[c]
      rw[this]
      exact ov3.same (ze hL)
     ·have:(fun x=>if x=p then κ' p else κ' x)=κ':=funext fun x=>by by_cases c:x=p<;>simp[c]
      rw[this]
      exact g3
     ·rintro i x σ H4 hx ⟨v5,ks,rfl,hF4,hL4,ov4,g4,a4,b4⟩
      rw[qJ] at hx
      obtain⟨o,eo,rfl⟩:=qw.mp hx
      have mo:o∈κ' p:=qG eo
      obtain⟨k1,hk1,wk1⟩:=(g3 p).2 o mo
      obtain⟨o0,o1⟩:=Wk.in1 ina hk1 wk1
      have oi:((o.toNat:Nat):Int)=o:=by omega
      have nop:o.toNat≠p:=fun z=>by
       have:=wk1.rank rks
       rw[z] at oi
       rw[oi] at this
       omega
      have ee:ds[o.toNat]? =some (ds[o.toNat]'(by omega)):=qX _
      generalize ds[o.toNat]'(by omega)=e at ee
      have hd4:=(ov4.at_ p d ed).2
      have he4:=(ov4.at_ o.toNat e ee).2
      rw[zx rfl] at hd4
      rw[zq nop] at he4
      have nde:d≠e:=fun z=>by
       subst z
       obtain⟨h1,h2⟩:=zQ.mp ed
       obtain⟨h3,h4⟩:=zQ.mp ee
       exact nop ((QH ov4.nd).mp (h4.trans h2.symm))
      have ao:=Xk ee
      rw[oi] at ao
      have inq:∀(κ:Nat->List Int),W9 as κ->∀x,(κ x).length<=60:=fun κ g x=>by
       have:=wc (n:=n) (g x).1 fun q hq=>let ⟨k,h1,w⟩:=(g x).2 q hq;Wk.in1 ina h1 w
       omega
      have l1:=inq _ g4 p
      rw[zx rfl] at l1
      have l2:=inq _ g3 o.toNat
      have LF:L≠F:=fun z=>by rw[z,hF3] at hL;cases hL
      have Fd:F≠d:=fun z=>by rw[z,hd4] at hF4;cases hF4
      refine⟨_,rfl,_,rfl,F,_,_,_,rfl,rfl,SqL.of hF4,Xk ed,d,rfl,.inl ⟨_,.inl hd4⟩,_,rfl,_,rfl,F,_,_,_,rfl,rfl,SqL.of hF4,ao,e,_,_,rfl,nde,hd4,he4,by rw[Z2,Z2];omega,?_⟩
      rw[Zv]
      have ef:(fun x=>if x=p then yF ks (κ' o.toNat) else(fun x=>if x=p then ks else κ' x) x)=fun x=>if x=p then yF ks (κ' o.toNat) else κ' x:=funext fun x=>by by_cases c:x=p<;>simp[c]
      have eg:(fun x=>if x=p then yF ((fun x=>if x=p then ks else κ' x) p) ((fun x=>if x=p then ks else κ' x) o.toNat) else(fun x=>if x=p then ks else κ' x) x)=fun x=>if x=p then yF ks (κ' o.toNat) else κ' x:=funext fun x=>by by_cases c:x=p<;>simp[c,nop]
      refine⟨_,yF ks (κ' o.toNat),rfl,by rw[zi Fd];exact hF4,by rw[zi Ld];exact hL4,?_,?_,fun q hq=>vn.mpr (.inl (a4 q hq)),fun z hz q hq=>?_⟩
      ·have:=ov4.upd ed (yF ks (κ' o.toNat))
       rw[ef] at this
       exact this
      ·have:=zdP (p:=p) (o:=o.toNat) g4 (by rw[zx rfl,oi];exact a4 o mo)
       rw[eg] at this
       exact this
      ·rw[Jf eo] at hz
       rcases zY.mp hz with h | h
       ·exact vn.mpr (.inl (b4 z h q hq))
       ·rw[qg.mp h] at hq
        exact vn.mpr (.inr hq)
     ·rintro σ H4 ⟨v5,ks,rfl,hF4,hL4,ov4,g4,a4,b4⟩
      rw[zp,jh] at b4
      refine⟨_,_,_,rfl,hF4,ov4,g4,fun x q hq=>?_,fun x hx=>?_⟩
      ·show q∈(if x=p then ks else κ' x)
       by_cases c:x=p
       ·rw[zx c]
        subst c
        exact a4 q (sub3 x q hq)
       ·rw[zq c]
        exact sub3 x q hq
      ·by_cases c:x=p
       ·subst c
        intro q k h1 h2 wk
        show q∈(if x=x then ks else κ' x)
        rw[zx rfl]
        exact zaT ina f2 hp sub3 a4 b4 q k h1 (by rw[Nat.pow_succ,Nat.mul_comm] at h2;exact h2) wk
       ·have:=f3 x (by omega)
        intro q k h1 h2 wk
        show q∈(if x=p then ks else κ' x)
        rw[zq c]
        exact this q k h1 h2 wk
    ·rintro σ H3 ⟨v4,v5,κ',rfl,hF3,ov3,g3,sub3,f3⟩
     rw[xn] at f3
     exact⟨_,_,_,κ',rfl,hF3,ov3,g3,f3⟩
   ·rintro σ H2 ⟨v3,v4,v5,κ,rfl,hF2,ov2,g2,f2⟩
    have all:∀(p:Nat),p<n->∀j,j∈κ p↔∃k,1<=k/\Wk as k j p:=fun p hp j=>⟨fun h=>(g2 p).2 j h,fun ⟨k,h1,wk⟩=>f2 p hp j k h1 (by have:=wk.rank rks;have:=rk60 (p:Int);show k<=128;omega) wk⟩
    refine⟨_,rfl,F,rfl,⟨_,SqL.of hF2⟩,j4 (K:=K) (a:=F) (xs:=ds.map V.ref) (fun i zs H3=>Ex1 fun(mss:List (List Int))=>An4 (mss.length=i) (Rws H H3 mss zs) (Same H2 H3) (∀p ms,mss[p]? =some ms->ms.Pairwise (·< ·)/\∀j,j∈ms↔j∈κ p)) ⟨[],rfl,⟨rfl,fun p ms e=>by simp at e⟩,Same.refl _,fun p ms e=>by simp at e⟩ (fun i zs H3 ⟨_,_,_,sm,_⟩=>SqL.of (sm _ _ hF2)) ?_ ?_⟩
    ·rintro i x zs H3 hx ⟨mss,lm,rm,sm,am⟩
     rw[qJ] at hx
     obtain⟨d,ed,rfl⟩:=qw.mp hx
     have hi:=(zQ.mp ed).1
     have hd:=sm _ _ (ov2.at_ i d ed).2
     have lk:(κ i).length<=60:=by
      have:=wc (n:=n) (g2 i).1 fun q hq=>let ⟨k,h1,w⟩:=(g2 i).2 q hq;Wk.in1 ina h1 w
      omega
     have ek:dkB (κ i)=((κ i).map fun j=>(j,V.bl true)).map fun kv=>(Sum.inl kv.1,kv.2):=by unfold dkB;rw[wu];rfl
     have ek2:((κ i).map fun j=>(j,V.bl true)).map (·.1)=κ i:=by rw[wu];exact List.map_id'' (fun _=>rfl) _
     refine⟨rfl,_,rfl,d,(κ i).map fun j=>(j,V.bl true),rfl,.inl (by rw[<- ek];exact hd),by rw[zp];omega,fun l ms hl pm pw=>⟨?_,mss++[ms],by rw[zW,lm];rfl,?_,sm.trans (ze hl),fun p ms' e=>?_⟩⟩
     ·have:=rm.1
      omega
     ·exact(rm.same (ze hl)).snoc ((ov2.sm.trans sm).free hl) zb
     ·rw[ek2] at pm
      by_cases c:p<mss.length
      ·rw[xt c] at e
       exact am p ms' e
      ·rw[xu (by omega)] at e
       have:p=mss.length:=by
        have:=(zQ.mp e).1
        simp at this;omega
       subst this
       simp at e
       subst e
       rw[lm]
       exact⟨zeb pm (g2 i).1 pw,fun j=>pm.mem_iff⟩
    ·rintro zs H3 ⟨mss,lm,rm,sm,am⟩
     rw[lr] at lm
     have lz:=rm.1
     refine⟨by omega,fun l hl=>k l mss _ ((ov2.sm.trans sm).trans (ze hl)) ?_ ⟨zs,zb,rm.same (ze hl)⟩ lm fun p ms e=>?_⟩
     ·cases z:H l with
      | none=>rfl
      | some o'=>rw[(ov2.sm.trans sm) _ _ z] at hl;cases hl
     ·have hp:=(zQ.mp e).1
      obtain⟨a,b⟩:=am p ms e
      exact⟨a,fun j=>by rw[b j,all p (by omega) j]⟩
end
theorem Same.none{H H1:Hp}{t:Addr}(s:Same H H1)(h:H1 t=Option.none):H t=Option.none:=s.free h
def atK(fs:List vw)(kd:Str)(n:Nat):List Nat:=(List.range n).filter fun i=>decide (fs[i]?.map vw.k=some kd)
theorem zcJ(fs:List vw)(kd:Str)(n:Nat):(atK fs kd n).length<=n:=jj (xr _ _) (by rw[vd];exact zG _)
theorem zd1{fs:List vw}{kd:Str}{n:Nat}{f:vw}(h:fs[n]? =some f)(e:f.k=kd):atK fs kd (n+1)=atK fs kd n++[n]:=by
 unfold atK
 rw[WH,vP,QK (by rw[h];exact qv (by show some f.k=_;rw[e]))]
 rfl
theorem zd2{fs:List vw}{kd:Str}{n:Nat}{f:vw}(h:fs[n]? =some f)(e:f.k≠kd):atK fs kd (n+1)=atK fs kd n:=by
 unfold atK
 rw[WH,vP,QJ (by rw[h];simpa using e),QN,qk]
theorem xw(os:List Nat)(n:Nat):zv (os++[n])=zv os++[.int (n:Int)]:=by
 unfold zv
 rw[zZ]
 rfl
section
variable{P:Program}{w:World}{K:PySem.W.Frag}{mg:Str->Option Value}{base:Heap}
theorem xx{H:Hp}{J:Job}{jp:Addr}(h:Rep K H (xR J) (.ref jp)):∃(g fs ps as:Addr) (fv pv:List V),SqT K H jp [.ref g,.int J.hd,.ref fs,.ref ps,.ref as]/\Rep K H (.tup [.int J.gx,.int J.gy]) (.ref g)/\SqT K H fs fv/\Reps K H (J.fs.map xO) fv/\SqT K H ps pv/\Reps K H (J.ps.map jC) pv/\Rep K H (Zc J.as) (.ref as):=by
 obtain⟨a,xs,e,q,x0,r0,e0,h0,x1,r1,e1,h1,x2,r2,e2,h2,x3,r3,e3,h3,x4,r4,e4,h4,e5⟩:=h
 cases e
 subst e0 e1 e2 e3 e4
 have e5':r4=[]:=e5
 subst e5'
 have h1':x1=.int J.hd:=h1
 subst h1'
 obtain⟨g,gx,rfl,gq⟩:=h0
 obtain⟨fs,fx,rfl,fq,fr⟩:=h2
 obtain⟨ps,px,rfl,pq,pr⟩:=h3
 obtain⟨as,ax,rfl,aq⟩:=h4
 exact⟨g,fs,ps,as,fx,px,q,⟨g,gx,rfl,gq⟩,fq,fr,pq,pr,⟨as,ax,rfl,aq⟩⟩
end
def XV(x1 y1 x2 y2:Int):Int:=if yB (y1-y2)>yB (x1-x2) then yB (y1-y2) else yB (x1-x2)
theorem zcX(a:Int):0<=yB a:=by unfold yB;split<;>omega
theorem zeK(x1 y1 x2 y2:Int):0<=XV x1 y1 x2 y2:=by
 unfold XV
 have:=zcX (y1-y2)
 have:=zcX (x1-x2)
 split<;>assumption
theorem zeL(x1 y1 x2 y2 t:Int):XV x1 y1 x2 y2<=t↔yB (x1-x2)<=t/\yB (y1-y2)<=t:=by
 unfold XV
 split<;>omega
theorem zeM{x1 y1 x2 y2:Int}(a:0<=x1)(b:x1<=1000)(c:0<=y1)(d:y1<=1000)(a':0<=x2)(b':x2<=1000)(c':0<=y2)(d':y2<=1000):XV x1 y1 x2 y2<=1000:=by
 rw[zeL]
 unfold yB
 constructor<;>split<;>omega
def inB(p:Int×Int):Prop:=0<=p.1/\p.1<=1000/\0<=p.2/\p.2<=1000
def vh:List (Int×Int)->List Int
 | p::q::r=>XV p.1 p.2 q.1 q.2::vh (q::r)
 | _=>[]
theorem yD:∀ps:List (Int×Int),(vh ps).length=ps.length-1
 | []=>rfl
 | [_]=>rfl
 | p::q::r=>by
  have:=yD (q::r)
  show(vh (q::r)).length+1=_
  rw[this];simp
theorem XU:∀{ps:List (Int×Int)} {i:Nat} {p q:Int×Int},ps[i]? =some p->ps[i+1]? =some q->(vh ps)[i]? =some (XV p.1 p.2 q.1 q.2)
 | [],_,_,_,h,_=>by simp at h
 | [_],i,_,_,_,h=>by simp at h
 | a::b::r,0,p,q,h1,h2=>by simp at h1 h2;subst h1;subst h2;rfl
 | a::b::r,i+1,p,q,h1,h2=>XU (ps:=b::r) (i:=i) (by simpa using h1) (by simpa using h2)
theorem Yb:∀{ps:List (Int×Int)},(∀p∈ps,inB p)->∀z∈vh ps,0<=z/\z<=1000
 | [],_,z,h=>by cases h
 | [_],_,z,h=>by cases h
 | a::b::r,hb,z,h=>by
  rcases zS.mp h with e | h
  ·have h1:=hb a (by simp)
   have h2:=hb b (by simp)
   rw[e]
   exact⟨zeK _ _ _ _,zeM h1.1 h1.2.1 h1.2.2.1 h1.2.2.2 h2.1 h2.2.1 h2.2.2.1 h2.2.2.2⟩
  ·exact Yb (ps:=b::r) (fun p hp=>hb p (qV _ hp)) z h
def plD(p:Int×Int):Dat:=.tup [.int p.1,.int p.2]
section
variable{P:Program}{w:World}{K:PySem.W.Frag}{mg:Str->Option Value}{base:Heap}
theorem YL{H:Hp}{p:Int×Int}{x:V}(h:Rep K H (plD p) x):∃a,x=.ref a/\SqT K H a [.int p.1,.int p.2]:=by
 obtain⟨pa,xs,rfl,qp',y0,r0,f0,g0,y1,r1',f1,g1,f2⟩:=h
 subst f0 f1
 cases(show r1'=[] from f2)
 cases(show y0=_ from g0)
 cases(show y1=_ from g1)
 exact⟨pa,rfl,qp'⟩
theorem Wh{H:Hp}{a:Addr}{x y:Int}(h:SqT K H a [.int x,.int y]):Rep K H (plD (x,y)) (.ref a):=⟨a,_,rfl,h,_,_,rfl,rfl,_,_,rfl,rfl,rfl⟩
inductive Yh(K:PySem.W.Frag)(vs:List V)(H:Hp)(Q:VK):Prop
 | mk (u v:V) (p q:Int×Int) (_:vs=[u,v]) (_:Rep K H (plD p) u) (_:Rep K H (plD q) v) (_:Q (.int (XV p.1 p.2 q.1 q.2)) H):Yh K vs H Q
def zed(K:PySem.W.Frag):Sp:=fun vs H Q _=>Yh K vs H Q
theorem za0(xs:List V):jN xs (some 1) none=xs.drop 1:=by
 unfold jN
 rw[show(some (1:Int))=some ((1:Nat):Int) from rfl,HT.sIx_nat,HT.sIx_none]
 cases xs with
 | nil=>rfl
 | cons x r=>
  have:min 1 (x::r).length=1:=by simp only[qU];omega
  rw[this]
  simp
end
theorem at0{x:V}{r:List V}:atI (x::r) 0=some x:=zT (j:=0) rfl
inductive Ev where
 | behind (p:Nat) | none (p:Nat) | failed (p:Nat) | dropped (p:Nat) | picked (p f:Nat) | missed (p f:Nat) | laid (p:Nat) (k:Str) (x y:Int)
def Ev.w:Ev->Str
 | .behind _=> "behind" | .none _=> "none" | .failed _=> "failed" | .dropped _=> "dropped" | .picked _ _=> "picked" | .missed _ _=> "missed" | .laid _ _ _ _=> "laid"
def Ev.p:Ev->Nat
 | .behind p=>p | .none p=>p | .failed p=>p | .dropped p=>p | .picked p _=>p | .missed p _=>p | .laid p _ _ _=>p
def Ev.r:Ev->List Dat
 | .picked _ f=>[.int (f:Int)] | .missed _ f=>[.int (f:Int)] | .laid _ k x y=>[.str k,.tup [.int x,.int y]] | _=>[]
def evD(e:Ev):Dat:=.tup (.str e.w::.int (e.p:Int)::e.r)
def zF(ws:List Str)(es:List Ev):List Ev:=es.filter fun e=>decide (e.w∈ws)
theorem YY(t:Str):∀l:List Str,inV (.str t) (l.map V.str)=decide (t∈l)
 | []=>(jS (fun z=>nomatch z)).symm
 | x::l=>by
  show((x==t)||inV (.str t) (l.map V.str))=_
  rw[YY t l,xP,QO,jT,jT,zS,jZ]
  exact⟨fun h=>h.imp Eq.symm id,fun h=>h.imp Eq.symm id⟩
section
variable{P:Program}{w:World}{K:PySem.W.Frag}{mg:Str->Option Value}{base:Heap}
def Evs(K:PySem.W.Frag)(H:Hp)(l:Addr)(es:List Ev):Prop:=∃xs,H l=some (.lst xs)/\Reps K H (es.map evD) xs
theorem Evs.same{H H':Hp}{l:Addr}{es:List Ev}(h:Evs K H l es)(s:Same H H'):Evs K H' l es:=let ⟨xs,a,b⟩:=h;⟨xs,s _ _ a,b.same s⟩
end
def z9:List Str:=["picked", "missed"]
def zA:List Str:=["behind", "none", "failed", "dropped"]
structure TxG(K:PySem.W.Frag)(a:Addr)(ws:List Str):Prop where
 all:∀H,SqT K H a (ws.map V.str)
structure JSm(J:Job):Prop where
 ps:J.ps.length<=60
 fs:J.fs.length<=60
 as:∀q∈asI J,InN J.ps.length q.1/\InN J.ps.length q.2
 al:J.as.length<=300
section
variable{P:Program}{w:World}{K:PySem.W.Frag}{mg:Str->Option Value}{base:Heap}
end
def Ev.f:Ev->Nat
 | .picked _ f=>f | .missed _ f=>f | _=>0
def Zg(es:List Ev):List Int:=(zF z9 es).map fun e=>(e.f:Int)
def vz(J:Job)(pa:xo)(es:List Ev):List Nat:=(atK J.fs pa.k J.fs.length).filter fun f:Nat=>decide (((Zg es).count (f:Int):Int)<(J.fs[f]?.map vw.m).getD 0)
inductive NF(rd:List Nat)(own:Nat):V->Prop
 | own (h:own∈rd):NF rd own (.int (own:Int))
 | non (h:rd=[]):NF rd own .non
 | least (f:Nat) (n:own∉rd) (h:f∈rd) (l:∀g∈rd,f<=g):NF rd own (.int (f:Int))
theorem zdO(z:Nat)(l:List Nat):inV (.int (z:Int)) (zv l)=decide (z∈l):=by
 unfold inV zv
 rw[List.any_map,xP,vO,jT]
 constructor
 ·rintro⟨x,hx,h⟩
  have h2:(x:Int)=(z:Int):=by simpa [eqV] using h
  rw[<- show x=z by omega];exact hx
 ·intro h
  exact⟨z,h,by show((z:Int)==(z:Int))=true;simp⟩
theorem wG(l:List Nat):(zv l).all jQ=true:=by
 unfold zv
 rw[List.all_map]
 exact xM.mpr fun _ _=>rfl
section
variable{P:Program}{w:World}{K:PySem.W.Frag}{mg:Str->Option Value}{base:Heap}
end
def Ju(bs:List Bool)(es:List Ev):Bool:=if bs.length<=(zF z9 es).length then true else bs.getD (zF z9 es).length false
section
variable{P:Program}{w:World}{K:PySem.W.Frag}{mg:Str->Option Value}{base:Heap}
theorem Evs.len{H:Hp}{l:Addr}{es:List Ev}(h:Evs K H l es):∃xs,H l=some (.lst xs)/\xs.length=es.length:=by
 obtain⟨xs,a,b⟩:=h
 have:=b.len
 rw[zp] at this
 exact⟨xs,a,this⟩
def Q5(J:Job)(p:Nat)(es:List Ev):Prop:=∃e∈zF zA es,(e.p:Int)≠(p:Int)/\∃k,Wk (asI J) k (e.p:Int) (p:Int)
inductive TryR(J:Job)(pa:xo)(p own:Nat)(bs:List Bool)(es:List Ev):Nat->List Ev->List Ev->Prop
 | fin (fnd:List Ev):TryR J pa p own bs es 0 fnd (fnd++[.failed p])
 | none (n:Nat) (fnd:List Ev) (h:NF (vz J pa (es++fnd)) own .non):TryR J pa p own bs es (n+1) fnd (fnd++[.none p])
 | luck (n:Nat) (fnd:List Ev) (f:Nat) (h:NF (vz J pa (es++fnd)) own (.int (f:Int))) (g:Ju bs (es++fnd)=true):TryR J pa p own bs es (n+1) fnd (fnd++[.picked p f])
 | miss (n:Nat) (fnd:List Ev) (f:Nat) (r:List Ev) (h:NF (vz J pa (es++fnd)) own (.int (f:Int))) (g:Ju bs (es++fnd)=false) (t:TryR J pa p own bs es n (fnd++[.missed p f]) r):TryR J pa p own bs es (n+1) fnd r
def PickR(J:Job)(pa:xo)(p own:Nat)(bs:List Bool)(n:Nat)(es r:List Ev):Prop:=(Q5 J p es/\r=[.behind p])\/(¬Q5 J p es/\TryR J pa p own bs es n [] r)
theorem Y6:∀es:List Ev,Dat.imms (es.map evD)=true
 | []=>rfl
 | e::es=>by
  show((evD e).imm&&Dat.imms (es.map evD))=true
  rw[Y6 es]
  cases e<;>rfl
end
def zhs(J:Job)(pa:xo)(p:Nat)(es:List Ev)(e:Ev):Prop:=(Q5 J p es/\e=.dropped p)\/(¬Q5 J p es/\e=.laid p pa.k pa.x pa.y)
section
variable{P:Program}{w:World}{K:PySem.W.Frag}{mg:Str->Option Value}{base:Heap}
end
def zhj(pks:List (Nat×Nat))(lys:List Nat):Dat:=.tup [.tup (pks.map xc),.tup (lys.map fun n:Nat=>Dat.int (n:Int))]
inductive PksR(J:Job)(bs:List Bool)(n:Nat)(es:List Ev):List (Nat×Nat)->List Ev->Prop
 | nil:PksR J bs n es [] []
 | snoc (pks:List (Nat×Nat)) (fnd:List Ev) (p own:Nat) (pa:xo) (r:List Ev) (h:PksR J bs n es pks fnd) (e:J.ps[p]? =some pa) (g:PickR J pa p own bs n (es++fnd) r):PksR J bs n es (pks++[(p,own)]) (fnd++r)
inductive LysR(J:Job)(es:List Ev)(pk:List Ev):List Nat->List Ev->Prop
 | nil (fnd:List Ev) (h:fnd=pk):LysR J es pk [] fnd
 | skip (lys:List Nat) (fnd:List Ev) (p:Nat) (h:LysR J es pk lys fnd) (g:(zF ["picked"] pk).any (fun e=>((e.p:Int)==(p:Int)))=false):LysR J es pk (lys++[p]) fnd
 | lay (lys:List Nat) (fnd:List Ev) (p:Nat) (pa:xo) (e:Ev) (h:LysR J es pk lys fnd) (g:(zF ["picked"] pk).any (fun e=>((e.p:Int)==(p:Int)))=true) (ep:J.ps[p]? =some pa) (l:zhs J pa p (es++fnd) e):LysR J es pk (lys++[p]) (fnd++[e])
def TripR(J:Job)(bs:List Bool)(n:Nat)(es:List Ev)(pks:List (Nat×Nat))(lys:List Nat)(r:List Ev):Prop:=∃fnd,PksR J bs n es pks fnd/\LysR J es fnd lys r
section
variable{P:Program}{w:World}{K:PySem.W.Frag}{mg:Str->Option Value}{base:Heap}
end
def Ev.xy:Ev->Int×Int
 | .laid _ _ x y=>(x,y)
 | _=>(0,0)
structure vS(J:Job)(e:Ev):Prop where
 tr:e.w∈z9->e.f<J.fs.length
 ly:inB e.xy
structure JIn(J:Job):Prop where
 g:inB (J.gx,J.gy)
 f:∀f∈J.fs,inB (f.x,f.y)
 p:∀p∈J.ps,inB (p.x,p.y)
def Xg(J:Job)(i:Nat):Int×Int:=((J.fs[i]?.map vw.x).getD 0,(J.fs[i]?.map vw.y).getD 0)
def Zl(J:Job)(es:List Ev):List (Int×Int):=(([(J.gx,J.gy)]++(zF z9 es).map fun e=>Xg J e.f)++(zF ["laid"] es).map Ev.xy)++[(J.gx,J.gy)]
theorem zdR{J:Job}(j:JIn J){i:Nat}(h:i<J.fs.length):inB (Xg J i):=by
 unfold Xg
 rw[qX h]
 exact j.f _ (wv _)
theorem zc8{J:Job}{es:List Ev}(j:JIn J)(h:∀e∈es,vS J e):∀p∈Zl J es,inB p:=fun p hp=>by
 rcases zY.mp hp with hp | hp
 ·rcases zY.mp hp with hp | hp
  ·rcases zY.mp hp with hp | hp
   ·rw[qg.mp hp];exact j.g
   ·obtain⟨e,he,rfl⟩:=qo.mp hp
    obtain⟨h1,h2⟩:=jz.mp he
    exact zdR j ((h e h1).tr (jA h2))
  ·obtain⟨e,he,rfl⟩:=qo.mp hp
   exact(h e (jz.mp he).1).ly
 ·rw[qg.mp hp];exact j.g
section
variable{P:Program}{w:World}{K:PySem.W.Frag}{mg:Str->Option Value}{base:Heap}
end
theorem zaQ:inB ((0,0):Int×Int):=⟨by decide,by decide,by decide,by decide⟩
theorem Vi{J:Job}{pa:xo}{es:List Ev}{f:Nat}(h:f∈vz J pa es):f<J.fs.length:=xK.mp (jz.mp (jz.mp h).1).1
theorem zcc{rd:List Nat}{own f:Nat}(h:NF rd own (.int (f:Int))):f∈rd:=by
 generalize hv:V.int (f:Int)=v at h
 cases h with
 | own h=>rw[show f=own by have:=V.int.inj hv;omega];exact h
 | non h=>cases hv
 | least g n h l=>rw[show f=g by have:=V.int.inj hv;omega];exact h
theorem wE{J:Job}{a b:List Ev}(h:∀e∈a,vS J e)(g:∀e∈b,vS J e):∀e∈a++b,vS J e:=fun e he=>(zY.mp he).elim (h e) (g e)
theorem Zq{J:Job}{x:Ev}(h:vS J x):∀e∈[x],vS J e:=fun e he=>by rw[qg.mp he];exact h
theorem zaH{J:Job}{p:Nat}:vS J (.behind p):=⟨fun h=>absurd (show("behind" : Str)∈z9 from h) (by decide),zaQ⟩
theorem zdu{J:Job}{p:Nat}:vS J (.none p):=⟨fun h=>absurd (show("none" : Str)∈z9 from h) (by decide),zaQ⟩
theorem zaG{J:Job}{p:Nat}:vS J (.failed p):=⟨fun h=>absurd (show("failed" : Str)∈z9 from h) (by decide),zaQ⟩
theorem Wm{J:Job}{p:Nat}:vS J (.dropped p):=⟨fun h=>absurd (show("dropped" : Str)∈z9 from h) (by decide),zaQ⟩
theorem TryR.ok{J:Job}{pa:xo}{p own:Nat}{bs:List Bool}{es:List Ev}{n:Nat}{fnd r:List Ev}(h:TryR J pa p own bs es n fnd r):(∀e∈fnd,vS J e)->∀e∈r,vS J e:=by
 induction h with
 | fin fnd=>exact fun hf=>wE hf (Zq zaG)
 | none n fnd h=>exact fun hf=>wE hf (Zq zdu)
 | luck n fnd f h g=>exact fun hf=>wE hf (Zq ⟨fun _=>Vi (zcc h),zaQ⟩)
 | miss n fnd f r h g t ih=>exact fun hf=>ih (wE hf (Zq ⟨fun _=>Vi (zcc h),zaQ⟩))
theorem PksR.ok{J:Job}{bs:List Bool}{n:Nat}{es:List Ev}{pks:List (Nat×Nat)}{r:List Ev}(h:PksR J bs n es pks r):∀e∈r,vS J e:=by
 induction h with
 | nil=>exact fun e he=>nomatch he
 | snoc pks fnd p own pa r h e g ih=>
  refine wE ih ?_
  rcases g with ⟨_,rfl⟩ | ⟨_,t⟩
  ·exact Zq zaH
  ·exact t.ok fun e he=>nomatch he
theorem LysR.ok{J:Job}(j:JIn J){es pk:List Ev}{lys:List Nat}{r:List Ev}(h:LysR J es pk lys r)(hp:∀e∈pk,vS J e):∀e∈r,vS J e:=by
 induction h with
 | nil fnd h=>rw[h];exact hp
 | skip lys fnd p h g ih=>exact ih
 | lay lys fnd p pa e h g ep l ih=>
  refine wE ih (Zq ?_)
  rcases l with ⟨_,rfl⟩ | ⟨_,rfl⟩
  ·exact Wm
  ·exact⟨fun h=>absurd (show("laid" : Str)∈z9 from h) (by decide),j.p _ (qG ep)⟩
theorem TripR.ok{J:Job}(j:JIn J){bs:List Bool}{n:Nat}{es:List Ev}{pks:List (Nat×Nat)}{lys:List Nat}{r:List Ev}(h:TripR J bs n es pks lys r):∀e∈r,vS J e:=let ⟨_,a,b⟩:=h;b.ok j a.ok
inductive RunR(J:Job)(bs:List Bool)(n:Nat):List (List (Nat×Nat)×List Nat)->List Ev->Int->Prop
 | nil:RunR J bs n [] [] 0
 | snoc (ts:List (List (Nat×Nat)×List Nat)) (es:List Ev) (w:Int) (pks:List (Nat×Nat)) (lys:List Nat) (r:List Ev) (h:RunR J bs n ts es w) (t:TripR J bs n es pks lys r):RunR J bs n (ts++[(pks,lys)]) (es++r) (w+(vh (Zl J r)).sum)
def ym(bs:List Bool)(s:Nat):Bool:=if bs.length<=s then true else bs.getD s false
def z7(es:List Ev):Nat:=(zF z9 es).length
theorem yN(bs:List Bool)(es:List Ev):Ju bs es=ym bs (z7 es):=rfl
theorem zt(ws:List Str)(a b:List Ev):zF ws (a++b)=zF ws a++zF ws b:=vP ..
theorem jn(a b:List Ev):z7 (a++b)=z7 a+z7 b:=by unfold z7;rw[zt,zW]
theorem Zj{e:Ev}(h:e.w∈z9):z7 [e]=1:=by
 show([e].filter fun e=>decide (e.w∈z9)).length=1
 rw[QK (p:=fun e:Ev=>decide (e.w∈z9)) (qv h)];rfl
theorem zc7(p f:Nat):z7 [.picked p f]=1:=Zj (show("picked" : Str)∈z9 by decide)
theorem Yg(p f:Nat):z7 [.missed p f]=1:=Zj (show("missed" : Str)∈z9 by decide)
theorem NF.uniq{rd:List Nat}{own:Nat}{v v':V}(a:NF rd own v)(b:NF rd own v'):v=v':=by
 cases a with
 | own h=>
  cases b with
  | own _=>rfl
  | non h'=>rw[h'] at h;cases h
  | least f n _ _=>exact absurd h n
 | non h=>
  cases b with
  | own h'=>rw[h] at h';cases h'
  | non _=>rfl
  | least f n h' _=>rw[h] at h';cases h'
 | least f n h l=>
  cases b with
  | own h'=>exact absurd h' n
  | non h'=>rw[h'] at h;cases h
  | least f' _ h' l'=>
   have:=l f' h'
   have:=l' f h
   rw[show f=f' by omega]
theorem NF.f_uniq{rd:List Nat}{own f f':Nat}(a:NF rd own (.int (f:Int)))(b:NF rd own (.int (f':Int))):f=f':=by
 have:=V.int.inj (a.uniq b)
 omega
section
variable{J:Job}{pa:xo}{p own n:Nat}{bs bs':List Bool}{es:List Ev}
theorem TryR.pre{fnd r:List Ev}(h:TryR J pa p own bs es n fnd r):∃r',r=fnd++r':=by
 induction h with
 | fin fnd=>exact⟨_,rfl⟩
 | none n fnd h=>exact⟨_,rfl⟩
 | luck n fnd f h g=>exact⟨_,rfl⟩
 | miss n fnd f r h g t ih=>
  obtain⟨r',e⟩:=ih
  exact⟨[.missed p f]++r',by rw[e,jm]⟩
theorem TryR.agree{fnd r:List Ev}(h:TryR J pa p own bs es n fnd r):(∀s,s<z7 (es++r)->ym bs s=ym bs' s)->TryR J pa p own bs' es n fnd r:=by
 induction h with
 | fin fnd=>exact fun _=>.fin fnd
 | none n fnd h=>exact fun _=>.none n fnd h
 | luck n fnd f h g=>
  intro a
  refine .luck n fnd f h ?_
  rw[yN,<- a _ (by rw[<- jm,jn _ [_],zc7];omega),<- yN]
  exact g
 | miss n fnd f r h g t ih=>
  intro a
  refine .miss n fnd f r h ?_ (ih a)
  obtain⟨r',e⟩:=t.pre
  rw[yN,<- a _ (by simp only[e,jn,Yg];omega),<- yN]
  exact g
theorem TryR.uniq{fnd r r':List Ev}(h:TryR J pa p own bs es n fnd r)(h':TryR J pa p own bs es n fnd r'):r=r':=by
 induction h with
 | fin fnd=>cases h';rfl
 | none n fnd h=>
  cases h' with
  | none _ _ _=>rfl
  | luck _ _ f g _=>exact absurd (h.uniq g) (fun z=>nomatch z)
  | miss _ _ f _ g _ _=>exact absurd (h.uniq g) (fun z=>nomatch z)
 | luck n fnd f h g=>
  cases h' with
  | none _ _ g'=>exact absurd (g'.uniq h) (fun z=>nomatch z)
  | luck _ _ f' g' _=>rw[h.f_uniq g']
  | miss _ _ f' _ _ g' _=>rw[g] at g';cases g'
 | miss n fnd f r h g t ih=>
  cases h' with
  | none _ _ g'=>exact absurd (g'.uniq h) (fun z=>nomatch z)
  | luck _ _ f' _ g'=>rw[g] at g';cases g'
  | miss _ _ f' _ g' _ t'=>rw[h.f_uniq g'] at ih;exact ih t'
theorem PickR.agree{r:List Ev}(h:PickR J pa p own bs n es r)(a:∀s,s<z7 (es++r)->ym bs s=ym bs' s):PickR J pa p own bs' n es r:=h.imp id fun ⟨x,y⟩=>⟨x,y.agree a⟩
theorem PickR.uniq{r r':List Ev}(h:PickR J pa p own bs n es r)(h':PickR J pa p own bs n es r'):r=r':=by
 rcases h with ⟨a,rfl⟩ | ⟨a,t⟩
 ·rcases h' with ⟨_,rfl⟩ | ⟨b,_⟩
  ·rfl
  ·exact absurd a b
 ·rcases h' with ⟨b,_⟩ | ⟨_,t'⟩
  ·exact absurd b a
  ·exact t.uniq t'
end
section
variable{J:Job}{n:Nat}{bs bs':List Bool}{es:List Ev}
theorem PksR.agree{pks:List (Nat×Nat)}{fnd:List Ev}(h:PksR J bs n es pks fnd):(∀s,s<z7 (es++fnd)->ym bs s=ym bs' s)->PksR J bs' n es pks fnd:=by
 induction h with
 | nil=>exact fun _=>.nil
 | snoc pks fnd p own pa r h e g ih=>
  intro a
  refine .snoc pks fnd p own pa r (ih fun s hs=>a s ?_) e (g.agree fun s hs=>a s (by rw[<- jm];exact hs))
  rw[<- jm,jn (es++fnd)];omega
theorem xF{α:Type}{a b:List α}{x y:α}(h:a++[x]=b++[y]):a=b/\x=y:=by
 have:=List.append_inj' h rfl
 exact⟨this.1,by simpa using this.2⟩
theorem PksR.uniq{pks pks':List (Nat×Nat)}{fnd fnd':List Ev}(h:PksR J bs n es pks fnd)(h':PksR J bs n es pks' fnd')(e:pks=pks'):fnd=fnd':=by
 induction h generalizing pks' fnd' with
 | nil=>
  cases h' with
  | nil=>rfl
  | snoc pks _ p own _ _ _ _ _=>exact absurd e.symm (by simp)
 | snoc pks fnd p own pa r h ep g ih=>
  cases h' with
  | nil=>exact absurd e (by simp)
  | snoc pks2 fnd2 p2 own2 pa2 r2 h2 ep2 g2=>
   obtain⟨e1,e2⟩:=xF e
   cases e2
   cases ih h2 e1
   rw[ep] at ep2
   cases ep2
   rw[g.uniq g2]
theorem LysR.uniq{pk:List Ev}{l l':List Nat}{r r':List Ev}(h:LysR J es pk l r)(h':LysR J es pk l' r')(e:l=l'):r=r':=by
 induction h generalizing l' r' with
 | nil fnd h=>
  cases h' with
  | nil _ h2=>rw[h,h2]
  | skip l _ _ _ _=>exact absurd e.symm (by simp)
  | lay l _ _ _ _ _ _ _ _=>exact absurd e.symm (by simp)
 | skip l fnd p h g ih=>
  cases h' with
  | nil _ _=>exact absurd e (by simp)
  | skip l2 _ p2 h2 _=>
   obtain⟨e1,_⟩:=xF e
   exact ih h2 e1
  | lay l2 _ p2 _ _ _ g2 _ _=>
   obtain⟨_,rfl⟩:=xF e
   rw[g] at g2;cases g2
 | lay l fnd p pa x h g ep ly ih=>
  cases h' with
  | nil _ _=>exact absurd e (by simp)
  | skip l2 _ p2 _ g2=>
   obtain⟨_,rfl⟩:=xF e
   rw[g] at g2;cases g2
  | lay l2 fnd2 p2 pa2 x2 h2 _ ep2 ly2=>
   obtain⟨e1,rfl⟩:=xF e
   cases ih h2 e1
   rw[ep] at ep2
   cases ep2
   rcases ly with ⟨a,rfl⟩ | ⟨a,rfl⟩
   ·rcases ly2 with ⟨_,rfl⟩ | ⟨b,_⟩
    ·rfl
    ·exact absurd a b
   ·rcases ly2 with ⟨b,_⟩ | ⟨_,rfl⟩
    ·exact absurd b a
    ·rfl
theorem LysR.pre{pk:List Ev}{l:List Nat}{r:List Ev}(h:LysR J es pk l r):∃r',r=pk++r':=by
 induction h with
 | nil fnd h=>exact⟨[],by rw[h,qk]⟩
 | skip l fnd p h g ih=>exact ih
 | lay l fnd p pa x h g ep ly ih=>
  obtain⟨r',e⟩:=ih
  exact⟨r'++[x],by rw[e,jm]⟩
theorem TripR.agree{pks:List (Nat×Nat)}{l:List Nat}{r:List Ev}(h:TripR J bs n es pks l r)(a:∀s,s<z7 (es++r)->ym bs s=ym bs' s):TripR J bs' n es pks l r:=by
 obtain⟨fnd,h1,h2⟩:=h
 obtain⟨r',e⟩:=h2.pre
 exact⟨fnd,h1.agree fun s hs=>a s (by rw[e,<- jm,jn];omega),h2⟩
theorem TripR.uniq{pks:List (Nat×Nat)}{l:List Nat}{r r':List Ev}(h:TripR J bs n es pks l r)(h':TripR J bs n es pks l r'):r=r':=by
 obtain⟨fnd,h1,h2⟩:=h
 obtain⟨fnd',h1',h2'⟩:=h'
 cases h1.uniq h1' rfl
 exact h2.uniq h2' rfl
end
section
variable{J:Job}{n:Nat}{bs bs':List Bool}
theorem RunR.agree{ts:List (List (Nat×Nat)×List Nat)}{es:List Ev}{w:Int}(h:RunR J bs n ts es w):(∀s,s<z7 es->ym bs s=ym bs' s)->RunR J bs' n ts es w:=by
 induction h with
 | nil=>exact fun _=>.nil
 | snoc ts es w pks l r h t ih=>exact fun a=>.snoc ts es w pks l r (ih fun s hs=>a s (by rw[jn];omega)) (t.agree a)
theorem RunR.uniq{ts ts':List (List (Nat×Nat)×List Nat)}{es es':List Ev}{w w':Int}(h:RunR J bs n ts es w)(h':RunR J bs n ts' es' w')(e:ts=ts'):es=es'/\w=w':=by
 induction h generalizing ts' es' w' with
 | nil=>
  cases h' with
  | nil=>exact⟨rfl,rfl⟩
  | snoc ts _ _ _ _ _ _ _=>exact absurd e.symm (by simp)
 | snoc ts es w pks l r h t ih=>
  cases h' with
  | nil=>exact absurd e (by simp)
  | snoc ts2 es2 w2 pks2 l2 r2 h2 t2=>
   obtain⟨e1,e2⟩:=xF e
   cases e2
   obtain⟨rfl,rfl⟩:=ih h2 e1
   cases t.uniq t2
   exact⟨rfl,rfl⟩
theorem RunR.same{ts:List (List (Nat×Nat)×List Nat)}{es es':List Ev}{w w':Int}(h:RunR J bs n ts es w)(h':RunR J bs' n ts es' w')(a:∀s,s<z7 es->ym bs s=ym bs' s):es=es'/\w=w':=(h.agree a).uniq h' rfl
end
def VX(ts:List (List (Nat×Nat)×List Nat)):List (Nat×Nat):=ts.flatMap (·.1)
theorem za6(ts:List (List (Nat×Nat)×List Nat))(t:List (Nat×Nat)×List Nat):VX (ts++[t])=VX ts++t.1:=by
 unfold VX
 rw[XC,List.flatMap_cons,List.flatMap_nil,qk]
theorem zcd{α:Type}[DecidableEq α]:∀{l m:List α},l.Nodup->(∀x∈l,x∈m)->l.length<=m.length
 | [],_,_,_=>qu _
 | a::l,m,nd,h=>by
  obtain⟨n1,n2⟩:=yA.mp nd
  have ha:=h a qP
  have:=zcd (l:=l) (m:=m.erase a) n2 fun x hx=>(List.mem_erase_of_ne (fun z=>n1 (by rw[<- z];exact hx))).mpr (h x (qV _ hx))
  rw[W1 ha] at this
  have:=WW ha
  rw[qU];omega
inductive PkX(p:Nat):Ev->Prop
 | behind:PkX p (.behind p)
 | none:PkX p (.none p)
 | failed:PkX p (.failed p)
 | picked (f:Nat):PkX p (.picked p f)
inductive PkN(p:Nat):Ev->Prop
 | behind:PkN p (.behind p)
 | none:PkN p (.none p)
 | failed:PkN p (.failed p)
section
variable{J:Job}{pa:xo}{p own n:Nat}{bs:List Bool}{es:List Ev}
theorem TryR.form{fnd r:List Ev}(h:TryR J pa p own bs es n fnd r):∃(fs:List Nat) (x:Ev),r=fnd++fs.map (.missed p)++[x]/\fs.length<=n/\PkX p x:=by
 induction h with
 | fin fnd=>exact⟨[],_,by simp,qu _,.failed⟩
 | none n fnd h=>exact⟨[],_,by simp,qu _,.none⟩
 | luck n fnd f h g=>exact⟨[],_,by simp,qu _,.picked f⟩
 | miss n fnd f r h g t ih=>
  obtain⟨fs,x,e,l,k⟩:=ih
  exact⟨f::fs,x,by rw[e];simp,by rw[qU];omega,k⟩
theorem PickR.form{r:List Ev}(h:PickR J pa p own bs n es r):∃(fs:List Nat) (x:Ev),r=fs.map (.missed p)++[x]/\fs.length<=n/\PkX p x:=by
 rcases h with ⟨_,rfl⟩ | ⟨_,t⟩
 ·exact⟨[],_,rfl,qu _,.behind⟩
 ·obtain⟨fs,x,e,l,k⟩:=t.form
  exact⟨fs,x,by rw[e,Xt],l,k⟩
theorem wJ(ws:List Str)(h:("missed" : Str)∉ws)(p:Nat):∀fs:List Nat,zF ws (fs.map (.missed p))=[]
 | []=>rfl
 | f::fs=>by
  show zF ws ([.missed p f]++fs.map (.missed p))=[]
  rw[zt,wJ ws h p fs,qk]
  exact QJ (p:=fun e:Ev=>decide (e.w∈ws)) (fun z=>h (jA z))
theorem zcu(ws:List Str)(e:Ev):zF ws [e]=if decide (e.w∈ws)=true then [e] else []:=by
 unfold zF
 rw[w9];rfl
theorem PkX.one{x:Ev}(h:PkX p x):(zF zA [x]).length+(zF ["picked"] [x]).length=1/\zF ["laid"] [x]=[]/\z7 [x]<=1:=by
 cases h<;>exact⟨rfl,rfl,by first| exact zG _ | exact qu _⟩
theorem XZ(p:Nat):∀fs:List Nat,z7 (fs.map (.missed p))=fs.length
 | []=>rfl
 | f::fs=>by
  show z7 ([.missed p f]++fs.map (.missed p))=_
  rw[jn,Yg,XZ p fs,qU];omega
theorem PickR.counts{r:List Ev}(h:PickR J pa p own bs n es r):(zF zA r).length+(zF ["picked"] r).length=1/\zF ["laid"] r=[]/\z7 r<=n+1:=by
 obtain⟨fs,x,rfl,l,k⟩:=h.form
 obtain⟨a,b,c⟩:=k.one
 rw[zt,zt,zt,wJ _ (by decide),wJ _ (by decide),wJ _ (by decide),jn,XZ]
 exact⟨a,b,by omega⟩
end
section
variable{J:Job}{n:Nat}{bs:List Bool}{es:List Ev}
theorem PksR.counts{pks:List (Nat×Nat)}{fnd:List Ev}(h:PksR J bs n es pks fnd):(zF zA fnd).length+(zF ["picked"] fnd).length=pks.length/\zF ["laid"] fnd=[]/\z7 fnd<=(n+1)*pks.length:=by
 induction h with
 | nil=>exact⟨rfl,rfl,qu _⟩
 | snoc pks fnd p own pa r h e g ih=>
  obtain⟨a,b,c⟩:=ih
  obtain⟨a',b',c'⟩:=g.counts
  rw[zt,zt,zt,zW,zW,zW,b,b',jn,Nat.mul_add]
  exact⟨by show _=pks.length+1;omega,rfl,by show _<=_+(n+1)*1;omega⟩
theorem LysR.parts{pk:List Ev}{l:List Nat}{r:List Ev}(h:LysR J es pk l r):∃ls:List Ev,r=pk++ls/\(ls.map Ev.p).Sublist l/\(∀e∈ls,∃x∈zF ["picked"] pk,x.p=e.p)/\(zF zA ls).length+(zF ["laid"] ls).length=ls.length/\z7 ls=0/\zF ["picked"] ls=[]:=by
 induction h with
 | nil fnd h=>exact⟨[],by rw[h,qk],Xx _,(fun e he=>nomatch he),rfl,rfl,rfl⟩
 | skip l fnd p h g ih=>
  obtain⟨ls,a,b,c⟩:=ih
  exact⟨ls,a,b.trans (List.sublist_append_left _ _),c⟩
 | lay l fnd p pa x h g ep ly ih=>
  obtain⟨ls,a,b,c,d,e,f⟩:=ih
  have px:x.p=p:=by rcases ly with ⟨_,rfl⟩ | ⟨_,rfl⟩<;>rfl
  have ox:(zF zA [x]).length+(zF ["laid"] [x]).length=1/\z7 [x]=0/\zF ["picked"] [x]=[]:=by rcases ly with ⟨_,rfl⟩ | ⟨_,rfl⟩<;>exact⟨rfl,rfl,rfl⟩
  refine⟨ls++[x],by rw[a,jm],?_,fun y hy=>?_,?_,by rw[jn,e,ox.2.1],by rw[zt,f,ox.2.2];rfl⟩
  ·rw[zZ]
   exact b.append (by rw[<- px];exact Xx _)
  ·rcases zY.mp hy with z | z
   ·exact c y z
   ·cases qg.mp z
    obtain⟨u,hu,eu⟩:=vO.mp g
    exact⟨u,hu,by have:=eq_of_beq eu;omega⟩
  ·rw[zt,zt,zW,zW,zW]
   have:=ox.1
   show _=_+1
   omega
theorem TripR.counts{pks:List (Nat×Nat)}{l:List Nat}{r:List Ev}(h:TripR J bs n es pks l r)(nd:l.Nodup):(zF zA r).length+(zF ["laid"] r).length<=pks.length/\z7 r<=(n+1)*pks.length:=by
 obtain⟨fnd,h1,h2⟩:=h
 obtain⟨a,b,c⟩:=h1.counts
 obtain⟨ls,rfl,s,m,d,e,_⟩:=h2.parts
 have le:=zcd (nd.sublist s) (m:=(zF ["picked"] fnd).map Ev.p) fun q hq=>by
  obtain⟨y,hy,rfl⟩:=qo.mp hq
  obtain⟨x,hx,ex⟩:=m y hy
  exact qo.mpr ⟨x,hx,ex⟩
 rw[zp,zp] at le
 rw[zt,zt,zW,zW,b,jn,e]
 exact⟨by show _+(0+_)<=_;omega,by omega⟩
theorem RunR.counts{ts:List (List (Nat×Nat)×List Nat)}{es:List Ev}{w:Int}(h:RunR J bs n ts es w):(∀t∈ts,t.2.Nodup)->(zF zA es).length+(zF ["laid"] es).length<=(VX ts).length/\z7 es<=(n+1)*(VX ts).length:=by
 induction h with
 | nil=>exact fun _=>⟨qu _,qu _⟩
 | snoc ts es w pks l r h t ih=>
  intro nd
  obtain⟨a,b⟩:=ih fun t ht=>nd t (ji _ ht)
  obtain⟨a',b'⟩:=t.counts (nd (pks,l) (qH _ (qg.mpr rfl)))
  rw[zt,zt,zW,zW,za6,zW,jn,Nat.mul_add]
  exact⟨by show _<=_+pks.length;omega,by show _<=_+(n+1)*pks.length;omega⟩
end
theorem zde{r:Int}(h0:0<=r)(h1:r<4):∃z:Int,atI [V.int 6,V.int 41,V.int 41,V.int 401] r=some (.int z)/\6<=z/\z<=401:=by
 have hc:r=0\/r=1\/r=2\/r=3:=by omega
 rcases hc with rfl | rfl | rfl | rfl
 ·exact⟨_,rfl,by decide,by decide⟩
 ·exact⟨_,rfl,by decide,by decide⟩
 ·exact⟨_,rfl,by decide,by decide⟩
 ·exact⟨_,rfl,by decide,by decide⟩
theorem ze9{r:Int}(h0:0<=r)(h1:r<4)(a b c d:Bool):∃z:Bool,atI [V.bl a,V.bl b,V.bl c,V.bl d] r=some (.bl z):=by
 have hc:r=0\/r=1\/r=2\/r=3:=by omega
 rcases hc with rfl | rfl | rfl | rfl<;>exact⟨_,rfl⟩
section
variable{P:Program}{w:World}{K:PySem.W.Frag}{mg:Str->Option Value}{base:Heap}
inductive zbo(vs:List V)(H:Hp)(Q:VK):Prop
 | mk (b:Addr) (n:Int) (_:vs=[.ref b]) (_:BoxAt H b n) (_:n<500000) (_:∀(l:Addr) (bs:List Bool) H',SameB b H H'->BoxAt H' b (n+1000)->H l=none->l≠b->H' l=some (.lst (bs.map V.bl))->bs.length<=400->Q (.ref l) H'):zbo  vs H Q
def zf7:Sp:=fun vs H Q _=>zbo  vs H Q
theorem zgd:zK ["_law_box_here", "_law_draw", "_law_found", "_law_many", "_law_k"] ["_law_box_here"] (zu (topL 35)):=⟨rfl,rfl,rfl,by decide +kernel,rfl,by decide +kernel,by decide +kernel⟩
def zax(b:_)(d:_)(l:_)(m:_)(H:_)(n:_):=fun(i:Nat) (σ:St) (H':Hp)=>(Ex2 fun(bs:List Bool) (v4:Option V)=>An5 (σ=[some (.ref b),some (.int d),some (.ref l),some (.int m),v4]) (SameB b H H') (BoxAt H' b (n+3+2*i)) (H' l=some (.lst (bs.map V.bl))) (bs.length=i):Prop)
theorem zgz{f:Addr}{fd:FuncData}(F:Fun K "_law_luck" "_law_luck" (topL 35) f fd)(B:Blt mg)(D_take:Dfn P w K mg base "_law_take" 1 ["_law_box_here", "_law_size"] xg):FnOk P w K mg base CX0 2 f fd ["_law_box_here"] zf7:=by
 have nd:=zgd.nd
 refine F.ok zgd (fun vs H Q E h=>?_) (fun cdv A outer s H vs Q E hr h=>?_)
 ·obtain⟨b,n,rfl,_⟩:=h
  rfl
 ·obtain⟨b,n,rfl,B0,hn,k⟩:=h
  have hbig:100000<sizeLine:=by rw[sizeLine_eq];decide
  refine⟨_,(zg (vY (i:=1) (j:=2) rfl nd rfl rfl (by decide) rfl rfl (za (zk D_take (hr.mono (by decide)) rfl (za (pv 0) (za zf zd))) (za (zN zd) zd)) (by rfl))
   (zg (zD (i:=3) nd rfl (Or.inl rfl) (zk D_take (hr.mono (by decide)) rfl (za (pv 0) (za (zr zJ (zN (za zf (za zf (za zf (za zf zd))))) (zk D_take (hr.mono (by decide)) rfl (za (pv 0) (za zf zd))) (fun _ _=>rfl)) zd))))
   (zg (qO jw rfl (qx rfl B.range (za (pv 3) zd)) (zy (i:=4) nd rfl (Or.inl rfl))
   (zm (zU (qZ qW jM jL zV (pv 2) (za (zr zJ (zN (za xH (za xH (za (qL ja (zk D_take (hr.mono (by decide)) rfl (za (pv 0) (za zf zd))) zf (zE _)) (za (qL Jr (zk D_take (hr.mono (by decide)) rfl (za (pv 0) (za zf zd))) zf (zE _)) zd))))) (pv 1) (fun _ _=>rfl)) zd)))))
   (zm (zH (pv 2)))))),?_⟩
  have e62:(2:Int)^62=4611686018427387904:=by decide
  refine⟨_,rfl,b,4,n,rfl,B0,by omega,by decide,by decide,fun d H1 d0 d1 B1 S1=>⟨le0,fun l hl=>?_⟩⟩
  have lb:=B1.nne hl
  have S2:=S1.new (o:=.lst []) hl
  have B2:=B1.new (o:=.lst []) hl
  have L2:upd H1 l (.lst []) l=some (.lst []):=zb
  have lN:=S1.none hl lb
  generalize upd H1 l (.lst [])=H2 at S2 B2 L2
  refine⟨_,_,rfl,_,rfl,le4,fun q hq=>⟨_,rfl,b,4,_,rfl,B2.new hq,by omega,by decide,by decide,fun r H3 r0 r1 B3 S3=>?_⟩⟩
  obtain⟨z,ez,z0,z1⟩:=zde r0 r1
  have qb:=B2.nne hq
  refine⟨q,_,_,_,rfl,rfl,SqL.of (S3 _ _ zb qb),ez,b,z,_,rfl,B3,by omega,by omega,by omega,fun m H4 m0 m1 B4 S4=>?_⟩
  have S5:=((S2.new hq).trans S3).trans S4
  have L5:=S4 _ _ (S3 _ _ ((ze (o:=.lst [.int 6,.int 41,.int 41,.int 401]) hq) _ _ L2) lb) lb
  refine⟨_,rfl,_,rfl,(by rw[e62];omega),(by rw[e62];omega),?_⟩
  refine jd (zax b d l m H n) ⟨[],_,rfl,S5,B4.mono (by omega),L5,rfl⟩ ?_ ?_
  ·rintro i σ H' hi ⟨bs,v4,rfl,S',B',L',bl⟩
   refine⟨_,rfl,.inl ⟨rfl,_,SqL.of L'⟩,_,rfl,b,2,_,rfl,B',by omega,by decide,by decide,fun r1 H6 a0 a1 B6 S6=>⟨rfl,_,rfl,b,5,_,rfl,B6,by omega,by decide,by decide,fun r2 H7 c0 c1 B7 S7=>⟨_,_,rfl,rfl,le4,fun t ht=>?_⟩⟩⟩
   obtain⟨z,ez⟩:=ze9 d0 d1 false true (decide (V.int r1=V.int 0)) (decide (0<r2))
   have tb:=B7.nne ht
   have S8:=(S'.trans S6).trans S7
   have L8:=(ze (o:=.lst [.bl false,.bl true,.bl (decide (V.int r1=V.int 0)),.bl (decide (0<r2))]) ht) _ _ (S7 _ _ (S6 _ _ L' lb) lb)
   refine⟨_,rfl,t,_,_,_,rfl,rfl,SqL.of zb,(by first| exact ez | (rw[<- ez];rfl)),l,_,_,rfl,rfl,L8,by rw[zp];omega,bs++[z],_,rfl,(S8.new ht).put lN,((B7.new ht).other lb).mono (by omega),by rw[zb,zZ];rfl,by rw[zW,bl];rfl⟩
  ·rintro σ H' ⟨bs,v4,rfl,S',B',L',bl⟩
   exact⟨_,rfl,k l bs H' S' (B'.mono (by omega)) lN lb L' (by omega)⟩
end
theorem zdg{r:Int}(h0:0<=r)(h1:r<3):∃z:Int,atI [V.int 0,V.int 0,V.int 5] r=some (.int z)/\0<=z/\z<=5:=by
 have hc:r=0\/r=1\/r=2:=by omega
 rcases hc with rfl | rfl | rfl<;>exact⟨_,rfl,by decide,by decide⟩
section
variable{P:Program}{w:World}{K:PySem.W.Frag}{mg:Str->Option Value}{base:Heap}
structure CaseAt(K:PySem.W.Frag)(H:Hp)(jp pl lk:Addr)(J:Job)(ts:List jW)(bs:List Bool)(m:Nat):Prop where
 rj:Rep K H (xR J) (.ref jp)
 jo:∃ord,JobOk J ord
 rp:∃tr,H pl=some (.lst tr)/\Reps K H (ts.map vT) tr
 po:∃os:List Nat,os.Perm (List.range J.ps.length)/\ByOrd os J.as/\XS J os ts
 hl:H lk=some (.lst (bs.map V.bl))
 bl:bs.length<=400
 m1:1<=m
 m5:m<=5
inductive Vb(K:PySem.W.Frag)(vs:List V)(H:Hp)(Q:VK):Prop
 | mk (b:Addr) (n:Int) (_:vs=[.ref b]) (_:BoxAt H b n) (_:n<400000) (_:∀(T jp pl lk:Addr) (J:Job) (ts:List jW) (bs:List Bool) (m:Nat) H',SameB b H H'->BoxAt H' b (n+6000)->H' T=some (.tup [.ref jp,.ref pl,.ref lk,.int (m:Int)])->CaseAt K H' jp pl lk J ts bs m->Q (.ref T) H'):Vb K vs H Q
def Wb(K:PySem.W.Frag):Sp:=fun vs H Q _=>Vb K vs H Q
theorem zbF:zK ["_law_box_here", "_law_few", "_law_most", "_law_job_here", "_law_plan_here"] ["_law_box_here"] (zu (topL 39)):=⟨rfl,rfl,rfl,by decide +kernel,rfl,by decide +kernel,by decide +kernel⟩
def zaw(b:_)(H:_)(n:_):=fun(σ':St) (H':Hp)=>(Ex2 fun(few most:Int)=>An7 (σ'=[some (.ref b),some (.int few),some (.int most),none,none]) (0<=few) (few<=60) (0<=most) (most<=60) (SameB b H H') (BoxAt H' b (n+1)):Prop)
theorem zdA{f:Addr}{fd:FuncData}(F:Fun K "_law_case" "_law_case" (topL 39) f fd)(B:Blt mg)(D_take:Dfn P w K mg base "_law_take" 1 ["_law_box_here", "_law_size"] xg)(D_job:Dfn P w K mg base "_law_job" 4 ["_law_box_here", "_law_few", "_law_most", "_law_plenty"] (zeh K))(D_plan:Dfn P w K mg base "_law_plan" 4 ["_law_box_here", "_law_job_here", "_law_most"] (zbm K))(D_luck:Dfn P w K mg base "_law_luck" 2 ["_law_box_here"] zf7):FnOk P w K mg base CX0 5 f fd ["_law_box_here"] (Wb K):=by
 have nd:=zbF.nd
 refine F.ok zbF (fun vs H Q E h=>?_) (fun cdv A outer s H vs Q E hr h=>?_)
 ·obtain⟨b,n,rfl,_⟩:=h
  rfl
 ·obtain⟨b,n,rfl,B0,hn,k⟩:=h
  have hbig:100000<sizeLine:=by rw[sizeLine_eq];decide
  refine⟨_,(zg (xQ (j7 (xm (zC ja (zk D_take (hr.mono (by decide)) rfl (za (pv 0) (za zf zd))) zf (zE _)) (zX (za zf (za zf zd))) (zX (za zf (za zf zd)))) (xi rfl (zR (zy (i:=1) nd rfl (Or.inl rfl)) (zR (zy (i:=2) nd rfl (Or.inl rfl)) jH)))))
   (zg (zD (i:=3) nd rfl (Or.inl rfl) (zk D_job (hr.mono (by decide)) rfl (za (pv 0) (za (pv 1) (za (pv 2) (za (qL ja (zk D_take (hr.mono (by decide)) rfl (za (pv 0) (za zf zd))) zf (zE _)) zd))))))
   (zg (zD (i:=4) nd rfl (Or.inl rfl) (zk D_plan (hr.mono (by decide)) rfl (za (pv 0) (za (pv 3) (za (zr zJ (zN (za zf (za zf (za zf zd)))) (zk D_take (hr.mono (by decide)) rfl (za (pv 0) (za zf zd))) (fun _ _=>rfl)) zd)))))
   (zm (zH (zX (za (pv 3) (za (pv 4) (za (zk D_luck (hr.mono (by decide)) rfl (za (pv 0) zd)) (za (zB qE zf (zk D_take (hr.mono (by decide)) rfl (za (pv 0) (za zf zd)))) zd)))))))))),?_⟩
  refine⟨zaw b H n,?_,?_⟩
  ·refine⟨_,rfl,b,16,n,rfl,B0,by omega,by decide,by decide,fun r H1 r0 r1 B1 S1=>⟨rfl,_,rfl,jD (fun c=>⟨le2,fun q hq=>?_⟩) (fun c=>⟨le2,fun q hq=>?_⟩)⟩⟩
   ·exact⟨q,_,rfl,SqT.of zb,rfl,_,_,rfl,_,_,rfl,rfl,60,60,rfl,by decide,by decide,by decide,by decide,S1.new hq,B1.new hq⟩
   ·exact⟨q,_,rfl,SqT.of zb,rfl,_,_,rfl,_,_,rfl,rfl,7,24,rfl,by decide,by decide,by decide,by decide,S1.new hq,B1.new hq⟩
  rintro σ' H1 ⟨few,most,rfl,f0,f1,m0,m1,S1,B1⟩
  refine⟨_,rfl,_,rfl,_,rfl,_,rfl,b,2,_,rfl,B1,by omega,by decide,by decide,fun r2 H2 _ _ B2 S2=>⟨rfl,b,few,most,_,_,rfl,B2,by omega,f0,f1,m0,m1,fun jp J ord H3 S3 B3 rj jo=>?_⟩⟩
  have S3':=(S1.trans S2).trans S3
  refine⟨_,rfl,_,rfl,le3,fun q hq=>⟨_,rfl,b,3,_,rfl,B3.new hq,by omega,by decide,by decide,fun r H4 r0 r1 B4 S4=>?_⟩⟩
  have qb:=B3.nne hq
  obtain⟨z,ez,z0,z1⟩:=zdg r0 r1
  have rj3:=rj.same (ze (o:=.lst [.int 0,.int 0,.int 5]) hq)
  have S4':=(S3'.new (o:=.lst [.int 0,.int 0,.int 5]) hq).trans S4
  have rj4:=rj3.keep (SameT.draw (B3.new (o:=.lst [.int 0,.int 0,.int 5]) hq) S4) (jX J)
  refine⟨q,_,_,_,rfl,rfl,SqL.of (S4 _ _ zb qb),ez,b,jp,J,ord,z,_,rfl,B4,by omega,rj4,jo,z0,by omega,fun pl os ts tr H5 S5 B5 pb plN L5 r5 pm ob po=>?_⟩
  have rj5:=rj4.keep (SameT.draw B4 S5) (jX J)
  refine⟨_,rfl,_,rfl,_,rfl,b,_,rfl,B5,by omega,fun lk bs H6 S6 B6 lkN lkb L6 bl=>?_⟩
  have rj6:=rj5.keep (SameT.draw B5 S6) (jX J)
  refine⟨_,rfl,b,5,_,rfl,B6,by omega,by decide,by decide,fun m H7 m0 m1 B7 S7=>⟨_,_,rfl,rfl,le4,fun T hT=>?_⟩⟩
  have s8:=ze (o:=.tup [.ref jp,.ref pl,.ref lk,.int (1+m)]) hT
  have em:(((1+m).toNat:Nat):Int)=1+m:=by omega
  refine k T jp pl lk J ts bs (1+m).toNat _ ((((S4'.trans S5).trans S6).trans S7).new hT) ((B7.new hT).mono (by omega)) (by rw[zb,em]) ⟨(rj6.keep (SameT.draw B6 S7) (jX J)).same s8,⟨ord,jo⟩,⟨tr,s8 _ _ (S7 _ _ (S6 _ _ L5 pb) pb),((r5.keep (SameT.draw B5 S6) (xa ts)).keep (SameT.draw B6 S7) (xa ts)).same s8⟩,⟨os,pm,ob,po⟩,s8 _ _ (S7 _ _ L6 lkb),bl,by omega,by omega⟩
end
def vf(n:Nat)(g:Nat->Int):List V:=(List.range n).map fun k=>V.int (g k)
theorem Qe(n:Nat)(g:Nat->Int):(vf n g).length=n:=by unfold vf;rw[zp,vd]
theorem Vh{n f:Nat}{g:Nat->Int}(h:f<n):(vf n g)[f]? =some (.int (g f)):=by
 unfold vf
 rw[qJ,WQ h]
 rfl
def upF(g:Nat->Int)(f:Nat)(v:Int):Nat->Int:=fun k=>if k=f then v else g k
theorem zbK{n f:Nat}{g:Nat->Int}{v:Int}(h:f<n):(vf n g).set f (.int v)=vf n (upF g f v):=by
 refine List.ext_getElem? fun k=>?_
 rw[WK]
 unfold vf upF
 by_cases e:f=k
 ·subst e
  rw[zx rfl,zx (by rw[zp,vd];exact h),qJ,WQ h]
  show _=some (V.int (if f=f then v else g f))
  rw[zx rfl]
 ·rw[zq e,qJ,qJ]
  by_cases hk:k<n
  ·rw[WQ hk]
   show some (V.int (g k))=some (V.int (if k=f then v else g k))
   rw[zq (fun z=>e z.symm)]
  ·rw[List.getElem?_eq_none (by rw[vd];omega)]
   rfl
theorem wo{α:Type}(f:α->Bool){l:List α}{i:Nat}{x:α}(h:l[i]? =some x):(l.take (i+1)).filter f=(l.take i).filter f++(if f x=true then [x] else []):=by
 rw[qB h,vP]
 cases hf:f x
 ·rw[QJ (by rw[hf];exact qm)];rfl
 ·rw[QK hf];rfl
def qy(J:Job)(es:List Ev)(k:Nat):Int:=(J.fs[k]?.map vw.m).getD 0-((Zg es).count (k:Int):Int)
def pOf(l:List Ev):List Nat:=l.map Ev.p
def stK(st lk eo la gi:Addr)(t w:Int):List (Key×V):=[(.inr "stock",.ref st),(.inr "luck",.ref lk),(.inr "tried",.int t),(.inr "far",.int w),(.inr "events",.ref eo),(.inr "laid",.ref la),(.inr "given",.ref gi)]
section
variable{K:PySem.W.Frag}
structure StA(K:PySem.W.Frag)(G H:Hp)(sp st lk eo la gi:Addr)(n:Nat)(sk:Nat->Int)(t:Int)(es:List Ev)(ls gs:List Nat)(w:Int):Prop where
 hs:H sp=some (.dK (stK st lk eo la gi t w))
 ht:H st=some (.lst (vf n sk))
 he:∃xs,H eo=some (.lst xs)/\Reps K (WX [sp,st,eo,la,gi] H) (es.map evD) xs
 ha:H la=some (.lst (zv ls))
 hi:H gi=some (.lst (zv gs))
 nd:[sp,st,eo,la,gi].Nodup
 fr:Same G (WX [sp,st,eo,la,gi] H)
variable{G H H':Hp}{sp st lk eo la gi:Addr}{n:Nat}{sk sk':Nat->Int}{t t':Int}{es:List Ev}{ls gs:List Nat}{w w':Int}
theorem StA.ne(h:StA K G H sp st lk eo la gi n sk t es ls gs w):sp≠st/\sp≠eo/\sp≠la/\sp≠gi/\st≠eo/\st≠la/\st≠gi/\eo≠la/\eo≠gi/\la≠gi:=by
 have nd:=h.nd
 simp only[yA,zS,not_or,xL,not_false_eq_true,and_true,WE] at nd
 obtain⟨⟨a1,a2,a3,a4⟩,⟨b1,b2,b3⟩,⟨c1,c2⟩,d1⟩:=nd
 exact⟨a1,a2,a3,a4,b1,b2,b3,c1,c2,d1⟩
theorem StA.out(h:StA K G H sp st lk eo la gi n sk t es ls gs w){p:Addr}(hp:H p=none):p∉[sp,st,eo,la,gi]:=fun z=>by
 obtain⟨xs,he,_⟩:=h.he
 simp only[zS,xL,or_false] at z
 rcases z with rfl | rfl | rfl | rfl | rfl
 ·rw[h.hs] at hp;cases hp
 ·rw[h.ht] at hp;cases hp
 ·rw[he] at hp;cases hp
 ·rw[h.ha] at hp;cases hp
 ·rw[h.hi] at hp;cases hp
theorem StA.mv(h:StA K G H sp st lk eo la gi n sk t es ls gs w)(f:∀a∈[sp,st,eo,la,gi],H' a=H a)(s:Same (WX [sp,st,eo,la,gi] H) (WX [sp,st,eo,la,gi] H'))(g:Same G (WX [sp,st,eo,la,gi] H')):StA K G H' sp st lk eo la gi n sk t es ls gs w:=by
 obtain⟨xs,he,re⟩:=h.he
 refine⟨by rw[f _ (by simp)];exact h.hs,by rw[f _ (by simp)];exact h.ht,⟨xs,by rw[f _ (by simp)];exact he,re.same s⟩,by rw[f _ (by simp)];exact h.ha,by rw[f _ (by simp)];exact h.hi,h.nd,g⟩
theorem StA.new(h:StA K G H sp st lk eo la gi n sk t es ls gs w){p:Addr}{o:HO}(hp:H p=none):StA K G (upd H p o) sp st lk eo la gi n sk t es ls gs w:=
 h.mv (fun a ha=>zi fun z=>h.out hp (z▸ha)) (WX.new hp) (h.fr.trans (WX.new hp))
theorem StA.same(h:StA K G H sp st lk eo la gi n sk t es ls gs w)(s:Same H H'):StA K G H' sp st lk eo la gi n sk t es ls gs w:=by
 obtain⟨xs,he,re⟩:=h.he
 exact⟨s _ _ h.hs,s _ _ h.ht,⟨xs,s _ _ he,re.same (WX.same s)⟩,s _ _ h.ha,s _ _ h.hi,h.nd,h.fr.trans (WX.same s)⟩
theorem StA.put(h:StA K G H sp st lk eo la gi n sk t es ls gs w){p:Addr}{o:HO}(hp:p∉[sp,st,eo,la,gi])(g:G p=none)(hl:∃ys,H p=some (.lst ys)):StA K G (upd H p o) sp st lk eo la gi n sk t es ls gs w:=by
 obtain⟨ys,hl⟩:=hl
 refine⟨?_,?_,?_,?_,?_,h.nd,?_⟩
 ·rw[zi fun z=>hp (by rw[<- z];simp)];exact h.hs
 ·rw[zi fun z=>hp (by rw[<- z];simp)];exact h.ht
 ·obtain⟨xs,he,re⟩:=h.he
  refine⟨xs,by rw[zi fun z=>hp (by rw[<- z];simp)];exact he,re.keep (fun a u e h1 h2=>?_) (Y6 _)⟩
  unfold WX at e ⊢
  split at e
  ·cases e
  ·rename_i hn
   rw[zq hn]
   have:a≠p:=fun z=>by rw[z,hl] at e;cases e;exact h1 _ rfl
   rw[zi this]
   exact e
 ·rw[zi fun z=>hp (by rw[<- z];simp)];exact h.ha
 ·rw[zi fun z=>hp (by rw[<- z];simp)];exact h.hi
 ·intro a u e
  have:=h.fr a u e
  unfold WX at this ⊢
  split at this
  ·cases this
  ·rename_i hn
   rw[zq hn,zi fun z=>by rw[z,g] at e;cases e]
   exact this
theorem StA.stock(h:StA K G H sp st lk eo la gi n sk t es ls gs w):StA K G (upd H st (.lst (vf n sk'))) sp st lk eo la gi n sk' t es ls gs w:=by
 obtain⟨n1,n2,n3,n4,n5,n6,n7,n8,n9,n10⟩:=h.ne
 have m:Same (WX [sp,st,eo,la,gi] H) (WX [sp,st,eo,la,gi] (upd H st (.lst (vf n sk')))):=WX.put (by simp)
 obtain⟨xs,he,re⟩:=h.he
 exact⟨by rw[zi n1];exact h.hs,zb,⟨xs,by rw[zi n5.symm];exact he,re.same m⟩,by rw[zi n6.symm];exact h.ha,by rw[zi n7.symm];exact h.hi,h.nd,h.fr.trans m⟩
theorem StA.nums(h:StA K G H sp st lk eo la gi n sk t es ls gs w):StA K G (upd H sp (.dK (stK st lk eo la gi t' w'))) sp st lk eo la gi n sk t' es ls gs w':=by
 obtain⟨n1,n2,n3,n4,n5,n6,n7,n8,n9,n10⟩:=h.ne
 have m:Same (WX [sp,st,eo,la,gi] H) (WX [sp,st,eo,la,gi] (upd H sp (.dK (stK st lk eo la gi t' w')))):=WX.put (by simp)
 obtain⟨xs,he,re⟩:=h.he
 exact⟨zb,by rw[zi n1.symm];exact h.ht,⟨xs,by rw[zi n2.symm];exact he,re.same m⟩,by rw[zi n3.symm];exact h.ha,by rw[zi n4.symm];exact h.hi,h.nd,h.fr.trans m⟩
theorem StA.event(h:StA K G H sp st lk eo la gi n sk t es ls gs w){xs:List V}{e:Ev}{v:V}(hx:H eo=some (.lst xs))(rx:Reps K (WX [sp,st,eo,la,gi] H) (es.map evD) xs)(rv:Rep K (WX [sp,st,eo,la,gi] H) (evD e) v):StA K G (upd H eo (.lst (xs++[v]))) sp st lk eo la gi n sk t (es++[e]) ls gs w:=by
 obtain⟨n1,n2,n3,n4,n5,n6,n7,n8,n9,n10⟩:=h.ne
 have m:Same (WX [sp,st,eo,la,gi] H) (WX [sp,st,eo,la,gi] (upd H eo (.lst (xs++[v])))):=WX.put (by simp)
 refine⟨by rw[zi n2];exact h.hs,by rw[zi n5];exact h.ht,⟨_,zb,?_⟩,by rw[zi n8.symm];exact h.ha,by rw[zi n9.symm];exact h.hi,h.nd,h.fr.trans m⟩
 rw[zZ]
 exact(rx.same m).app ⟨v,[],rfl,rv.same m,rfl⟩
theorem StA.giv(h:StA K G H sp st lk eo la gi n sk t es ls gs w){p:Nat}:StA K G (upd H gi (.lst (zv gs++[.int (p:Int)]))) sp st lk eo la gi n sk t es ls (gs++[p]) w:=by
 obtain⟨n1,n2,n3,n4,n5,n6,n7,n8,n9,n10⟩:=h.ne
 have m:Same (WX [sp,st,eo,la,gi] H) (WX [sp,st,eo,la,gi] (upd H gi (.lst (zv gs++[.int (p:Int)])))):=WX.put (by simp)
 obtain⟨xs,he,re⟩:=h.he
 exact⟨by rw[zi n4];exact h.hs,by rw[zi n7];exact h.ht,⟨xs,by rw[zi n9];exact he,re.same m⟩,by rw[zi n10];exact h.ha,by rw[zb,xw],h.nd,h.fr.trans m⟩
theorem StA.lay(h:StA K G H sp st lk eo la gi n sk t es ls gs w){p:Nat}:StA K G (upd H la (.lst (zv ls++[.int (p:Int)]))) sp st lk eo la gi n sk t es (ls++[p]) gs w:=by
 obtain⟨n1,n2,n3,n4,n5,n6,n7,n8,n9,n10⟩:=h.ne
 have m:Same (WX [sp,st,eo,la,gi] H) (WX [sp,st,eo,la,gi] (upd H la (.lst (zv ls++[.int (p:Int)])))):=WX.put (by simp)
 obtain⟨xs,he,re⟩:=h.he
 exact⟨by rw[zi n3];exact h.hs,by rw[zi n6];exact h.ht,⟨xs,by rw[zi n8];exact he,re.same m⟩,by rw[zb,xw],by rw[zi n10.symm];exact h.hi,h.nd,h.fr.trans m⟩
theorem StA.dS(h:StA K G H sp st lk eo la gi n sk t es ls gs w):DGet H sp (.str "stock") (some (.ref st)):=DGet.k (k:=.inr "stock") h.hs
theorem StA.dL(h:StA K G H sp st lk eo la gi n sk t es ls gs w):DGet H sp (.str "luck") (some (.ref lk)):=DGet.k (k:=.inr "luck") h.hs
theorem StA.dT(h:StA K G H sp st lk eo la gi n sk t es ls gs w):DGet H sp (.str "tried") (some (.int t)):=DGet.k (k:=.inr "tried") h.hs
theorem StA.dF(h:StA K G H sp st lk eo la gi n sk t es ls gs w):DGet H sp (.str "far") (some (.int w)):=DGet.k (k:=.inr "far") h.hs
theorem StA.dE(h:StA K G H sp st lk eo la gi n sk t es ls gs w):DGet H sp (.str "events") (some (.ref eo)):=DGet.k (k:=.inr "events") h.hs
theorem StA.dA(h:StA K G H sp st lk eo la gi n sk t es ls gs w):DGet H sp (.str "laid") (some (.ref la)):=DGet.k (k:=.inr "laid") h.hs
theorem StA.dG(h:StA K G H sp st lk eo la gi n sk t es ls gs w):DGet H sp (.str "given") (some (.ref gi)):=DGet.k (k:=.inr "given") h.hs
theorem StA.pT(h:StA K G H sp st lk eo la gi n sk t es ls gs w):DPut H sp (.str "tried") (.int t') (upd H sp (.dK (stK st lk eo la gi t' w))):=DPut.k (k:=.inr "tried") h.hs (by rw[sizeLine_eq];show 7<_;decide)
theorem StA.pF(h:StA K G H sp st lk eo la gi n sk t es ls gs w):DPut H sp (.str "far") (.int w') (upd H sp (.dK (stK st lk eo la gi t w'))):=DPut.k (k:=.inr "far") h.hs (by rw[sizeLine_eq];show 7<_;decide)
theorem StA.le(h:StA K G H sp st lk eo la gi n sk t es ls gs w):Same G H:=h.fr.trans WX.le
end
theorem V7(es:List Ev){e:Ev}(h:e.w∈z9):Zg (es++[e])=Zg es++[(e.f:Int)]:=by
 unfold Zg
 rw[zt,zZ,zcu,zx (qv h)]
 rfl
theorem zaL(J:Job)(es:List Ev){e:Ev}(h:e.w∈z9):qy J (es++[e])=upF (qy J es) e.f (qy J es e.f-1):=by
 funext k
 unfold upF qy
 rw[V7 es h,List.count_append,List.count_singleton]
 by_cases c:k=e.f
 ·subst c
  rw[zx rfl,zx (by simp)]
  omega
 ·rw[zq c,zq (by simp;omega)]
  omega
theorem vW(J:Job)(pa:xo)(es:List Ev):vz J pa es=(atK J.fs pa.k J.fs.length).filter fun f=>decide (0<qy J es f):=by
 unfold vz
 refine List.filter_congr fun f _=>?_
 rw[xP,jT,jT]
 unfold qy
 omega
theorem Z3{fs:List vw}{kd:Str}{k:Nat}:k∈atK fs kd fs.length↔∃fe,fs[k]? =some fe/\fe.k=kd:=by
 unfold atK
 rw[jz,xK,jT]
 constructor
 ·rintro⟨_,h⟩
  obtain⟨fe,e,h⟩:=qw.mp h
  exact⟨fe,e,h⟩
 ·rintro⟨fe,e,h⟩
  exact⟨(zQ.mp e).1,by rw[e];exact congrArg some h⟩
theorem zfP(fs:List vw)(kd:Str)(n:Nat):(atK fs kd n).Pairwise (·< ·):=List.Pairwise.filter _ List.pairwise_lt_range
def wW(J:Job)(pa:xo)(own:Nat)(es:List Ev):List Nat:=(own::atK J.fs pa.k J.fs.length).filter fun f=>decide (0<qy J es f)
theorem zcs{J:Job}{pa:xo}{own:Nat}{es:List Ev}(h:wW J pa own es=[]):NF (vz J pa es) own .non:=by
 refine .non ?_
 rw[vW,WV]
 exact fun a ha=>(WV.mp h) a (qV _ ha)
theorem zaU{J:Job}{pa:xo}{own f:Nat}{es:List Ev}{r:List Nat}(ho:own∈atK J.fs pa.k J.fs.length)(h:wW J pa own es=f::r):NF (vz J pa es) own (.int (f:Int))/\f<J.fs.length/\0<qy J es f:=by
 have hm:f∈wW J pa own es:=by rw[h];exact qP
 have hp:0<qy J es f:=jA (jz.mp hm).2
 have hk:f∈atK J.fs pa.k J.fs.length:=by
  rcases zS.mp (jz.mp hm).1 with e | e
  ·rw[e];exact ho
  ·exact e
 obtain⟨fe,ef,_⟩:=Z3.mp hk
 refine⟨?_,(zQ.mp ef).1,hp⟩
 unfold wW at h
 rw[w9] at h
 split at h
 ·rename_i c
  have e:own=f:=(Xn h).1
  rw[<- e]
  refine .own ?_
  rw[vW]
  exact jz.mpr ⟨ho,c⟩
 ·rename_i c
  rw[<- vW] at h
  refine .least f (fun z=>?_) (by rw[h];exact qP) fun g hg=>?_
  ·rw[vW] at z
   exact c (jz.mp z).2
  ·have pw:(vz J pa es).Pairwise (·< ·):=by rw[vW];exact(zfP _ _ _).filter _
   rw[h] at pw hg
   rcases zS.mp hg with e | e
   ·omega
   ·exact yw ((List.pairwise_cons.mp pw).1 g e)
def wB(b:Bool):Str:=if b then "picked" else "missed"
def evB(b:Bool)(p q:Nat):Ev:=if b then .picked p q else .missed p q
theorem zcv(b:Bool)(p q:Nat):(evB b p q).w∈z9:=by
 cases b
 ·show("missed" : Str)∈z9
  decide
 ·show("picked" : Str)∈z9
  decide
theorem zcw(b:Bool)(p q:Nat):(evB b p q).f=q:=by cases b<;>rfl
theorem zgS(b:Bool)(p q:Nat):evD (evB b p q)=.tup [.str (wB b),.int (p:Int),.int (q:Int)]:=by cases b<;>rfl
theorem zfG(b:Bool):atI [V.str "missed",V.str "picked"] (if b=true then 1 else 0)=some (.str (wB b)):=by cases b<;>rfl
section
variable{P:Program}{w:World}{K:PySem.W.Frag}{mg:Str->Option Value}{base:Heap}
inductive JS(J:Job)(pa:xo)(p own:Nat)(bs:List Bool)(es:List Ev)(n:Nat)(fnd:List Ev):Str->Prop
 | good (h:TryR J pa p own bs es n [] fnd) (g:∃f r,fnd=r++[Ev.picked p f]/\∀e∈r,e.w = "missed"):JS J pa p own bs es n fnd ""
 | none (h:TryR J pa p own bs es n [] (fnd++[.none p])) (g:∀e∈fnd,e.w = "missed"):JS J pa p own bs es n fnd "none"
 | failed (h:TryR J pa p own bs es n [] (fnd++[.failed p])) (g:∀e∈fnd,e.w = "missed"):JS J pa p own bs es n fnd "failed"
inductive Yj(K:PySem.W.Frag)(vs:List V)(H:Hp)(Q:VK):Prop
 | mk (sp st lk eo la gi jp:Addr) (G:Hp) (J:Job) (p own n:Nat) (pa:xo) (bs:List Bool) (es:List Ev) (ls gs:List Nat) (w:Int) (_:vs=[.ref sp,.ref jp,.int (p:Int),.int (own:Int),.int (n:Int)]) (_:StA K G H sp st lk eo la gi J.fs.length (qy J es) (z7 es:Nat) es ls gs w) (_:Rep K G (xR J) (.ref jp)) (_:SqL K G lk (bs.map V.bl)) (_:J.ps[p]? =some pa) (_:own∈atK J.fs pa.k J.fs.length) (_:n<=10) (_:es.length<=4000) (_:J.fs.length<=60) (_:bs.length<=400) (_:∀(T so:Addr) (fnd:List Ev) (wd:Str) H',StA K G H' sp st lk eo la gi J.fs.length (qy J (es++fnd)) (z7 (es++fnd):Nat) (es++fnd) ls gs w->JS J pa p own bs es n fnd wd->(∀e∈fnd,e.w∈z9/\e.f<J.fs.length)->fnd.length<=n->H' T=some (.tup [.ref so,.str wd])->G so=none->so∉[sp,st,eo,la,gi]->T∉[sp,st,eo,la,gi]->H' so=some (.lst (zv (fnd.map Ev.f)))->Q (.ref T) H'):Yj K vs H Q
def zee(K:PySem.W.Frag):Sp:=fun vs H Q _=>Yj K vs H Q
theorem zel:zK ["_law_state", "_law_job_here", "_law_part", "_law_feeder", "_law_tries", "_law_some", "_law_k", "_law_kin", "_law_full", "_law_good"] ["_law_state", "_law_job_here", "_law_part", "_law_feeder", "_law_tries"] (zu (topL 36)):=⟨rfl,rfl,rfl,by decide +kernel,rfl,by decide +kernel,by decide +kernel⟩
theorem zfk{f:Addr}{fd:FuncData}(F:Fun K "_law_tried" "_law_tried" (topL 36) f fd)(B:Blt mg):FnOk P w K mg base CX0 1 f fd ["_law_state", "_law_job_here", "_law_part", "_law_feeder", "_law_tries"] (zee K):=by
 have nd:=zel.nd
 refine F.ok zel (fun vs H Q E h=>?_) (fun cdv A outer s H vs Q E hr h=>?_)
 ·obtain⟨sp,st,lk,eo,la,gi,jp,G,J,p,own,n,pa,bs,es,ls,gs,w,rfl,_⟩:=h
  rfl
 ·obtain⟨sp,st,lk,eo,la,gi,jp,G,J,p,own,n,pa,bs,es,ls,gs,w,rfl,sa,rj,hlk,epa,ho,n10,el,fl,bl,k⟩:=h
  have hbig:1000000<sizeLine:=by rw[sizeLine_eq];decide
  have e62:(2:Int)^62=4611686018427387904:=by decide
  have hu:=hr.units0
  have hu1:=Qp hr
  refine⟨_,(zg (zD (i:=5) nd rfl (Or.inl rfl) (zN zd))
   (zg (qO jw rfl (qx rfl B.range (za (pv 4) zd)) (zy (i:=6) nd rfl (Or.inl rfl))
   (zg (We ["_law_part", "_law_job_here"] [2,1] rfl rfl (by kernel_rfl) (qx rfl B.range (za (zo zw rfl B.len boot_len (za (zr zM (pv 1) zf (fun _ _=>rfl)) zd)) zd)) (fun _ _ _ _=>(vg (zC ja (zr (jt (K:=K) rfl) (zr (jt (K:=K) rfl) (zr (jt (K:=K) rfl) (pv 2) zf (fun _ _=>rfl)) (pv 0) (fun _ _=>rfl)) zf (fun _ _=>rfl)) (zr (jt (K:=K) rfl) (zr (jt (K:=K) rfl) (zr (jt (K:=K) rfl) (pv 2) zf (fun _ _=>rfl)) (pv 1) (fun _ _=>rfl)) zf (fun _ _=>rfl)) (zE _)))) (fun _ _ _ _=>(pv 0)) (zy (i:=7) nd rfl (Or.inl rfl)))
    (zg (We ["_law_state"] [0] rfl rfl (by kernel_rfl) (qN (zB Zp (zN (za (pv 3) zd)) (pv 7))) (fun _ _ _ _=>(vg (zC Jr (zr (yQ (K:=K) rfl) (qD hu1 (pv 1) zL (fun _ _=>rfl)) (pv 0) (fun _ _=>rfl)) zf (zE _)))) (fun _ _ _ _=>(pv 0)) (zy (i:=8) nd rfl (Or.inl rfl)))
    (zg (qY (zC (Vp hu) (pv 8) (zN zd) (zE _))
    (zm (zH (zX (za (pv 5) (za zL zd)))))
    qK)
    (zg (zU (qZ qW jM jL zV (pv 5) (za (zr zJ (pv 8) zf (fun _ _=>rfl)) zd)))
    (zg (j7 (zB xN (zr zJ (qD hu1 (pv 0) zL (fun _ _=>rfl)) (zr zJ (pv 8) zf (fun _ _=>rfl)) (fun _ _=>rfl)) zf) (vB (qD hu1 (pv 0) zL (fun _ _=>rfl)) (zr zJ (pv 8) zf (fun _ _=>rfl)) xh))
    (zg (J4 hu1 (pv 0) zL (zB qE (qD hu1 (pv 0) zL (fun _ _=>rfl)) zf) rfl)
    (zg (xQ (zD (i:=9) nd rfl (Or.inl rfl) (xm (zC zb0 (qD hu1 (pv 0) zL (fun _ _=>rfl)) (zo zw rfl B.len boot_len (za (qD hu1 (pv 0) zL (fun _ _=>rfl)) zd)) (zE _)) (zr zJ (qD hu1 (pv 0) zL (fun _ _=>rfl)) (zB xN (qD hu1 (pv 0) zL (fun _ _=>rfl)) zf) (fun _ _=>rfl)) xH)))
    (zg (zU (qZ qW jM jL zV (qD hu1 (pv 0) zL (fun _ _=>rfl)) (za (zX (za (zr zJ (zN (za zL (za zL zd))) (jc wO rfl B.int vq (za (pv 9) zd)) (fun _ _=>rfl)) (za (pv 2) (za (zr zJ (pv 8) zf (fun _ _=>rfl)) zd)))) zd)))
    (zm (qY (jV (pv 9))
    (zm (zH (zX (za (pv 5) (za zL zd)))))
    qK)))))))))))
   (zm (zH (zX (za (pv 5) (za zL zd))))))),?_⟩
  refine⟨le0,fun so hso=>?_⟩
  have nso:=sa.out hso
  have gso:=sa.le.none hso
  have sa0:=sa.new (o:=.lst []) hso
  refine⟨_,rfl,_,rfl,by rw[e62];omega,by rw[e62];omega,?_⟩
  have en:((n:Int)).toNat=n:=xn n
  refine jd (fun i σ H1=>Ex5 fun(v6 v7 v8 v9:Option V) (fnd:List Ev)=>An6 (σ=[some (.ref sp),some (.ref jp),some (.int (p:Int)),some (.int (own:Int)),some (.int (n:Int)),some (.ref so),v6,v7,v8,v9]) (StA K G H1 sp st lk eo la gi J.fs.length (qy J (es++fnd)) (z7 (es++fnd):Nat) (es++fnd) ls gs w) (H1 so=some (.lst (zv (fnd.map Ev.f)))) ((∀e∈fnd,e.w = "missed" /\ e.f<J.fs.length)) (fnd.length=i) (∀r,TryR J pa p own bs es (n-i) fnd r->TryR J pa p own bs es n [] r)) ⟨_,_,_,_,[],rfl,by rw[qk];exact sa0,zb,(fun e he=>nomatch he),rfl,fun r h=>h⟩ ?_ ?_
  ·rintro i σ H1 hi ⟨v6,v7,v8,v9,fnd,rfl,sa1,hso1,fe,fl1,tr⟩
   rw[en] at hi
   have rj1:=rj.same sa1.le
   obtain⟨gg,fs,ps,as,fv,px,qj,_,qf,rf,qps,rpp,_⟩:=xx rj1
   obtain⟨pv0,epv,rpv⟩:=vJ rpp epa
   obtain⟨pad,pac,rfl,qpa,_⟩:=xS rpv
   have lfv:=rf.len
   rw[zp] at lfv
   refine⟨_,rfl,jp,_,_,_,rfl,rfl,qj,rfl,fs,_,rfl,.inr qf,_,rfl,(by rw[e62];omega),(by rw[e62];omega),yP (fun j zs H2=>zs=zv (atK J.fs pa.k j)/\Same H1 H2) ⟨rfl,Same.refl _⟩ ?_ ?_⟩
   ·rintro j zs H2 hj ⟨rfl,s2⟩
    have hj':j<J.fs.length:=by rw[<- lfv];simpa using hj
    have i0:(0:Int)+(j:Int)=(j:Int):=Xm _
    rw[i0]
    have ef:J.fs[j]? =some J.fs[j]:=qX hj'
    generalize J.fs[j]=fe1 at ef
    obtain⟨fv0,efv,rfv⟩:=vJ (rf.same s2) ef
    obtain⟨fa,fc,rfl,qfa,_⟩:=vp rfv
    have zc:=zcJ J.fs pa.k j
    refine⟨rfl,_,rfl,jp,_,_,_,rfl,rfl,s2.sqT qj,rfl,_,rfl,fs,_,_,_,rfl,rfl,s2.sqT qf,zT efv,fa,_,_,_,rfl,rfl,qfa,rfl,_,rfl,jp,_,_,_,rfl,rfl,s2.sqT qj,rfl,_,rfl,ps,_,_,_,rfl,rfl,s2.sqT qps,zT epv,pad,_,_,_,rfl,rfl,s2.sqT qpa,rfl,rfl,_,rfl,?_⟩
    by_cases e:fe1.k=pa.k
    ·refine ifT (by show decide (V.str fe1.k=V.str pa.k)=true;rw[e];exact qv rfl) ⟨_,rfl,by rw[zI];omega,?_,s2⟩
     rw[zd1 ef e,xw]
    ·refine ifF (jS fun z=>e (V.str.inj z)) ⟨?_,s2⟩
     rw[zd2 ef e]
   rintro zs H2 ⟨e1,s2⟩
   rw[xn,lfv] at e1
   subst e1
   have zc:=zcJ J.fs pa.k J.fs.length
   refine⟨by rw[zI];omega,fun kin hkin=>?_⟩
   have s3:=s2.trans (ze (o:=.lst (zv (atK J.fs pa.k J.fs.length))) hkin)
   have hk3:=zb (H:=H2) (a:=kin) (o:=.lst (zv (atK J.fs pa.k J.fs.length)))
   generalize upd H2 kin (.lst (zv (atK J.fs pa.k J.fs.length)))=H3 at s3 hk3 ⊢
   refine⟨_,rfl,le1,fun l1 hl1=>⟨_,rfl,l1,kin,_,_,rfl,rfl,zb,(ze hl1) _ _ hk3,by rw[zI];show 1+_<=_;omega,fun l2 hl2=>⟨l2,rfl,⟨_,SqL.of zb⟩,?_⟩⟩⟩
   have s4:=(s3.trans (ze (o:=.lst [.int (own:Int)]) hl1)).trans (ze (o:=.lst ([.int (own:Int)]++zv (atK J.fs pa.k J.fs.length))) hl2)
   have h24:upd (upd H3 l1 (.lst [.int (own:Int)])) l2 (.lst ([.int (own:Int)]++zv (atK J.fs pa.k J.fs.length))) l2=some (.lst (zv (own::atK J.fs pa.k J.fs.length))):=zb
   generalize upd (upd H3 l1 (.lst [.int (own:Int)])) l2 (.lst ([.int (own:Int)]++zv (atK J.fs pa.k J.fs.length)))=H4 at s4 h24 ⊢
   have sa4:=sa1.same s4
   refine j4 (K:=K) (a:=l2) (xs:=zv (own::atK J.fs pa.k J.fs.length)) (fun j zs H5=>An2 (zs=zv (((own::atK J.fs pa.k J.fs.length).take j).filter fun f=>decide (0<qy J (es++fnd) f))) (Same H4 H5)) ⟨rfl,Same.refl _⟩ (fun j zs H5 ⟨_,s5⟩=>SqL.of (s5 _ _ h24)) ?_ ?_
   ·rintro j x zs H5 hx ⟨rfl,s5⟩
    unfold zv at hx
    rw[qJ] at hx
    obtain⟨q,eq,rfl⟩:=qw.mp hx
    have jl:=(zQ.mp eq).1
    have ql:q<J.fs.length:=by
     rcases zS.mp (qG eq) with e | e
     ·rw[e];obtain⟨fe1,e1,_⟩:=Z3.mp ho;exact(zQ.mp e1).1
     ·obtain⟨fe1,e1,_⟩:=Z3.mp e;exact(zQ.mp e1).1
    have sa5:=sa4.same s5
    have eft:=wo (fun f=>decide (0<qy J (es++fnd) f)) eq
    refine⟨rfl,_,rfl,sp,_,rfl,sa5.dS,_,rfl,st,_,_,_,rfl,rfl,SqL.of sa5.ht,zT (Vh ql),_,_,rfl,rfl,_,rfl,?_⟩
    rw[qU] at jl
    cases e:decide (0<qy J (es++fnd) q) with
    | true=>
     refine ifT rfl ⟨_,rfl,?_,?_,s5⟩
     ·rw[zI]
      exact XB (xr _ _) (by rw[qT];omega)
     ·rw[eft,zx e,xw]
    | false=>
     refine ifF rfl ⟨?_,s5⟩
     rw[eft,zq (by rw[e];exact qm),qk]
   rintro zs H5 ⟨e1,s5⟩
   rw[zI,jh] at e1
   change zs=zv (wW J pa own (es++fnd)) at e1
   subst e1
   have fll:(wW J pa own (es++fnd)).length<=61:=jj (xr _ _) (by rw[qU];omega)
   refine⟨by rw[zI];omega,fun fp hfp=>?_⟩
   have s6:=s4.trans (s5.trans (ze (o:=.lst (zv (wW J pa own (es++fnd)))) hfp))
   have hf6:=zb (H:=H5) (a:=fp) (o:=.lst (zv (wW J pa own (es++fnd))))
   generalize upd H5 fp (.lst (zv (wW J pa own (es++fnd))))=H6 at s6 hf6
   refine⟨_,rfl,le0,fun e0 he0=>⟨fp,e0,_,rfl,rfl,SqL.of ((ze he0) _ _ hf6),SqL.of zb,_,rfl,?_⟩⟩
   have s7:=s6.trans (ze (o:=.lst []) he0)
   have hf7:=(ze (o:=.lst []) he0) _ _ hf6
   generalize upd H6 e0 (.lst [])=H7 at s7 hf7 ⊢
   have sa7:=sa1.same s7
   have hso7:=s7 _ _ hso1
   have nfs:fp≠so:=fun z=>by rw[z,(s4.trans s5) _ _ hso1] at hfp;cases hfp
   have nfx:=(sa1.same (s4.trans s5)).out hfp
   clear s2 s3 s4 s5 s6 hf6 he0 hfp h24 hk3 hl1 hl2 hkin
   cases efn:wW J pa own (es++fnd) with
   | nil=>
    refine ifT rfl ⟨_,rfl,le2,fun T hT=>?_⟩
    have sa8:=sa7.new (o:=.tup [.ref so,.str "none"]) hT
    refine k T so fnd "none" _ sa8 (.none (tr _ ?_) fun e he=>(fe e he).1) (fun e he=>⟨by rw[(fe e he).1];decide,(fe e he).2⟩) (by omega) zb gso nso (sa7.out hT) ((ze hT) _ _ hso7)
    rw[show n-i=(n-i-1)+1 by omega]
    exact .none _ _ (zcs efn)
   | cons q r=>
    rw[efn] at hf7
    obtain⟨nf,ql,qp⟩:=zaU ho efn
    refine ifF rfl ?_
    have at0:atI (zv (q::r)) 0=some (.int (q:Int)):=zT (j:=0) rfl
    have fml:(fnd.map Ev.f).length<=10:=by rw[zp];omega
    refine⟨_,rfl,.inl ⟨rfl,_,SqL.of hso7⟩,_,rfl,fp,_,_,_,rfl,rfl,SqL.of hf7,at0,so,_,_,rfl,rfl,hso7,by rw[zI];omega,?_⟩
    have sa8:=sa7.put (o:=.lst (zv (fnd.map Ev.f)++[.int (q:Int)])) nso gso ⟨_,hso7⟩
    have hf8:upd H7 so (.lst (zv (fnd.map Ev.f)++[.int (q:Int)])) fp=some (.lst (zv (q::r))):=by rw[zi nfs];exact hf7
    have hs8:=zb (H:=H7) (a:=so) (o:=.lst (zv (fnd.map Ev.f)++[.int (q:Int)]))
    generalize upd H7 so (.lst (zv (fnd.map Ev.f)++[.int (q:Int)]))=H8 at sa8 hf8 hs8 ⊢
    refine⟨_,rfl,sp,_,rfl,sa8.dS,_,rfl,fp,_,_,_,rfl,rfl,SqL.of hf8,at0,st,_,_,_,rfl,rfl,SqL.of sa8.ht,zT (Vh ql),_,_,rfl,rfl,_,rfl,sp,_,rfl,sa8.dS,_,rfl,fp,_,_,_,rfl,rfl,SqL.of hf8,at0,st,_,_,q,rfl,rfl,sa8.ht,by rw[Qe];exact xE ql,?_⟩
    rw[zbK ql]
    have nn:=sa8.ne
    have sa9:=sa8.stock (sk':=upF (qy J (es++fnd)) q (qy J (es++fnd) q-1))
    have hf9:upd H8 st (.lst (vf J.fs.length (upF (qy J (es++fnd)) q (qy J (es++fnd) q-1)))) fp=some (.lst (zv (q::r))):=by rw[zi fun z=>nfx (by rw[z];simp)];exact hf8
    have hs9:upd H8 st (.lst (vf J.fs.length (upF (qy J (es++fnd)) q (qy J (es++fnd) q-1)))) so=some (.lst (zv (fnd.map Ev.f)++[.int (q:Int)])):=by rw[zi fun z=>nso (by rw[z];simp)];exact hs8
    generalize upd H8 st (.lst (vf J.fs.length (upF (qy J (es++fnd)) q (qy J (es++fnd) q-1))))=H9 at sa9 hf9 hs9 ⊢
    refine⟨_,rfl,sp,_,rfl,sa9.dT,_,_,rfl,rfl,_,rfl,sp,_,rfl,sa9.pT,?_⟩
    have sa10:=sa9.nums (t':=(z7 (es++fnd):Nat)+1) (w':=w)
    have hf10:upd H9 sp (.dK (stK st lk eo la gi ((z7 (es++fnd):Nat)+1) w)) fp=some (.lst (zv (q::r))):=by rw[zi fun z=>nfx (by rw[z];simp)];exact hf9
    have hs10:upd H9 sp (.dK (stK st lk eo la gi ((z7 (es++fnd):Nat)+1) w)) so=some (.lst (zv (fnd.map Ev.f)++[.int (q:Int)])):=by rw[zi fun z=>nso (by rw[z];simp)];exact hs9
    generalize upd H9 sp (.dK (stK st lk eo la gi ((z7 (es++fnd):Nat)+1) w))=H10 at sa10 hf10 hs10 ⊢
    have hl10:=sa10.le.seq hlk
    refine⟨fun σ' H'=>An2 (σ'=[some (.ref sp),some (.ref jp),some (.int (p:Int)),some (.int (own:Int)),some (.int (n:Int)),some (.ref so),some (.int (0+(i:Int))),some (.ref kin),some (.ref fp),some (.bl (Ju bs (es++fnd)))]) (H'=H10),?_,?_⟩
    ·refine⟨_,rfl,sp,_,rfl,sa10.dT,_,rfl,sp,_,rfl,sa10.dL,lk,_,rfl,.inl hl10,_,_,rfl,rfl,_,rfl,?_⟩
     rw[zp]
     have el:Ju bs (es++fnd)=ym bs (z7 (es++fnd)):=yN _ _
     unfold ym at el
     by_cases c:bs.length<=z7 (es++fnd)
     ·refine ifF (jS (by omega)) ⟨?_,rfl⟩
      rw[el,zx c]
      rfl
     ·have eb:bs[z7 (es++fnd)]? =some bs[z7 (es++fnd)]:=qX (by omega)
      have ei:((z7 (es++fnd):Nat):Int)+1-1=((z7 (es++fnd):Nat):Int):=by omega
      refine ifT (qv (by omega)) ⟨_,rfl,sp,_,rfl,sa10.dL,_,rfl,sp,_,rfl,sa10.dT,_,_,rfl,rfl,lk,_,_,.bl bs[z7 (es++fnd)],rfl,rfl,hl10,(by rw[ei];exact zT (by rw[qJ,eb];rfl)),?_,rfl⟩
      rw[el,zq c,W4,eb]
      rfl
    rintro σ' H10' ⟨rfl,e10⟩
    rw[e10]
    clear e10 H10'
    generalize eb:Ju bs (es++fnd)=gd
    obtain⟨xs,hx,rx⟩:=sa10.he
    have xl:=rx.len
    rw[zp,zW] at xl
    refine⟨_,rfl,sp,_,rfl,sa10.dE,.inl ⟨rfl,_,SqL.of hx⟩,le2,fun q2 hq2=>⟨_,rfl,.inr ⟨_,rfl,q2,_,_,.str (wB gd),rfl,rfl,SqL.of zb,zfG gd,_,rfl,_,rfl,fp,_,_,_,rfl,rfl,SqL.of ((ze hq2) _ _ hf10),at0,le3,fun T hT=>⟨eo,xs,_,rfl,rfl,(ze hT) _ _ ((ze hq2) _ _ hx),by omega,?_⟩⟩⟩⟩
    have sa11:=(sa10.new (o:=.lst [.str "missed",.str "picked"]) hq2).new (o:=.tup [.str (wB gd),.int (p:Int),.int (q:Int)]) hT
    have nT:=(sa10.new (o:=.lst [.str "missed",.str "picked"]) hq2).out hT
    have s11:=(ze (o:=.lst [.str "missed",.str "picked"]) hq2).trans (ze (o:=.tup [.str (wB gd),.int (p:Int),.int (q:Int)]) hT)
    have hT11:=zb (H:=upd H10 q2 (.lst [.str "missed",.str "picked"])) (a:=T) (o:=.tup [.str (wB gd),.int (p:Int),.int (q:Int)])
    generalize upd (upd H10 q2 (.lst [.str "missed",.str "picked"])) T (.tup [.str (wB gd),.int (p:Int),.int (q:Int)])=H11 at sa11 s11 hT11 ⊢
    have rv:Rep K (WX [sp,st,eo,la,gi] H11) (evD (evB gd p q)) (.ref T):=by
     rw[zgS]
     exact⟨T,_,rfl,SqT.of (WX.at nT hT11),_,_,rfl,rfl,_,_,rfl,rfl,_,_,rfl,rfl,rfl⟩
    have sa12:=sa11.event (s11 _ _ hx) (rx.same (WX.same s11)) rv
    rw[jm] at sa12
    have el2:upF (qy J (es++fnd)) q (qy J (es++fnd) q-1)=qy J (es++(fnd++[evB gd p q])):=by
     rw[<- jm,zaL J _ (zcv gd p q),zcw]
    have et2:((z7 (es++fnd):Nat):Int)+1=(z7 (es++(fnd++[evB gd p q])):Nat):=by
     rw[<- jm,jn (es++fnd),Zj (zcv gd p q)]
     omega
    rw[el2,et2] at sa12
    have hs12:upd H11 eo (.lst (xs++[.ref T])) so=some (.lst (zv ((fnd++[evB gd p q]).map Ev.f))):=by
     rw[zi fun z=>nso (by rw[z];simp),zZ,List.map_singleton,zcw,xw]
     exact s11 _ _ hs10
    generalize upd H11 eo (.lst (xs++[.ref T]))=H12 at sa12 hs12 ⊢
    have fe2:∀e∈fnd++[evB gd p q],e.w∈z9/\e.f<J.fs.length:=fun e he=>by
     rcases zY.mp he with h | h
     ·exact⟨by rw[(fe e h).1];decide,(fe e h).2⟩
     ·rw[qg.mp h]
      exact⟨zcv gd p q,by rw[zcw];exact ql⟩
    have fl2:(fnd++[evB gd p q]).length=i+1:=by rw[zW,fl1];rfl
    refine⟨_,rfl,_,rfl,?_⟩
    cases gd with
    | true=>
     refine ifT rfl ⟨_,rfl,le2,fun T2 hT2=>?_⟩
     refine k T2 so _ "" _ (sa12.new hT2) (.good (tr _ ?_) ⟨q,fnd,rfl,fun e he=>(fe e he).1⟩) fe2 (by omega) zb gso nso (sa12.out hT2) ((ze hT2) _ _ hs12)
     rw[show n-i=(n-i-1)+1 by omega]
     exact .luck _ _ _ nf eb
    | false=>
     refine ifF rfl ⟨_,_,_,_,_,rfl,sa12,hs12,(fun e he=>⟨?_,(fe2 e he).2⟩),fl2,fun r h=>tr r ?_⟩
     ·rcases zY.mp he with h | h
      ·exact(fe e h).1
      ·rw[qg.mp h];rfl
     rw[show n-i=(n-(i+1))+1 by omega]
     exact .miss _ _ _ _ nf eb h
  ·rintro σ H1 ⟨v6,v7,v8,v9,fnd,rfl,sa1,hso1,fe,fl1,tr⟩
   rw[en] at tr fl1
   refine⟨_,rfl,le2,fun T hT=>?_⟩
   have sa8:=sa1.new (o:=.tup [.ref so,.str "failed"]) hT
   refine k T so fnd "failed" _ sa8 (.failed (tr _ ?_) fun e he=>(fe e he).1) (fun e he=>⟨by rw[(fe e he).1];decide,(fe e he).2⟩) (by omega) zb gso nso (sa1.out hT) ((ze hT) _ _ hso1)
   rw[wx]
   exact .fin _
end
theorem xz{ws:List Str}{l:List Ev}(h:∀e∈l,e.w∉ws):zF ws l=[]:=WV.mpr fun e he=>by rw[jT];exact h e he
theorem VI{ws:List Str}{l:List Ev}(h:∀e∈l,e.w∈ws):zF ws l=l:=List.filter_eq_self.mpr fun e he=>qv (h e he)
theorem xC{ws:List Str}{e:Ev}(h:e.w∈ws):zF ws [e]=[e]:=VI fun x hx=>by rw[qg.mp hx];exact h
theorem jr{ws:List Str}{e:Ev}(h:e.w∉ws):zF ws [e]=[]:=xz fun x hx=>by rw[qg.mp hx];exact h
theorem vj{w:Str}(h:w∈z9):w∉zA/\w∉(["laid"]:List Str):=by
 rcases zS.mp h with e | h
 ·rw[e];decide
 ·rw[qg.mp h];decide
theorem j3(a b:List Ev):pOf (a++b)=pOf a++pOf b:=zZ
def wS(J:Job)(es:List Ev):List (Int×Int):=([(J.gx,J.gy)]++(zF z9 es).map fun e=>Xg J e.f)++(zF ["laid"] es).map Ev.xy
def nI(l:List Nat):List Int:=l.map fun k:Nat=>(k:Int)
theorem wn(j:Int)(is:List Int):inV (.int j) (is.map V.int)=decide (j∈is):=by
 rw[xP,jT]
 unfold inV
 rw[vO]
 constructor
 ·rintro⟨y,hy,e⟩
  obtain⟨k,hk,rfl⟩:=qo.mp hy
  have:(k==j)=true:=e
  rw[<- jZ.mp this]
  exact hk
 ·intro h
  exact⟨.int j,qo.mpr ⟨j,h,rfl⟩,(show(j==j)=true from beq_self_eq_true _)⟩
theorem Wy(j:Int)(l:List Nat):inV (.int j) (zv l)=decide (j∈nI l):=by rw[Qi];exact wn j (nI l)
def rkO(ord:List Nat)(i:Int):Nat:=ord.idxOf i.toNat
theorem zbL{J:Job}{ord:List Nat}(jo:JobOk J ord)(i:Int):rkO ord i<=60:=by
 have h:rkO ord i<=ord.length:=List.idxOf_le_length
 have:=jo.op.length_eq
 rw[vd] at this
 have:=jo.pl
 omega
theorem Zs{ord:List Nat}(nd:ord.Nodup){k x:Nat}(e:ord[k]? =some x):ord.idxOf x=k:=by
 obtain⟨h1,h2⟩:=zQ.mp e
 have h3:=zcR (qG e)
 have h4:ord[ord.idxOf x]'h3=x:=List.getElem_idxOf h3
 exact(QH nd).mp (h4.trans h2.symm)
theorem JZ{J:Job}{ord:List Nat}(jo:JobOk J ord):∀q∈asI J,rkO ord q.1<rkO ord q.2:=fun q hq=>by
 obtain⟨p,hp,rfl⟩:=qo.mp hq
 obtain⟨k,l,hkl,e1,e2⟩:=jo.bo p hp
 have nd:=jo.op.nodup_iff.mpr Zz
 show ord.idxOf ((p.1:Int)).toNat<ord.idxOf ((p.2:Int)).toNat
 rw[xn,xn,Zs nd e1,Zs nd e2]
 exact hkl
theorem yO{J:Job}{ord:List Nat}(jo:JobOk J ord){p:Nat}{es:List Ev}{ms:List Int}(am:∀j,j∈ms↔∃k,1<=k/\Wk (asI J) k j (p:Nat)):(ms.any fun j=>decide (j∈nI (pOf (zF zA es))))=true↔Q5 J p es:=by
 rw[vO]
 constructor
 ·rintro⟨j,hj,hd⟩
  obtain⟨n,hn,e⟩:=qo.mp (jA hd)
  obtain⟨x,hx,rfl⟩:=qo.mp hn
  obtain⟨k,k1,w⟩:=(am j).mp hj
  rw[<- e] at w
  refine⟨x,hx,fun z=>?_,k,w⟩
  rw[z] at w
  have:=w.rank (JZ jo)
  omega
 ·rintro⟨x,hx,ne,k,w⟩
  cases k with
  | zero=>exact absurd w ne
  | succ k=>exact⟨(x.p:Int),(am _).mpr ⟨k+1,by omega,w⟩,qv (qo.mpr ⟨x.p,qo.mpr ⟨x,hx,rfl⟩,rfl⟩)⟩
def Zt(pk:List Ev)(p:Nat):Bool:=(zF ["picked"] pk).any fun e=>((e.p:Int)==(p:Int))
theorem zfD(pk:List Ev)(p:Nat):decide (p∈pOf (zF ["picked"] pk))=Zt pk p:=by
 rw[xP,jT]
 unfold Zt pOf
 rw[vO,qo]
 constructor
 ·rintro⟨e,h,rfl⟩
  exact⟨e,h,beq_self_eq_true _⟩
 ·rintro⟨e,h,h2⟩
  have:(e.p:Int)=p:=jZ.mp h2
  exact⟨e,h,by omega⟩
theorem Ve{α:Type}{C:List α->Prop}(h0:C [])(hs:∀l a,C l->C (l++[a])):∀l,C l:=fun l=>by
 have:∀r:List α,C r.reverse:=fun r=>by
  induction r with
  | nil=>exact h0
  | cons a r ih=>rw[XA];exact hs _ _ ih
 have h:=this l.reverse
 rwa[List.reverse_reverse] at h
theorem Wu{J:Job}{es pk:List Ev}:∀(lys:List Nat) {r:List Ev},LysR J es pk (lys.filter (Zt pk)) r->LysR J es pk lys r:=by
 refine Ve (fun h=>h) fun l a ih r h=>?_
 rw[vP] at h
 cases e:Zt pk a with
 | false=>
  rw[QJ (by rw[e];exact qm),QN,qk] at h
  exact .skip _ _ _ (ih h) e
 | true=>
  rw[QK e,QN] at h
  generalize hz:l.filter (Zt pk)++[a]=z at h
  cases h with
  | nil h=>exact absurd hz (by simp)
  | skip lys _ p h g=>
   obtain⟨rfl,rfl⟩:=xF hz
   rw[show Zt pk a=false from g] at e
   cases e
  | lay lys fnd p pa ev h g ep l2=>
   obtain⟨rfl,rfl⟩:=xF hz
   exact .lay _ _ _ _ _ (ih h) g ep l2
section
variable{P:Program}{w:World}{K:PySem.W.Frag}{mg:Str->Option Value}{base:Heap}
theorem zeX:zK ["_law_one", "_law_other"] ["_law_one", "_law_other"] (zu (topL 33)):=⟨rfl,rfl,rfl,by decide +kernel,rfl,by decide +kernel,by decide +kernel⟩
theorem zdw{f:Addr}{fd:FuncData}(F:Fun K "_law_way" "_law_way" (topL 33) f fd)(B:Blt mg):FnOk P w K mg base CX0 1 f fd ["_law_one", "_law_other"] (zed K):=by
 refine F.ok zeX (fun vs H Q E h=>?_) (fun cdv A outer s H vs Q E hr h=>?_)
 ·obtain⟨u,v,p,q,rfl,_⟩:=h
  rfl
 ·obtain⟨u,v,p,q,rfl,hu',hv',k⟩:=h
  obtain⟨a,rfl,ha⟩:=YL hu'
  obtain⟨b,rfl,hb⟩:=YL hv'
  refine⟨_,(zm (zH (zo (JH rfl) rfl B.max VT (za (zo yX rfl B.abs yZ (za (zB xN (zr zM (pv 0) zf (fun _ _=>rfl)) (zr zM (pv 1) zf (fun _ _=>rfl))) zd)) (za (zo yX rfl B.abs yZ (za (zB xN (zr zM (pv 0) zf (fun _ _=>rfl)) (zr zM (pv 1) zf (fun _ _=>rfl))) zd)) zd))))),?_⟩
  refine⟨_,rfl,a,_,_,_,rfl,rfl,ha,rfl,_,rfl,b,_,_,_,rfl,rfl,hb,rfl,_,_,rfl,rfl,_,rfl,_,rfl,a,_,_,_,rfl,rfl,ha,rfl,_,rfl,b,_,_,_,rfl,rfl,hb,rfl,_,_,rfl,rfl,_,rfl,_,_,rfl,k⟩
theorem zbh{J:Job}{pa:xo}{p own n:Nat}{bs:List Bool}{es fn:List Ev}{wd:Str}(h:(Q5 J p es/\wd = "behind" /\ fn=[])\/(¬Q5 J p es/\JS J pa p own bs es n fn wd)) :
  (wd = "" /\ PickR J pa p own bs n es fn/\pOf (zF ["picked"] fn)=[p])\/(wd ≠ "" /\ ∃e:Ev,evD e=.tup [.str wd,.int (p:Int)]/\e.p=p/\e.w∈zA/\PickR J pa p own bs n es (fn++[e])/\zF ["picked"] fn=[]):=by
 have np:∀{l:List Ev},(∀e∈l,e.w = "missed")->zF ["picked"] l=[]:=fun h=>xz fun e he=>by rw[h e he];decide
 rcases h with ⟨h1,rfl,rfl⟩ | ⟨h1,h2⟩
 ·exact .inr ⟨by decide,.behind p,rfl,rfl,(show("behind" : Str)∈zA by decide),.inl ⟨h1,rfl⟩,rfl⟩
 ·cases h2 with
  | good h g=>
   obtain⟨q,r,rfl,hm⟩:=g
   refine .inl ⟨rfl,.inr ⟨h1,h⟩,?_⟩
   rw[zt,np hm,xC (show("picked" : Str)∈(["picked"]:List Str) by decide)]
   rfl
  | none h g=>exact .inr ⟨by decide,.none p,rfl,rfl,(show("none" : Str)∈zA by decide),.inr ⟨h1,h⟩,np g⟩
  | failed h g=>exact .inr ⟨by decide,.failed p,rfl,rfl,(show("failed" : Str)∈zA by decide),.inr ⟨h1,h⟩,np g⟩
theorem wM(ws:List Str)(l:List Ev):(zF ws l).length<=l.length:=xr _ _
theorem JY(J:Job)(l:List Ev):(wS J l).length<=1+2*l.length:=by
 unfold wS
 have h1:=wM z9 l
 have h2:=wM ["laid"] l
 rw[zW,zW,zp,zp]
 show 1+_+_<=_
 omega
theorem zbI{J:Job}{a b:List Ev}(ha:zF ["laid"] a=[])(hb:∀e∈b,e.w∈z9):wS J (a++b)=wS J a++b.map fun e=>Xg J e.f:=by
 unfold wS
 rw[zt,zt,ha,VI hb,xz fun e he=>(vj (hb e he)).2,zZ]
 simp
theorem Jp{J:Job}{a:List Ev}{e:Ev}(h:e.w∈zA):wS J (a++[e])=wS J a:=by
 unfold wS
 have n1:e.w∉z9:=fun z=>(vj z).1 h
 have n2:e.w∉(["laid"]:List Str):=fun z=>by rw[qg.mp z] at h;revert h;decide
 rw[zt,zt,jr n1,jr n2,qk,qk]
theorem zbJ{J:Job}{a:List Ev}{p:Nat}{k:Str}{x y:Int}:wS J (a++[.laid p k x y])=wS J a++[(x,y)]:=by
 unfold wS
 rw[zt,zt,jr (e:=.laid p k x y) (show("laid" : Str)∉z9 by decide),xC (e:=.laid p k x y) (show("laid" : Str)∈(["laid"]:List Str) by decide),qk,zZ,jm]
 simp[Ev.xy]
theorem JobOk.jin{J:Job}{ord:List Nat}(jo:JobOk J ord):JIn J:=⟨jo.gate,fun f hf=>(jo.fa f hf).2.1,fun p hp=>(jo.pa p hp).2.1⟩
def StB(K:PySem.W.Frag)(G H:Hp)(sp st lk eo la gi:Addr)(J:Job)(es:List Ev)(w:Int):Prop:=StA K G H sp st lk eo la gi J.fs.length (qy J es) (z7 es:Nat) es (pOf (zF ["laid"] es)) (pOf (zF zA es)) w
theorem Jw(J:Job)(es:List Ev){e:Ev}(h:e.w∉z9):qy J (es++[e])=qy J es:=by
 funext k
 unfold qy Zg
 rw[zt,jr h,qk]
theorem Z8(es:List Ev){e:Ev}(h:e.w∉z9):z7 (es++[e])=z7 es:=by
 unfold z7
 rw[zt,jr h,qk]
theorem wK{w:Str}(h:w∈zA):w∉z9/\w∉(["laid"]:List Str)/\w∉(["picked"]:List Str):=by
 unfold zA at h
 simp only[zS,xL,or_false] at h
 rcases h with rfl | rfl | rfl | rfl<;>decide
theorem StA.gave{G H:Hp}{sp st lk eo la gi:Addr}{J:Job}{es:List Ev}{e:Ev}{p:Nat}{w:Int}(h:StA K G H sp st lk eo la gi J.fs.length (qy J es) (z7 es:Nat) (es++[e]) (pOf (zF ["laid"] es)) (pOf (zF zA es)++[p]) w)(hp:e.p=p)(he:e.w∈zA):StB K G H sp st lk eo la gi J (es++[e]) w:=by
 subst hp
 obtain⟨n1,n2,_⟩:=wK he
 unfold StB
 rw[Jw J es n1,Z8 es n1,zt,jr n2,qk,zt,xC he,j3]
 exact h
theorem StA.laid{G H:Hp}{sp st lk eo la gi:Addr}{J:Job}{es:List Ev}{e:Ev}{p:Nat}{w:Int}(h:StA K G H sp st lk eo la gi J.fs.length (qy J es) (z7 es:Nat) (es++[e]) (pOf (zF ["laid"] es)++[p]) (pOf (zF zA es)) w)(hp:e.p=p)(he:e.w = "laid"):StB K G H sp st lk eo la gi J (es++[e]) w:=by
 subst hp
 have n1:e.w∉z9:=by rw[he];decide
 have n2:e.w∉zA:=by rw[he];decide
 have n3:e.w∈(["laid"]:List Str):=by rw[he];decide
 unfold StB
 rw[Jw J es n1,Z8 es n1,zt,xC n3,j3,zt,jr n2,qk]
 exact h
structure OvG(K:PySem.W.Frag)(G:Hp)(ov:Addr)(J:Job)(mss:List (List Int))(ozs:List V):Prop where
 ho:SqL K G ov ozs
 ol:mss.length=J.ps.length
 rw:∀(p:Nat) (ms:List Int),mss[p]? =some ms->∃a,ozs[p]? =some (.ref a)/\SqL K G a (ms.map V.int)
 am:∀(p:Nat) (ms:List Int),mss[p]? =some ms->ms.length<=60/\∀j,j∈ms↔∃k,1<=k/\Wk (asI J) k j (p:Nat)
theorem OvG.at{G:Hp}{ov:Addr}{J:Job}{mss:List (List Int)}{ozs:List V}(o:OvG K G ov J mss ozs){p:Nat}(h:p<J.ps.length):∃(a:Addr) (ms:List Int),ozs[p]? =some (.ref a)/\SqL K G a (ms.map V.int)/\ms.length<=60/\∀j,j∈ms↔∃k,1<=k/\Wk (asI J) k j (p:Nat):=by
 have hl:p<mss.length:=by rw[o.ol];exact h
 have e:mss[p]? =some mss[p]:=qX hl
 obtain⟨a,h1,h2⟩:=o.rw p _ e
 obtain⟨h3,h4⟩:=o.am p _ e
 exact⟨a,_,h1,h2,h3,h4⟩
theorem StA.onto{G H:Hp}{sp st lk eo la gi:Addr}{n:Nat}{sk:Nat->Int}{t:Int}{es:List Ev}{ls gs:List Nat}{w:Int}(h:StA K G H sp st lk eo la gi n sk t es ls gs w):StA K (WX [sp,st,eo,la,gi] H) H sp st lk eo la gi n sk t es ls gs w:=⟨h.hs,h.ht,h.he,h.ha,h.hi,h.nd,Same.refl _⟩
theorem StA.over{G G' H:Hp}{sp st lk eo la gi:Addr}{n:Nat}{sk:Nat->Int}{t:Int}{es:List Ev}{ls gs:List Nat}{w:Int}(h:StA K G' H sp st lk eo la gi n sk t es ls gs w)(g:Same G G'):StA K G H sp st lk eo la gi n sk t es ls gs w:=⟨h.hs,h.ht,h.he,h.ha,h.hi,h.nd,g.trans h.fr⟩
inductive Yk(K:PySem.W.Frag)(vs:List V)(H:Hp)(Q:VK):Prop
 | mk (sp st lk eo la gi jp tp ov:Addr) (G:Hp) (J:Job) (ord:List Nat) (pks:List (Nat×Nat)) (lys:List Nat) (n:Nat) (bs:List Bool) (es:List Ev) (w:Int) (mss:List (List Int)) (ozs:List V) (_:vs=[.ref sp,.ref jp,.ref tp,.int (n:Int),.ref ov]) (_:StB K G H sp st lk eo la gi J es w) (_:Rep K G (xR J) (.ref jp)) (_:JobOk J ord) (_:SqL K G lk (bs.map V.bl)) (_:bs.length<=400) (_:Rep K G (zhj pks lys) (.ref tp)) (_:(∀q∈pks,Q4 J q)) (_:(∀q∈lys,q<J.ps.length)) (_:pks.length<=4) (_:lys.length<=4) (_:n<=10) (_:es.length<=3000) (_:OvG K G ov J mss ozs) (_:∀(r:List Ev) H',StB K G H' sp st lk eo la gi J (es++r) (w+(vh (Zl J r)).sum)->TripR J bs n es pks lys r->r.length<=48->Q .non H'):Yk K vs H Q
def zbl(K:PySem.W.Frag):Sp:=fun vs H Q _=>Yk K vs H Q
theorem zem:zK ["_law_state", "_law_job_here", "_law_trip_here", "_law_tries", "_law_over_here", "_law_places_here", "_law_got", "_law_part", "_law_feeder", "_law_some", "_law_word"] ["_law_state", "_law_job_here", "_law_trip_here", "_law_tries", "_law_over_here"] (zu (topL 37)):=⟨rfl,rfl,rfl,by decide +kernel,rfl,by decide +kernel,by decide +kernel⟩
theorem zfj{f:Addr}{fd:FuncData}(F:Fun K "_law_trip_run" "_law_trip_run" (topL 37) f fd)(B:Blt mg)(D_tried:Dfn P w K mg base "_law_tried" 1 ["_law_state", "_law_job_here", "_law_part", "_law_feeder", "_law_tries"] (zee K))(D_way:Dfn P w K mg base "_law_way" 1 ["_law_one", "_law_other"] (zed K)):FnOk P w K mg base CX0 2 f fd ["_law_state", "_law_job_here", "_law_trip_here", "_law_tries", "_law_over_here"] (zbl K):=by
 have nd:=zem.nd
 refine F.ok zem (fun vs H Q E h=>?_) (fun cdv A outer s H vs Q E hr h=>?_)
 ·obtain⟨sp,st,lk,eo,la,gi,jp,tp,ov,G,J,ord,pks,lys,n,bs,es,w,mss,ozs,rfl,_⟩:=h
  rfl
 ·obtain⟨sp,st,lk,eo,la,gi,jp,tp,ov,G,J,ord,pks,lys,n,bs,es,w,mss,ozs,rfl,sb,rj,jo,hlk,bl,rt,pin,lin,p4,l4,n10,el,og,k⟩:=h
  have hbig:1000000<sizeLine:=by rw[sizeLine_eq];decide
  have hu:=hr.units0
  have hu1:=Qp hr
  have fl40:=jo.fl
  have pl60:=jo.pl
  obtain⟨t0,txs,e0,qt,x0,r0,rfl,⟨pt,pxs,rfl,qp,rpk⟩,x1,r1,rfl,⟨lt,lxs,rfl,ql,rly⟩,e1⟩:=rt
  cases e0
  cases(show r1=[] from e1)
  have pxl:=rpk.len
  rw[zp] at pxl
  have lxl:=rly.len
  rw[zp] at lxl
  obtain⟨gg,fs,ps,as,fv,px,qj,rg,qf,rf,qps,rpp,_⟩:=xx rj
  have sG:=sb.le
  refine⟨_,(zg (j7 (zX (za (zN (za (zr zM (pv 1) zf (fun _ _=>rfl)) zd)) (za (zN zd) zd))) (xi rfl (zR (zy (i:=5) nd rfl (Or.inl rfl)) (zR (zy (i:=6) nd rfl (Or.inr rfl)) jH))))
   (zg (qO jw rfl (vZ (zr zM (pv 2) zf (fun _ _=>rfl))) (xi rfl (zR (zy (i:=7) nd rfl (Or.inl rfl)) (zR (zy (i:=8) nd rfl (Or.inl rfl)) jH)))
   (zg (vY (i:=9) (j:=10) rfl nd rfl rfl (by decide) rfl rfl (za (zN zd) (za zL zd)) (by rfl))
    (zg (xQ (qY (Zm (jV (zo (wP rfl) rfl B.any yY (za (j8 ["_law_state"] [0] rfl rfl (by kernel_rfl) (qN (zr zJ (pv 4) (pv 7) (fun _ _=>rfl))) (fun _ _ _ _=>jF) (fun _ _ _ _=>(qL (j9 (K:=K) rfl) (pv 0) (qD hu1 (pv 1) zL (fun _ _=>rfl)) (by with_unfolding_all rfl)))) zd))))
    (zm (j7 (zk D_tried (hr.mono (by decide)) rfl (pa5 (pv 0) (pv 1) (pv 7) (pv 8) (pv 3))) (xi rfl (zR (zy (i:=9) nd rfl (Or.inl rfl)) (zR (zy (i:=10) nd rfl (Or.inl rfl)) jH)))))
    qK))
    (zg (zU (qZ qW PySem.F.slot_list_extend PySem.F.type_list_extend zaJ (pv 5) (za (j8 ["_law_job_here"] [1] rfl rfl (by kernel_rfl) (qN (pv 9)) (fun _ _ _ _=>jF) (fun _ _ _ _=>(zr (jt (K:=K) rfl) (zr (jt (K:=K) rfl) (zr (jt (K:=K) rfl) (pv 1) zf (fun _ _=>rfl)) (pv 0) (fun _ _=>rfl)) zf (fun _ _=>rfl)))) zd)))
    (zm (qY (zC ja (pv 10) zL (zE _))
    (zm (zU (qZ qW jM jL zV (pv 6) (za (pv 7) zd))))
    (zg (zU (qZ qW jM jL zV (qD hu1 (pv 0) zL (fun _ _=>rfl)) (za (zX (za (pv 10) (za (pv 7) zd))) zd)))
     (zm (zU (qZ qW jM jL zV (qD hu1 (pv 0) zL (fun _ _=>rfl)) (za (pv 7) zd)))))))))))
   (zg (qO jw rfl (qN (j8 ["_law_got"] [6] rfl rfl (by kernel_rfl) (vZ (zr zM (pv 2) zf (fun _ _=>rfl))) (fun _ _ _ _=>(vg (zC (j9 (K:=K) rfl) (pv 0) (pv 1) (by with_unfolding_all rfl)))) (fun _ _ _ _=>(pv 0)))) (zy (i:=7) nd rfl (Or.inl rfl))
   (zm (qY (jV (zo (wP rfl) rfl B.any yY (za (j8 ["_law_state"] [0] rfl rfl (by kernel_rfl) (qN (zr zJ (pv 4) (pv 7) (fun _ _=>rfl))) (fun _ _ _ _=>jF) (fun _ _ _ _=>(qL (j9 (K:=K) rfl) (pv 0) (qD hu1 (pv 1) zL (fun _ _=>rfl)) (by with_unfolding_all rfl)))) zd)))
    (zg (zU (qZ qW jM jL zV (qD hu1 (pv 0) zL (fun _ _=>rfl)) (za (zX (za zL (za (pv 7) zd))) zd)))
     (zm (zU (qZ qW jM jL zV (qD hu1 (pv 0) zL (fun _ _=>rfl)) (za (pv 7) zd)))))
    (zg (zU (qZ qW jM jL zV (qD hu1 (pv 0) zL (fun _ _=>rfl)) (za (zB yM (zX (za zL (za (pv 7) zd))) (zr zM (zr zM (pv 1) zf (fun _ _=>rfl)) (pv 7) (fun _ _=>rfl))) zd)))
     (zg (zU (qZ qW jM jL zV (qD hu1 (pv 0) zL (fun _ _=>rfl)) (za (pv 7) zd)))
     (zm (zU (qZ qW jM jL zV (pv 5) (za (zr zM (zr zM (zr zM (pv 1) zf (fun _ _=>rfl)) (pv 7) (fun _ _=>rfl)) zf (fun _ _=>rfl)) zd)))))))))
   (zg (zU (qZ qW jM jL zV (pv 5) (za (zr zM (pv 1) zf (fun _ _=>rfl)) zd)))
   (zm (J4 hu1 (pv 0) zL (zB qE (qD hu1 (pv 0) zL (fun _ _=>rfl)) (zo (za2 rfl) rfl B.sum boot_sum (za (wa [] [] rfl rfl (by kernel_rfl) (Wi rfl B.zip (za (pv 5) (za (xj ZX (pv 5) (xA zf) x9) zd))) (fun _ _ _ _=>jF) (fun _ _ _ _=>(zk D_way (hr.mono (by decide)) rfl (za (pv 0) (za (pv 1) zd))))) zd))) rfl)))))),?_⟩
  refine⟨_,rfl,jp,_,_,_,rfl,rfl,sG.sqT qj,rfl,le1,fun pl hpl=>⟨le0,fun got hgot=>⟨le2,fun T hT=>⟨T,_,rfl,SqT.of zb,rfl,_,_,rfl,_,_,rfl,rfl,?_⟩⟩⟩⟩
  have sb1:=((sb.new (o:=.lst [.ref gg]) hpl).new (o:=.lst []) hgot).new (o:=.tup [.ref pl,.ref got]) hT
  have npl:=sb.out hpl
  have ngt:=(sb.new (o:=.lst [.ref gg]) hpl).out hgot
  have gpl:=sG.none hpl
  have ggt:=((sb.new (o:=.lst [.ref gg]) hpl)).le.none hgot
  have npg:pl≠got:=fun z=>by rw[<- z,zb] at hgot;cases hgot
  have hpl1:upd (upd (upd H pl (.lst [.ref gg])) got (.lst [])) T (.tup [.ref pl,.ref got]) pl=some (.lst [.ref gg]):=(ze hT) _ _ ((ze hgot) _ _ zb)
  have hgt1:upd (upd (upd H pl (.lst [.ref gg])) got (.lst [])) T (.tup [.ref pl,.ref got]) got=some (.lst []):=(ze hT) _ _ zb
  generalize upd (upd (upd H pl (.lst [.ref gg])) got (.lst [])) T (.tup [.ref pl,.ref got])=H1 at sb1 hpl1 hgt1 ⊢
  refine⟨_,rfl,tp,_,_,_,rfl,rfl,sb1.le.sqT qt,rfl,pt,rfl,⟨_,sb1.le.sqT qp⟩,Y4 (K:=K) (a:=pt) (xs:=pxs) (fun i σ H'=>Ex6 fun(v7 v8 v9 v10:Option V) (fnd:List Ev) (zs:List V)=>An9 (σ=[some (.ref sp),some (.ref jp),some (.ref tp),some (.int (n:Int)),some (.ref ov),some (.ref pl),some (.ref got),v7,v8,v9,v10]) (StB K G H' sp st lk eo la gi J (es++fnd) w) (H' pl=some (.lst zs)) (Reps K G ((wS J fnd).map plD) zs) (H' got=some (.lst (zv (pOf (zF ["picked"] fnd))))) (zF ["laid"] fnd=[]) ((∀e∈zF z9 fnd,e.f<J.fs.length)) (fnd.length<=11*i) (PksR J bs n es (pks.take i) fnd)) ⟨_,_,_,_,[],[.ref gg],rfl,by rw[qk];exact sb1,hpl1,⟨.ref gg,[],rfl,rg,rfl⟩,hgt1,rfl,(fun e he=>nomatch he),zG _,.nil⟩ (fun i σ H' _ ⟨_,_,_,_,_,_,_,s',_,_,_,_,_,_,_⟩=>s'.le.sqT qp) ?_ ?_⟩
  ·rintro i x σ H2 hx ⟨v7,v8,v9,v10,fnd,zs,rfl,sb2,hpl2,rz,hgt2,nl,tf,fl,pr⟩
   have il:=(zQ.mp hx).1
   obtain⟨d,ed,rd⟩:=rpk.get hx
   rw[qJ] at ed
   obtain⟨⟨p,own⟩,epk,rfl⟩:=qw.mp ed
   obtain⟨pa',rfl,qpa⟩:=Zo rd
   obtain⟨pa,fe,epa,efe,ekd⟩:=pin _ (qG epk)
   dsimp only at epa efe qpa
   have hp:p<J.ps.length:=(zQ.mp epa).1
   obtain⟨ra,ms,era,hra,ml,am⟩:=og.at hp
   refine⟨pa',_,rfl,sb2.le.sqT qpa,rfl,_,_,rfl,_,_,rfl,rfl,?_⟩
   refine⟨le0,fun so hso=>⟨_,_,rfl,?_⟩⟩
   have sb3:=sb2.new (o:=.lst []) hso
   have nso:=sb2.out hso
   have gso:=sb2.le.none hso
   have nsp:so≠pl:=fun z=>by rw[z,hpl2] at hso;cases hso
   have nsg:so≠got:=fun z=>by rw[z,hgt2] at hso;cases hso
   have hpl3:=(ze (o:=.lst []) hso) _ _ hpl2
   have hgt3:=(ze (o:=.lst []) hso) _ _ hgt2
   have hso3:=zb (H:=H2) (a:=so) (o:=.lst [])
   generalize upd H2 so (.lst [])=H3 at sb3 hpl3 hgt3 hso3 ⊢
   refine⟨fun σ' H'=>Ex3 fun(so':Addr) (wd:Str) (fn:List Ev)=>An8 (σ'=[some (.ref sp),some (.ref jp),some (.ref tp),some (.int (n:Int)),some (.ref ov),some (.ref pl),some (.ref got),some (.int (p:Int)),some (.int (own:Int)),some (.ref so'),some (.str wd)]) (StA K G H' sp st lk eo la gi J.fs.length (qy J ((es++fnd)++fn)) (z7 ((es++fnd)++fn):Nat) ((es++fnd)++fn) (pOf (zF ["laid"] (es++fnd))) (pOf (zF zA (es++fnd))) w) (H' pl=some (.lst zs)) (H' got=some (.lst (zv (pOf (zF ["picked"] fnd))))) (H' so'=some (.lst (zv (fn.map Ev.f)))) ((∀e∈fn,e.w∈z9/\e.f<J.fs.length)) (fn.length<=n) (((Q5 J p (es++fnd)/\wd = "behind" /\ fn=[])\/(¬Q5 J p (es++fnd)/\JS J pa p own bs (es++fnd) n fn wd))),?_,?_⟩
   ·refine⟨_,rfl,_,rfl,ov,_,_,_,rfl,rfl,sb3.le.seq og.ho,zT era,ra,rfl,⟨_,sb3.le.seq hra⟩,j4 (K:=K) (a:=ra) (xs:=ms.map V.int) (fun l zs' H4=>zs'=((ms.take l).map fun m=>decide (m∈nI (pOf (zF zA (es++fnd))))).map V.bl/\Same H3 H4) ⟨rfl,Same.refl _⟩ (fun l zs' H4 ⟨_,s4⟩=>s4.seq (sb3.le.seq hra)) ?_ ?_⟩
    ·rintro l x zs' H4 hx ⟨rfl,s4⟩
     rw[qJ] at hx
     obtain⟨m,em,rfl⟩:=qw.mp hx
     have ll:=(zQ.mp em).1
     have sb4:=StA.same sb3 s4
     refine⟨rfl,_,rfl,_,rfl,sp,_,rfl,sb4.dG,gi,_,rfl,.inl (SqL.of sb4.hi),rfl,wG _,?_,?_,s4⟩
     ·rw[zp,zp,qT];omega
     ·rw[Wy,qB em,zZ,zZ]
      rfl
    rintro zs' H4 ⟨e1,s4⟩
    rw[zp,jh] at e1
    subst e1
    refine⟨by rw[zp,zp];omega,fun D hD=>⟨D,_,rfl,SqL.of zb,_,rfl,?_⟩⟩
    have ea:((ms.map fun m=>decide (m∈nI (pOf (zF zA (es++fnd))))).any id)=ms.any fun m=>decide (m∈nI (pOf (zF zA (es++fnd)))):=by rw[List.any_map];rfl
    have s5:=s4.trans (ze (o:=.lst ((ms.map fun m=>decide (m∈nI (pOf (zF zA (es++fnd))))).map V.bl)) hD)
    generalize upd H4 D (.lst ((ms.map fun m=>decide (m∈nI (pOf (zF zA (es++fnd))))).map V.bl))=H5 at s5 ⊢
    have sb5:=StA.same sb3 s5
    rw[ea]
    by_cases hL:Q5 J p (es++fnd)
    ·rw[(yO jo am).mpr hL]
     exact ifF rfl ⟨so, "behind",[],rfl,by rw[qk];exact sb5,s5 _ _ hpl3,s5 _ _ hgt3,s5 _ _ hso3,(fun e he=>nomatch he),qu _,.inl ⟨hL,rfl,rfl⟩⟩
    ·have ef:(ms.any fun m=>decide (m∈nI (pOf (zF zA (es++fnd)))))=false:=by
      cases e:ms.any fun m=>decide (m∈nI (pOf (zF zA (es++fnd)))) with
      | true=>exact absurd ((yO jo am).mp e) hL
      | false=>rfl
     rw[ef]
     refine ifT rfl ⟨_,rfl,_,rfl,_,rfl,_,rfl,_,rfl,sp,st,lk,eo,la,gi,jp,_,J,p,own,n,pa,bs,es++fnd,_,_,w,rfl,sb5.onto,rj.same sb5.fr,sb5.fr.seq hlk,epa,Z3.mpr ⟨fe,efe,ekd⟩,n10,by rw[zW];omega,by omega,bl,fun T2 so2 fn wd H6 sa6 te fe6 fn6 hT6 _ _ _ hso6=>?_⟩
     have at6:∀{a:Addr} {u:HO},a∉[sp,st,eo,la,gi]->H5 a=some u->H6 a=some u:=fun ha e=>WX.le _ _ (sa6.fr _ _ (WX.at ha e))
     exact⟨T2,_,rfl,SqT.of hT6,rfl,_,_,rfl,_,_,rfl,rfl,so2,wd,fn,rfl,sa6.over sb5.fr,at6 npl (s5 _ _ hpl3),at6 ngt (s5 _ _ hgt3),hso6,fe6,fn6,.inr ⟨hL,te⟩⟩
   rintro σ' H4 ⟨so',wd,fn,rfl,sa4,hpl4,hgt4,hso4,fnt,fnl,dis⟩
   have zl:=rz.len
   have rpl:=JY J fnd
   rw[zp] at zl
   refine⟨_,rfl,.inl ⟨rfl,_,SqL.of hpl4⟩,_,rfl,so',rfl,⟨_,SqL.of hso4⟩,j4 (K:=K) (a:=so') (xs:=zv (fn.map Ev.f)) (fun l zs' H5=>Reps K G (((fn.take l).map fun e=>Xg J e.f).map plD) zs'/\Same H4 H5) ⟨rfl,Same.refl _⟩ (fun l zs' H5 ⟨_,s5⟩=>SqL.of (s5 _ _ hso4)) ?_ ?_⟩
   ·rintro l x zs' H5 hx ⟨rz',s5⟩
    unfold zv at hx
    rw[qJ,qJ] at hx
    obtain⟨q,eq,rfl⟩:=qw.mp hx
    obtain⟨ev,eev,rfl⟩:=qw.mp eq
    have ll:=(zQ.mp eev).1
    have fl5:=(fnt ev (qG eev)).2
    have ef:J.fs[ev.f]? =some J.fs[ev.f]:=qX fl5
    have sG5:=(StA.same sa4 s5).le
    obtain⟨fv0,efv,rfv⟩:=vJ rf ef
    obtain⟨fa,fc,rfl,qfa,qfc⟩:=vp rfv
    have zl':=rz'.len
    rw[zp,zp,qT] at zl'
    refine⟨rfl,_,rfl,jp,_,_,_,rfl,rfl,sG5.sqT qj,rfl,_,rfl,fs,_,_,_,rfl,rfl,sG5.sqT qf,zT efv,fa,_,_,_,rfl,rfl,sG5.sqT qfa,rfl,by omega,?_,s5⟩
    rw[qB eev,zZ,zZ]
    refine rz'.app ⟨.ref fc,[],rfl,?_,rfl⟩
    have e2:Xg J ev.f=(J.fs[ev.f].x,J.fs[ev.f].y):=by unfold Xg;rw[ef];rfl
    show Rep K G (plD (Xg J ev.f)) _
    rw[e2]
    exact Wh qfc
   rintro zs' H5 ⟨rz',s5⟩
   rw[zI,zp,jh] at rz'
   have zl':=rz'.len
   rw[zp,zp] at zl'
   refine⟨by omega,fun q hq=>⟨pl,q,_,_,rfl,rfl,(ze hq) _ _ (s5 _ _ hpl4),zb,by omega,?_⟩⟩
   have sa6:=((StA.same sa4 s5).new (o:=.lst zs') hq).put (o:=.lst (zs++zs')) npl gpl ⟨_,(ze hq) _ _ (s5 _ _ hpl4)⟩
   have hgt6:upd (upd H5 q (.lst zs')) pl (.lst (zs++zs')) got=some (.lst (zv (pOf (zF ["picked"] fnd)))):=by rw[zi npg.symm];exact(ze hq) _ _ (s5 _ _ hgt4)
   have hpl6:=zb (H:=upd H5 q (.lst zs')) (a:=pl) (o:=.lst (zs++zs'))
   have rz6:Reps K G ((wS J (fnd++fn)).map plD) (zs++zs'):=by
    rw[zbI nl fun e he=>(fnt e he).1,zZ]
    exact rz.app rz'
   generalize upd (upd H5 q (.lst zs')) pl (.lst (zs++zs'))=H6 at sa6 hgt6 hpl6 ⊢
   generalize zs++zs'=zs2 at rz6 hpl6
   have nl2:zF ["laid"] (fnd++fn)=[]:=by rw[zt,nl,xz fun e he=>(vj (fnt e he).1).2];rfl
   have ng2:zF zA ((es++fnd)++fn)=zF zA (es++fnd):=by rw[zt zA (es++fnd),xz fun e he=>(vj (fnt e he).1).1,qk]
   have nl3:zF ["laid"] ((es++fnd)++fn)=zF ["laid"] (es++fnd):=by rw[zt ["laid"] (es++fnd),xz fun e he=>(vj (fnt e he).1).2,qk]
   have tf2:∀e∈zF z9 (fnd++fn),e.f<J.fs.length:=fun e he=>by
    rw[zt] at he
    rcases zY.mp he with h | h
    ·exact tf e h
    ·exact(fnt e (jz.mp h).1).2
   rw[<- ng2,<- nl3] at sa6
   refine⟨_,rfl,rfl,_,rfl,?_⟩
   have eil:i<4:=by omega
   rcases zbh dis with ⟨rfl,pkr,pks1⟩ | ⟨nw,e,ed2,ep2,ew2,pkr,npk⟩
   ·have gl:=wM ["picked"] fnd
    refine ifT (qv rfl) ⟨_,rfl,.inl ⟨rfl,_,SqL.of hgt6⟩,_,rfl,got,_,_,rfl,rfl,hgt6,by rw[zI];unfold pOf;rw[zp];omega,?_⟩
    have sa7:=sa6.put (o:=.lst (zv (pOf (zF ["picked"] fnd))++[.int (p:Int)])) ngt ggt ⟨_,hgt6⟩
    refine⟨_,_,_,_,fnd++fn,zs2,rfl,?_,by rw[zi npg];exact hpl6,rz6,?_,nl2,tf2,by rw[zW];omega,?_⟩
    ·unfold StB
     rw[<- jm]
     exact sa7
    ·rw[zb,zt,j3,pks1,xw]
    ·rw[qB epk]
     exact .snoc _ fnd p own pa fn pr epa pkr
   ·refine ifF (jS fun z=>nw (V.str.inj z)) ?_
    obtain⟨exs,hex,rex⟩:=sa6.he
    have exl:=rex.len
    rw[zp,zW,zW] at exl
    refine⟨_,rfl,sp,_,rfl,sa6.dE,.inl ⟨rfl,_,SqL.of hex⟩,_,rfl,_,rfl,le2,fun T2 hT2=>⟨eo,exs,_,rfl,rfl,(ze hT2) _ _ hex,by omega,?_⟩⟩
    have rv:Rep K (WX [sp,st,eo,la,gi] (upd H6 T2 (.tup [.str wd,.int (p:Int)]))) (evD e) (.ref T2):=by
     rw[ed2]
     exact⟨T2,_,rfl,SqT.of (WX.at (sa6.out hT2) zb),_,_,rfl,rfl,_,_,rfl,rfl,rfl⟩
    have sa8:=(sa6.new (o:=.tup [.str wd,.int (p:Int)]) hT2).event ((ze hT2) _ _ hex) (rex.same (WX.new hT2)) rv
    have neo:∀{a:Addr},a∉[sp,st,eo,la,gi]->a≠eo:=fun h z=>h (by rw[z];simp)
    have ngi:∀{a:Addr},a∉[sp,st,eo,la,gi]->a≠gi:=fun h z=>h (by rw[z];simp)
    have hpl8:upd (upd H6 T2 (.tup [.str wd,.int (p:Int)])) eo (.lst (exs++[.ref T2])) pl=some (.lst zs2):=by rw[zi (neo npl)];exact(ze hT2) _ _ hpl6
    have hgt8:upd (upd H6 T2 (.tup [.str wd,.int (p:Int)])) eo (.lst (exs++[.ref T2])) got=some (.lst (zv (pOf (zF ["picked"] fnd)))):=by rw[zi (neo ngt)];exact(ze hT2) _ _ hgt6
    generalize upd (upd H6 T2 (.tup [.str wd,.int (p:Int)])) eo (.lst (exs++[.ref T2]))=H8 at sa8 hpl8 hgt8 ⊢
    have gl:=wM zA (es++fnd++fn)
    rw[zW,zW] at gl
    refine⟨_,rfl,sp,_,rfl,sa8.dG,.inl ⟨rfl,_,SqL.of sa8.hi⟩,_,rfl,gi,_,_,rfl,rfl,sa8.hi,by rw[zI];unfold pOf;rw[zp];omega,?_⟩
    have sa9:=sa8.giv (p:=p)
    have ea:es++(fnd++(fn++[e]))=es++fnd++fn++[e]:=by simp
    refine⟨_,_,_,_,fnd++(fn++[e]),zs2,rfl,?_,by rw[zi (ngi npl)];exact hpl8,?_,?_,?_,?_,by rw[zW,zW];show _+(_+1)<=_;omega,?_⟩
    ·rw[ea]
     exact sa9.gave ep2 ew2
    ·rw[<- jm,Jp ew2]
     exact rz6
    ·rw[zi (ngi ngt),hgt8,<- jm,zt _ (fnd++fn),zt,npk,jr (wK ew2).2.2,qk,qk]
    ·rw[<- jm,zt,nl2,jr (wK ew2).2.1]
     rfl
    ·intro x hx
     rw[<- jm,zt,jr (wK ew2).1,qk] at hx
     exact tf2 x hx
    ·rw[qB epk]
     exact .snoc _ fnd p own pa _ pr epa pkr
  ·rintro σ H2 ⟨v7,v8,v9,v10,fnd,zs,rfl,sb2,hpl2,rz,hgt2,nl,tf,fl,pr⟩
   rw[pxl,jh] at pr
   rw[pxl] at fl
   refine⟨_,rfl,tp,_,_,_,rfl,rfl,sb2.le.sqT qt,rfl,lt,rfl,⟨_,sb2.le.sqT ql⟩,wj (K:=K) (a:=lt) (xs:=lxs) (fun l zs' H3=>zs'=zv ((lys.take l).filter (Zt fnd))/\Same H2 H3) ⟨rfl,Same.refl _⟩ (fun l zs' H3 ⟨_,s3⟩=>s3.sqT (sb2.le.sqT ql)) ?_ ?_⟩
   ·rintro l x zs' H3 hx ⟨rfl,s3⟩
    obtain⟨d,ed,rd⟩:=rly.get hx
    rw[qJ] at ed
    obtain⟨q,eq,rfl⟩:=qw.mp ed
    cases(show x=.int (q:Int) from rd)
    have ll:=(zQ.mp eq).1
    have eft:=wo (Zt fnd) eq
    refine⟨rfl,_,rfl,_,rfl,got,_,rfl,.inl (SqL.of (s3 _ _ hgt2)),rfl,wG _,_,rfl,?_⟩
    rw[zq qm,zdO,zfD]
    cases e:Zt fnd q with
    | true=>
     refine ifT rfl ⟨_,rfl,?_,?_,s3⟩
     ·rw[zI]
      exact XB (xr _ _) (by rw[qT];omega)
     ·rw[eft,zx e,xw]
    | false=>
     refine ifF rfl ⟨?_,s3⟩
     rw[eft,zq (by rw[e];exact qm),qk]
   rintro zs' H3 ⟨e1,s3⟩
   rw[lxl,jh] at e1
   subst e1
   have fl4:(lys.filter (Zt fnd)).length<=4:=jj (xr _ _) l4
   have fin:∀q∈lys.filter (Zt fnd),q<J.ps.length/\Zt fnd q=true:=fun q hq=>⟨lin q (jz.mp hq).1,(jz.mp hq).2⟩
   generalize efl:lys.filter (Zt fnd)=lf at fl4 fin
   refine⟨by rw[zI];omega,fun D hD=>⟨D,rfl,⟨_,SqL.of zb⟩,?_⟩⟩
   have s4:=s3.trans (ze (o:=.lst (zv lf)) hD)
   have sb4:=StA.same sb2 s4
   have nD:=(StA.same sb2 s3).out hD
   have hD4:=zb (H:=H3) (a:=D) (o:=.lst (zv lf))
   have nDp:D≠pl:=fun z=>by rw[z,s3 _ _ hpl2] at hD;cases hD
   have hpl4:=s4 _ _ hpl2
   generalize upd H3 D (.lst (zv lf))=H4 at sb4 hD4 hpl4 ⊢
   refine jP (K:=K) (a:=D) (xs:=zv lf) (fun j σ H'=>Ex6 fun(v7 v8 v9 v10:Option V) (r:List Ev) (zs:List V)=>An7 (σ=[some (.ref sp),some (.ref jp),some (.ref tp),some (.int (n:Int)),some (.ref ov),some (.ref pl),some (.ref got),v7,v8,v9,v10]) (StB K G H' sp st lk eo la gi J (es++r) w) (H' pl=some (.lst zs)) (Reps K G ((wS J r).map plD) zs) (H' D=some (.lst (zv lf))) (r.length<=44+j) (LysR J es fnd (lf.take j) r)) ⟨_,_,_,_,fnd,zs,rfl,sb4,hpl4,rz,hD4,by omega,.nil _ rfl⟩ (fun j σ H' _ ⟨_,_,_,_,_,_,_,_,_,_,s',_,_⟩=>SqL.of s') ?_ ?_
   ·rintro j x σ H5 hx ⟨v7,v8,v9,v10,r,zs,rfl,sb5,hpl5,rz5,hD5,rl,lr⟩
    unfold zv at hx
    rw[qJ] at hx
    obtain⟨p,ep,rfl⟩:=qw.mp hx
    have jl:=(zQ.mp ep).1
    obtain⟨hp,hg⟩:=fin p (qG ep)
    obtain⟨ra,ms,era,hra,ml,am⟩:=og.at hp
    have epa:J.ps[p]? =some J.ps[p]:=qX hp
    generalize J.ps[p]=pa at epa
    obtain⟨pv0,epv,rpv⟩:=vJ rpp epa
    obtain⟨pad,pac,rfl,qpa,qpc⟩:=xS rpv
    refine⟨_,rfl,_,rfl,ov,_,_,_,rfl,rfl,sb5.le.seq og.ho,zT era,ra,rfl,⟨_,sb5.le.seq hra⟩,j4 (K:=K) (a:=ra) (xs:=ms.map V.int) (fun l zs' H6=>zs'=((ms.take l).map fun m=>decide (m∈nI (pOf (zF zA (es++r))))).map V.bl/\Same H5 H6) ⟨rfl,Same.refl _⟩ (fun l zs' H6 ⟨_,s6⟩=>s6.seq (sb5.le.seq hra)) ?_ ?_⟩
    ·rintro l x zs' H6 hx ⟨rfl,s6⟩
     rw[qJ] at hx
     obtain⟨m,em,rfl⟩:=qw.mp hx
     have ll:=(zQ.mp em).1
     have sb6:=StA.same sb5 s6
     refine⟨rfl,_,rfl,_,rfl,sp,_,rfl,sb6.dG,gi,_,rfl,.inl (SqL.of sb6.hi),rfl,wG _,?_,?_,s6⟩
     ·rw[zp,zp,qT];omega
     ·rw[Wy,qB em,zZ,zZ]
      rfl
    rintro zs' H6 ⟨e1,s6⟩
    rw[zp,jh] at e1
    subst e1
    refine⟨by rw[zp,zp];omega,fun L hL=>⟨L,_,rfl,SqL.of zb,_,rfl,?_⟩⟩
    have ea:((ms.map fun m=>decide (m∈nI (pOf (zF zA (es++r))))).any id)=ms.any fun m=>decide (m∈nI (pOf (zF zA (es++r)))):=by rw[List.any_map];rfl
    have s7:=s6.trans (ze (o:=.lst ((ms.map fun m=>decide (m∈nI (pOf (zF zA (es++r))))).map V.bl)) hL)
    generalize upd H6 L (.lst ((ms.map fun m=>decide (m∈nI (pOf (zF zA (es++r))))).map V.bl))=H7 at s7 ⊢
    have sb7:=StA.same sb5 s7
    have hpl7:=s7 _ _ hpl5
    have hD7:=s7 _ _ hD5
    obtain⟨exs,hex,rex⟩:=sb7.he
    have exl:=rex.len
    rw[zp,zW] at exl
    have neo:∀{a:Addr},a∉[sp,st,eo,la,gi]->a≠eo:=fun h z=>h (by rw[z];simp)
    have ngi:∀{a:Addr},a∉[sp,st,eo,la,gi]->a≠gi:=fun h z=>h (by rw[z];simp)
    have nla:∀{a:Addr},a∉[sp,st,eo,la,gi]->a≠la:=fun h z=>h (by rw[z];simp)
    rw[ea]
    by_cases hLo:Q5 J p (es++r)
    ·rw[(yO jo am).mpr hLo]
     refine ifT rfl ⟨_,rfl,sp,_,rfl,sb7.dE,.inl ⟨rfl,_,SqL.of hex⟩,_,rfl,le2,fun T2 hT2=>⟨eo,exs,_,rfl,rfl,(ze hT2) _ _ hex,by omega,?_⟩⟩
     have rv:Rep K (WX [sp,st,eo,la,gi] (upd H7 T2 (.tup [.str "dropped",.int (p:Int)]))) (evD (.dropped p)) (.ref T2):=⟨T2,_,rfl,SqT.of (WX.at (StA.out sb7 hT2) zb),_,_,rfl,rfl,_,_,rfl,rfl,rfl⟩
     have sa8:=(StA.new sb7 (o:=.tup [.str "dropped",.int (p:Int)]) hT2).event ((ze hT2) _ _ hex) (rex.same (WX.new hT2)) rv
     have hpl8:upd (upd H7 T2 (.tup [.str "dropped",.int (p:Int)])) eo (.lst (exs++[.ref T2])) pl=some (.lst zs):=by rw[zi (neo npl)];exact(ze hT2) _ _ hpl7
     have hD8:upd (upd H7 T2 (.tup [.str "dropped",.int (p:Int)])) eo (.lst (exs++[.ref T2])) D=some (.lst (zv lf)):=by rw[zi (neo nD)];exact(ze hT2) _ _ hD7
     generalize upd (upd H7 T2 (.tup [.str "dropped",.int (p:Int)])) eo (.lst (exs++[.ref T2]))=H8 at sa8 hpl8 hD8 ⊢
     have gl:=wM zA (es++r)
     rw[zW] at gl
     have sa9:=sa8.giv (p:=p)
     refine⟨_,rfl,sp,_,rfl,sa8.dG,.inl ⟨rfl,_,SqL.of sa8.hi⟩,_,rfl,gi,_,_,rfl,rfl,sa8.hi,by rw[zI];unfold pOf;rw[zp];omega,?_⟩
     have hw:(Ev.dropped p).w∈zA:=show("dropped" : Str)∈zA by decide
     refine⟨_,_,_,_,r++[.dropped p],zs,rfl,?_,by rw[zi (ngi npl)];exact hpl8,by rw[Jp hw];exact rz5,by rw[zi (ngi nD)];exact hD8,by rw[zW];show _+1<=_;omega,?_⟩
     ·rw[<- jm]
      exact sa9.gave rfl hw
     ·rw[qB ep]
      exact .lay _ _ _ _ _ lr hg epa (.inl ⟨hLo,rfl⟩)
    ·have ef:(ms.any fun m=>decide (m∈nI (pOf (zF zA (es++r)))))=false:=by
      cases e:ms.any fun m=>decide (m∈nI (pOf (zF zA (es++r)))) with
      | true=>exact absurd ((yO jo am).mp e) hLo
      | false=>rfl
     rw[ef]
     refine ifF rfl ⟨_,rfl,sp,_,rfl,sb7.dE,.inl ⟨rfl,_,SqL.of hex⟩,_,rfl,le2,fun T1 hT1=>?_⟩
     have sG8:=sb7.le.trans (ze (o:=.tup [.str "laid",.int (p:Int)]) hT1)
     refine⟨_,rfl,jp,_,_,_,rfl,rfl,sG8.sqT qj,rfl,_,rfl,ps,_,_,_,rfl,rfl,sG8.sqT qps,zT epv,T1,pad,_,_,rfl,rfl,SqT.of zb,sG8.sqT qpa,(fun z=>nomatch z),(by show 4<=sizeLine;omega),(fun z=>nomatch z),fun _ T2 hT2=>⟨eo,exs,_,rfl,rfl,(ze hT2) _ _ ((ze hT1) _ _ hex),by omega,?_⟩⟩
     have sb8:=StA.new (StA.new sb7 (o:=.tup [.str "laid",.int (p:Int)]) hT1) (o:=.tup ([.str "laid",.int (p:Int)]++[.str pa.k,.ref pac])) hT2
     have nT2:=(StA.new sb7 (o:=.tup [.str "laid",.int (p:Int)]) hT1).out hT2
     have s8:=(ze (o:=.tup [.str "laid",.int (p:Int)]) hT1).trans (ze (o:=.tup ([.str "laid",.int (p:Int)]++[.str pa.k,.ref pac])) hT2)
     have hT8:upd (upd H7 T1 (.tup [.str "laid",.int (p:Int)])) T2 (.tup ([.str "laid",.int (p:Int)]++[.str pa.k,.ref pac])) T2=some (.tup [.str "laid",.int (p:Int),.str pa.k,.ref pac]):=zb
     generalize upd (upd H7 T1 (.tup [.str "laid",.int (p:Int)])) T2 (.tup ([.str "laid",.int (p:Int)]++[.str pa.k,.ref pac]))=H8 at sb8 s8 hT8 ⊢
     have rv:Rep K (WX [sp,st,eo,la,gi] H8) (evD (.laid p pa.k pa.x pa.y)) (.ref T2):=⟨T2,_,rfl,SqT.of (WX.at nT2 hT8),_,_,rfl,rfl,_,_,rfl,rfl,_,_,rfl,rfl,_,_,rfl,(Wh qpc).same sb8.fr,rfl⟩
     have sa9:=sb8.event (s8 _ _ hex) (rex.same (WX.same s8)) rv
     have hpl9:upd H8 eo (.lst (exs++[.ref T2])) pl=some (.lst zs):=by rw[zi (neo npl)];exact s8 _ _ hpl7
     have hD9:upd H8 eo (.lst (exs++[.ref T2])) D=some (.lst (zv lf)):=by rw[zi (neo nD)];exact s8 _ _ hD7
     generalize upd H8 eo (.lst (exs++[.ref T2]))=H9 at sa9 hpl9 hD9 ⊢
     have gl:=wM ["laid"] (es++r)
     rw[zW] at gl
     refine⟨_,rfl,sp,_,rfl,sa9.dA,.inl ⟨rfl,_,SqL.of sa9.ha⟩,_,rfl,la,_,_,rfl,rfl,sa9.ha,by rw[zI];unfold pOf;rw[zp];omega,?_⟩
     have sa10:=sa9.lay (p:=p)
     have hpl10:upd H9 la (.lst (zv (pOf (zF ["laid"] (es++r)))++[.int (p:Int)])) pl=some (.lst zs):=by rw[zi (nla npl)];exact hpl9
     have hD10:upd H9 la (.lst (zv (pOf (zF ["laid"] (es++r)))++[.int (p:Int)])) D=some (.lst (zv lf)):=by rw[zi (nla nD)];exact hD9
     generalize upd H9 la (.lst (zv (pOf (zF ["laid"] (es++r)))++[.int (p:Int)]))=H10 at sa10 hpl10 hD10 ⊢
     have sG10:=sa10.le
     have zl:=rz5.len
     have rpl:=JY J r
     rw[zp] at zl
     refine⟨_,rfl,.inl ⟨rfl,_,SqL.of hpl10⟩,_,rfl,jp,_,_,_,rfl,rfl,sG10.sqT qj,rfl,_,rfl,ps,_,_,_,rfl,rfl,sG10.sqT qps,zT epv,pad,_,_,_,rfl,rfl,sG10.sqT qpa,rfl,pl,_,_,rfl,rfl,hpl10,by omega,?_⟩
     have sa11:=sa10.put (o:=.lst (zs++[.ref pac])) npl gpl ⟨_,hpl10⟩
     refine⟨_,_,_,_,r++[.laid p pa.k pa.x pa.y],zs++[.ref pac],rfl,?_,zb,?_,by rw[zi nDp];exact hD10,by rw[zW];show _+1<=_;omega,?_⟩
     ·rw[<- jm]
      exact sa11.laid rfl rfl
     ·rw[zbJ,zZ]
      exact rz5.app ⟨.ref pac,[],rfl,Wh qpc,rfl⟩
     ·rw[qB ep]
      exact .lay _ _ _ _ _ lr hg epa (.inr ⟨hLo,rfl⟩)
   ·rintro σ H5 ⟨v7,v8,v9,v10,r,zs,rfl,sb5,hpl5,rz5,hD5,rl,lr⟩
    rw[zI,jh,<- efl] at lr
    rw[zI] at rl
    have tr:TripR J bs n es pks lys r:=⟨fnd,pr,Wu lys lr⟩
    have eok:=TripR.ok jo.jin tr
    have zl:=rz5.len
    have rpl:=JY J r
    rw[zp] at zl
    refine⟨_,rfl,.inl ⟨rfl,_,SqL.of hpl5⟩,_,rfl,jp,_,_,_,rfl,rfl,sb5.le.sqT qj,rfl,pl,_,_,rfl,rfl,hpl5,by omega,?_⟩
    have sb6:=StA.put sb5 (o:=.lst (zs++[.ref gg])) npl gpl ⟨_,hpl5⟩
    have hpl6:=zb (H:=H5) (a:=pl) (o:=.lst (zs++[.ref gg]))
    have rz6:Reps K G ((Zl J r).map plD) (zs++[.ref gg]):=by
     show Reps K G ((wS J r++[(J.gx,J.gy)]).map plD) _
     rw[zZ]
     exact rz5.app ⟨.ref gg,[],rfl,rg,rfl⟩
    generalize upd H5 pl (.lst (zs++[.ref gg]))=H6 at sb6 hpl6 ⊢
    generalize zs++[.ref gg]=xs at rz6 hpl6
    have hxl:=rz6.len
    have rin:=zc8 jo.jin eok
    have rwl:(Zl J r).length<=200:=by
     have:(Zl J r).length=(wS J r).length+1:=zW
     omega
    rw[zp] at hxl
    refine⟨_,rfl,sp,_,rfl,sb6.dF,_,rfl,_,rfl,1,rfl,pl,xs,rfl,SqL.of hpl6,fun t ht=>?_⟩
    have s1:Same H6 (upd H6 t (.lst (jN xs (some 1) none))):=ze ht
    have ht1:upd H6 t (.lst (jN xs (some 1) none)) t=some (.lst (xs.drop 1)):=by rw[zb,za0]
    have hx1:=s1 _ _ hpl6
    generalize upd H6 t (.lst (jN xs (some 1) none))=H7 at s1 ht1 hx1
    have sb7:=StA.same sb6 s1
    refine⟨true,true,pl,t,rfl,⟨xs,SqL.of hx1⟩,⟨_,SqL.of ht1⟩,?_⟩
    refine J9 (K:=K) (k1:=true) (k2:=true) (xs:=xs) (ys:=xs.drop 1) (fun i zs H3=>zs=((vh (Zl J r)).take i).map V.int/\Same H7 H3) ⟨rfl,Same.refl _⟩ (fun i zs H3 ⟨_,sm⟩=>⟨sm.seq (SqL.of hx1),sm.seq (SqL.of ht1)⟩) ?_ ?_
    ·rintro i x y zs H3 T e1 e2 ⟨rfl,sm⟩ hT
     have e2':xs[i+1]? =some y:=by rw[WO] at e2;rw[Nat.add_comm];exact e2
     have s4:=sm.trans (ze (o:=.tup [x,y]) hT)
     have sG4:=(StA.same sb7 s4).le
     obtain⟨d1,q1,r1⟩:=rz6.get e1
     obtain⟨d2,q2,r2⟩:=rz6.get e2'
     rw[qJ] at q1 q2
     obtain⟨p,w1,rfl⟩:=qw.mp q1
     obtain⟨q,w2,rfl⟩:=qw.mp q2
     refine⟨T,_,rfl,SqT.of zb,rfl,_,_,rfl,_,_,rfl,rfl,rfl,?_⟩
     refine⟨_,rfl,_,rfl,x,y,p,q,rfl,r1.same sG4,r2.same sG4,?_,?_,s4⟩
     ·have:=yD (Zl J r)
      rw[zp,qT];omega
     ·rw[qB (XU w1 w2),zZ];rfl
    ·rintro zs H3 ⟨rfl,sm⟩
     have hm:min xs.length (xs.drop 1).length=(vh (Zl J r)).length:=by rw[yD,ya];omega
     refine⟨by rw[zp,qT];omega,fun L hL=>⟨L,vh (Zl J r),rfl,?_,fun z hz=>?_,by rw[yD];omega,?_⟩⟩
     ·refine SqL.of ?_
      rw[zb,hm,jh]
     ·have:=Yb rin z hz
      omega
     have sb8:=StA.same sb7 (sm.trans (ze (o:=.lst (((vh (Zl J r)).take (min xs.length (xs.drop 1).length)).map V.int)) hL))
     generalize upd H3 L (.lst (((vh (Zl J r)).take (min xs.length (xs.drop 1).length)).map V.int))=H8 at sb8 ⊢
     refine⟨_,_,rfl,rfl,_,rfl,sp,_,rfl,sb8.pF,?_⟩
     exact k r _ sb8.nums tr (by omega)
end
def prT(t:jW):List (Nat×Nat)×List Nat:=(t.pk,t.ly)
theorem zc9(n:Nat)(g:Nat->Int):vf (n+1) g=vf n g++[.int (g n)]:=by
 unfold vf
 rw[WH,zZ]
 rfl
section
variable{P:Program}{w:World}{K:PySem.W.Frag}{mg:Str->Option Value}{base:Heap}
theorem zes:zK ["_law_job_here", "_law_plan_here", "_law_luck_here", "_law_tries", "_law_state", "_law_over_here", "_law_trip_here"] ["_law_job_here", "_law_plan_here", "_law_luck_here", "_law_tries"] (zu (topL 38)):=⟨rfl,rfl,rfl,by decide +kernel,rfl,by decide +kernel,by decide +kernel⟩
def zhp{cdv:Value}{f:Addr}{A:Around}{outer:List Env}{s:Shared}{H:Hp}{E:XK}(B:Blt mg)(hr:Room 2 (A.deeper (envOfC "_law_run_due" (zu (topL 38)) s.heap.objs.size f cdv)))(D_over:Dfn P w K mg base "_law_over" 1 ["_law_many", "_law_aheads_here"] (Qa K))(D_trip_run:Dfn P w K mg base "_law_trip_run" 2 ["_law_state", "_law_job_here", "_law_trip_here", "_law_tries", "_law_over_here"] (zbl K))(nd:(["_law_job_here", "_law_plan_here", "_law_luck_here", "_law_tries", "_law_state", "_law_over_here", "_law_trip_here"]:List Str).Nodup):{ t:TS // PSs (VP CX0 P w K mg base ["_law_job_here", "_law_plan_here", "_law_luck_here", "_law_tries", "_law_state", "_law_over_here", "_law_trip_here"] "_law_run_due" (zu (topL 38)) f cdv A outer s H E).nox (vb (topL 38)) t }:=
 have hu:=hr.units0
 have hu1:=Qp hr
 ⟨_,(zg (zD (i:=4) nd rfl (Or.inl rfl) (J6 (xG zL (j8 [] [] rfl rfl (by kernel_rfl) (vZ (zr zM (pv 0) zf (fun _ _=>rfl))) (fun _ _ _ _=>jF) (fun _ _ _ _=>(zr (jt (K:=K) rfl) (pv 0) zf (fun _ _=>rfl)))) (xG zL (pv 2) (xG zL zf (xG zL zf J5)))) rfl rfl (by intro z;cases z) (by show 4<=15;decide)))
     (zg (zU (YM (pv 4) (J6 (xG zL (zN zd) (xG zL (zN zd) (xG zL (zN zd) J5))) rfl rfl (by intro z;cases z) (by show 3<=15;decide)) ⟨rfl,rfl,rfl,rfl⟩))
     (zg (zD (i:=5) nd rfl (Or.inl rfl) (zk D_over (hr.mono (by decide)) rfl (za (zo zw rfl B.len boot_len (za (zr zM (pv 0) zf (fun _ _=>rfl)) zd)) (za (zr zM (pv 0) zf (fun _ _=>rfl)) zd))))
     (zg (qO jw rfl (qN (pv 1)) (zy (i:=6) nd rfl (Or.inl rfl))
     (zm (zU (zk D_trip_run (hr.mono (by decide)) rfl (pa5 (pv 4) (pv 0) (pv 6) (pv 3) (pv 5))))))
     (zm (zH (zX (za (qD hu1 (pv 4) zL (fun _ _=>rfl)) (za (zo vI rfl B.sorted vc (za (qD hu1 (pv 4) zL (fun _ _=>rfl)) zd)) (za (zo vI rfl B.sorted vc (za (qD hu1 (pv 4) zL (fun _ _=>rfl)) zd)) (za (qD hu1 (pv 4) zL (fun _ _=>rfl)) zd)))))))))))⟩
end
theorem JobOk.jsm{J:Job}{ord:List Nat}(jo:JobOk J ord):JSm J:=by
 refine⟨jo.pl,jj jo.fl (by decide),fun q hq=>?_,jo.al⟩
 unfold asI at hq
 obtain⟨p,hp,rfl⟩:=qo.mp hq
 obtain⟨k,l,_,e1,e2⟩:=jo.bo p hp
 have h1:=xK.mp (jo.op.mem_iff.mp (qG e1))
 have h2:=xK.mp (jo.op.mem_iff.mp (qG e2))
 exact⟨⟨by show(0:Int)<=(p.1:Int);omega,by show(p.1:Int)<_;omega⟩,⟨by show(0:Int)<=(p.2:Int);omega,by show(p.2:Int)<_;omega⟩⟩
theorem zeC{J:Job}{ord:List Nat}(jo:JobOk J ord){ms:List Int}{p:Nat}(w:ms.Pairwise (·< ·))(h:∀j,j∈ms↔∃k,1<=k/\Wk (asI J) k j (p:Nat)):ms.length<=60:=by
 have nd2:ms.Nodup:=w.imp fun h=>Int.ne_of_lt h
 have:=nd2.length_le_of_subset (l₂:=nI (List.range J.ps.length)) fun x hx=>by
  obtain⟨k',k1,wk⟩:=(h x).mp hx
  have hin:=Wk.in1 jo.jsm.as k1 wk
  have h1:=hin.1
  have h2:=hin.2
  exact qo.mpr ⟨x.toNat,xK.mpr (by omega),by omega⟩
 unfold nI at this
 rw[zp,vd] at this
 have:=jo.pl
 omega
section
variable{P:Program}{w:World}{K:PySem.W.Frag}{mg:Str->Option Value}{base:Heap}
inductive Yv(K:PySem.W.Frag)(vs:List V)(H:Hp)(Q:VK):Prop
 | mk (jp pl lk:Addr) (J:Job) (ord:List Nat) (tr:List V) (ts:List jW) (bs:List Bool) (n:Nat) (_:vs=[.ref jp,.ref pl,.ref lk,.int (n:Int)]) (_:Rep K H (xR J) (.ref jp)) (_:JobOk J ord) (_:H pl=some (.lst tr)) (_:Reps K H (ts.map vT) tr) (_:ts.length<=60) (_:(VX (ts.map prT)).length<=60) (_:(∀t∈ts,t.ly.Nodup)) (_:(∀t∈ts,t.pk.length<=4/\t.ly.length<=4/\(∀q∈t.pk,Q4 J q)/\∀q∈t.ly,q<J.ps.length)) (_:SqL K H lk (bs.map V.bl)) (_:bs.length<=400) (_:n<=10) (_:∀(T eo a b:Addr) (es:List Ev) (w:Int) (ls gs:List Int) H',Same H H'->H' T=some (.tup [.ref eo,.ref a,.ref b,.int w])->Evs K H' eo es->H' a=some (.lst (ls.map V.int))->H' b=some (.lst (gs.map V.int))->ls.Perm ((zF ["laid"] es).map fun e=>(e.p:Int))->ls.Pairwise (·<= ·)->gs.Perm ((zF zA es).map fun e=>(e.p:Int))->gs.Pairwise (·<= ·)->es.length<=5000->RunR J bs n (ts.map prT) es w->H T=none->H eo=none->H a=none->H b=none->Q (.ref T) H'):Yv K vs H Q
def Yw(K:PySem.W.Frag):Sp:=fun vs H Q _=>Yv K vs H Q
theorem zfq{f:Addr}{fd:FuncData}(F:Fun K "_law_run_due" "_law_run_due" (topL 38) f fd)(B:Blt mg)(D_over:Dfn P w K mg base "_law_over" 1 ["_law_many", "_law_aheads_here"] (Qa K))(D_trip_run:Dfn P w K mg base "_law_trip_run" 2 ["_law_state", "_law_job_here", "_law_trip_here", "_law_tries", "_law_over_here"] (zbl K)):FnOk P w K mg base CX0 3 f fd ["_law_job_here", "_law_plan_here", "_law_luck_here", "_law_tries"] (Yw K):=by
 have nd:=zes.nd
 refine F.ok zes (fun vs H Q E h=>?_) (fun cdv A outer s H vs Q E hr h=>?_)
 ·obtain⟨jp,pl,lk,J,ord,tr,ts,bs,n,rfl,_⟩:=h
  rfl
 ·obtain⟨jp,pl,lk,J,ord,tr,ts,bs,n,rfl,rj,jo,hpl,rt,t60,ap,tnd,tin,hlk,bl,n10,k⟩:=h
  have hbig:1000000<sizeLine:=by rw[sizeLine_eq];decide
  have hu:=hr.units0
  have hu1:=Qp hr
  have fl40:=jo.fl
  have pl60:=jo.pl
  have al:=jo.al
  have trl:=rt.len
  rw[zp] at trl
  obtain⟨gg,fs,ps,as,fv,px,qj,rg,qf,rf,qps,rpp,_⟩:=xx rj
  have lfv:=rf.len
  have lpx:=rpp.len
  rw[zp] at lfv lpx
  refine⟨_,(zhp B hr D_over D_trip_run nd).2,?_⟩
  intro sp hsp
  have s0:=ze (H:=H) (o:=.dK []) hsp
  have hs0:=zb (H:=H) (a:=sp) (o:=.dK [])
  generalize upd H sp (.dK [])=H0 at s0 hs0 ⊢
  refine⟨_,rfl,jp,_,_,_,rfl,rfl,s0.sqT qj,rfl,fs,rfl,⟨_,s0.sqT qf⟩,wj (K:=K) (a:=fs) (xs:=fv) (fun i zs H1=>zs=vf i (qy J [])/\Same H0 H1) ⟨rfl,Same.refl _⟩ (fun i zs H1 ⟨_,s1⟩=>s1.sqT (s0.sqT qf)) ?_ ?_⟩
  ·rintro i x zs H1 hx ⟨rfl,s1⟩
   obtain⟨d,ed,rd⟩:=((rf.same s0).same s1).get hx
   rw[qJ] at ed
   obtain⟨fe,ef,rfl⟩:=qw.mp ed
   obtain⟨fa,fc,rfl,qfa,_⟩:=vp rd
   have il:=(zQ.mp ef).1
   refine⟨rfl,_,rfl,fa,_,_,_,rfl,rfl,qfa,rfl,by rw[Qe];omega,?_,s1⟩
   have e0:qy J [] i=fe.m:=by
    unfold qy
    rw[ef]
    show fe.m-((0:Nat):Int)=_
    omega
   rw[zc9,e0]
  rintro zs H1 ⟨rfl,s1⟩
  rw[lfv]
  refine⟨by rw[Qe];omega,fun st hst=>?_⟩
  have s2:=s1.trans (ze (o:=.lst (vf J.fs.length (qy J []))) hst)
  have nst:sp≠st:=fun z=>by rw[<- z,s1 _ _ hs0] at hst;cases hst
  have gst:=s0.none (s1.none hst)
  have hst2:=zb (H:=H1) (a:=st) (o:=.lst (vf J.fs.length (qy J [])))
  generalize upd H1 st (.lst (vf J.fs.length (qy J [])))=H2 at s2 hst2 ⊢
  refine⟨_,rfl,s2 _ _ hs0,[(.inr "stock",.ref st),(.inr "luck",.ref lk),(.inr "tried",.int 0),(.inr "far",.int 0)],rfl,(by show 4<=15;decide),?_⟩
  have e3:ju [] [((.inr "stock" : Key),V.ref st),(.inr "luck",.ref lk),(.inr "tried",.int 0),(.inr "far",.int 0)]=[(.inr "stock",.ref st),(.inr "luck",.ref lk),(.inr "tried",.int 0),(.inr "far",.int 0)]:=rfl
  rw[e3]
  have hs3:=zb (H:=H2) (a:=sp) (o:=.dK [(.inr "stock",.ref st),(.inr "luck",.ref lk),(.inr "tried",.int 0),(.inr "far",.int 0)])
  have hst3:upd H2 sp (.dK [(.inr "stock",.ref st),(.inr "luck",.ref lk),(.inr "tried",.int 0),(.inr "far",.int 0)]) st=some (.lst (vf J.fs.length (qy J []))):=by rw[zi nst.symm];exact hst2
  have sH3:Same H (upd H2 sp (.dK [(.inr "stock",.ref st),(.inr "luck",.ref lk),(.inr "tried",.int 0),(.inr "far",.int 0)])):=fun a u e=>by
   rw[zi fun z=>by rw[z,hsp] at e;cases e]
   exact(s0.trans s2) a u e
  generalize upd H2 sp (.dK [(.inr "stock",.ref st),(.inr "luck",.ref lk),(.inr "tried",.int 0),(.inr "far",.int 0)])=H3 at hs3 hst3 sH3 ⊢
  refine⟨_,rfl,sp,rfl,.inl ⟨_,.inl hs3⟩,fun q hq=>⟨le0,fun eo heo=>⟨le0,fun la hla=>⟨le0,fun gi hgi=>?_⟩⟩⟩⟩
  have nq:sp≠q:=zj hs3 hq
  have s4:=ze (o:=.dK []) hq
  have s5:=ze (o:=.lst []) heo
  have s6:=ze (o:=.lst []) hla
  have s7:=ze (o:=.lst []) hgi
  have hq7:=(s5.trans (s6.trans s7)) _ _ (zb (H:=H3) (a:=q) (o:=.dK []))
  have he7:=(s6.trans s7) _ _ (zb (H:=upd H3 q (.dK [])) (a:=eo) (o:=.lst []))
  have ha7:=s7 _ _ (zb (H:=upd (upd H3 q (.dK [])) eo (.lst [])) (a:=la) (o:=.lst []))
  have hi7:=zb (H:=upd (upd (upd H3 q (.dK [])) eo (.lst [])) la (.lst [])) (a:=gi) (o:=.lst [])
  have s37:=(s4.trans s5).trans (s6.trans s7)
  have n1:sp≠eo:=zj (s4 _ _ hs3) heo
  have n2:sp≠la:=zj ((s4.trans s5) _ _ hs3) hla
  have n3:sp≠gi:=zj ((s4.trans (s5.trans s6)) _ _ hs3) hgi
  have n4:st≠eo:=zj (s4 _ _ hst3) heo
  have n5:st≠la:=zj ((s4.trans s5) _ _ hst3) hla
  have n6:st≠gi:=zj ((s4.trans (s5.trans s6)) _ _ hst3) hgi
  have n7:eo≠la:=zj (zb (H:=upd H3 q (.dK [])) (a:=eo) (o:=.lst [])) hla
  have n8:eo≠gi:=zj (s6 _ _ (zb (H:=upd H3 q (.dK [])) (a:=eo) (o:=.lst []))) hgi
  have n9:la≠gi:=zj (zb (H:=upd (upd H3 q (.dK [])) eo (.lst [])) (a:=la) (o:=.lst [])) hgi
  have nqs:q≠st:=(zj hst3 hq).symm
  have nqe:q≠eo:=zj (zb (H:=H3) (a:=q) (o:=.dK [])) heo
  have nqa:q≠la:=zj (s5 _ _ (zb (H:=H3) (a:=q) (o:=.dK []))) hla
  have nqi:q≠gi:=zj ((s5.trans s6) _ _ (zb (H:=H3) (a:=q) (o:=.dK []))) hgi
  have gq:=sH3.none hq
  have ge:=sH3.none (s4.none heo)
  have ga:=sH3.none ((s4.trans s5).none hla)
  have gg':=sH3.none ((s4.trans (s5.trans s6)).none hgi)
  generalize upd (upd (upd (upd H3 q (.dK [])) eo (.lst [])) la (.lst [])) gi (.lst [])=H7 at hq7 he7 ha7 hi7 s37 ⊢
  refine⟨hq7,[(.inr "events",.ref eo),(.inr "laid",.ref la),(.inr "given",.ref gi)],rfl,(by show 3<=15;decide),q,[(.inr "stock",.ref st),(.inr "luck",.ref lk),(.inr "tried",.int 0),(.inr "far",.int 0)],[(.inr "events",.ref eo),(.inr "laid",.ref la),(.inr "given",.ref gi)],rfl,nq,by rw[zi nq];exact s37 _ _ hs3,by rw[zb];rfl,(by show 7<=sizeLine;omega),?_⟩
  have eK:ju [((.inr "stock" : Key),V.ref st),(.inr "luck",.ref lk),(.inr "tried",.int 0),(.inr "far",.int 0)] [(.inr "events",.ref eo),(.inr "laid",.ref la),(.inr "given",.ref gi)]=stK st lk eo la gi ((z7 []:Nat):Int) 0:=rfl
  rw[eK]
  have hex:∀a∈[sp,st,eo,la,gi],H a=none:=fun a h=>by
   simp only[zS,xL,or_false] at h
   rcases h with rfl | rfl | rfl | rfl | rfl<;>assumption
  have sH8:Same H (upd (upd H7 q (.dK (ju [] [(.inr "events",.ref eo),(.inr "laid",.ref la),(.inr "given",.ref gi)]))) sp (.dK (stK st lk eo la gi ((z7 []:Nat):Int) 0))):=fun a u e=>by
   rw[zi (zj e hsp),zi (zj e gq)]
   exact(sH3.trans s37) a u e
  have sa8:StA K H (upd (upd H7 q (.dK (ju [] [(.inr "events",.ref eo),(.inr "laid",.ref la),(.inr "given",.ref gi)]))) sp (.dK (stK st lk eo la gi ((z7 []:Nat):Int) 0))) sp st lk eo la gi J.fs.length (qy J []) ((z7 []:Nat):Int) [] [] [] 0:=by
   refine⟨zb,?_,⟨[],?_,rfl⟩,?_,?_,?_,fun a u e=>WX.at (fun z=>by rw[hex a z] at e;cases e) (sH8 a u e)⟩
   ·rw[zi nst.symm,zi nqs.symm];exact s37 _ _ hst3
   ·rw[zi n1.symm,zi nqe.symm];exact he7
   ·rw[zi n2.symm,zi nqa.symm];exact ha7
   ·rw[zi n3.symm,zi nqi.symm];exact hi7
   ·simp[nst,n1,n2,n3,n4,n5,n6,n7,n8,n9]
  generalize upd (upd H7 q (.dK (ju [] [(.inr "events",.ref eo),(.inr "laid",.ref la),(.inr "given",.ref gi)]))) sp (.dK (stK st lk eo la gi ((z7 []:Nat):Int) 0))=H8 at sa8 sH8 ⊢
  clear s37 sH3 hs3 hst3 hq7 he7 ha7 hi7 s4 s5 s6 s7 hq heo hla hgi
  obtain⟨ta,x0,x1,x2,x3,asx,q0,q4,r4⟩:=yo rj
  refine⟨_,rfl,jp,_,_,_,rfl,rfl,sH8.sqT qj,rfl,ps,_,rfl,.inr (sH8.sqT qps),_,rfl,jp,_,_,_,rfl,rfl,sH8.sqT q0,rfl,ta,asx,asI J,px.length,rkO ord,rfl,.inr (sH8.sqT q4),r4.same sH8,by rw[y3];omega,by omega,by rw[lpx];exact jo.jsm.as,JZ jo,zbL jo,fun ov mss H9 s9 ov0 ⟨ozs,hoz,rws⟩ lm am=>?_⟩
  have sa9:=(StA.same sa8 s9).onto
  have nov:ov∉[sp,st,eo,la,gi]:=StA.out sa8 ov0
  have sHG:Same H (WX [sp,st,eo,la,gi] H9):=fun a u e=>WX.at (fun z=>by rw[hex a z] at e;cases e) ((sH8.trans s9) a u e)
  have og:OvG K (WX [sp,st,eo,la,gi] H9) ov J mss ozs:=by
   refine⟨SqL.of (WX.at nov hoz),by rw[lm,lpx],fun p ms e=>?_,fun p ms e=>⟨?_,(am p ms e).2⟩⟩
   ·obtain⟨a,e1,e2,e3⟩:=rws.2 p ms e
    exact⟨a,e1,SqL.of (WX.at (StA.out sa8 e2) e3)⟩
   ·exact zeC jo (am _ _ e).1 (am _ _ e).2
  generalize eG:WX [sp,st,eo,la,gi] H9=G at sa9 sHG og
  refine⟨_,rfl,pl,rfl,⟨_,SqL.of ((sHG.trans sa9.le) _ _ hpl)⟩,jP (K:=K) (a:=pl) (xs:=tr) (fun i σ H'=>Ex3 fun(v6:Option V) (es:List Ev) (w:Int)=>An4 (σ=[some (.ref jp),some (.ref pl),some (.ref lk),some (.int (n:Int)),some (.ref sp),some (.ref ov),v6]) (StB K G H' sp st lk eo la gi J es w) (es.length<=48*i) (RunR J bs n ((ts.take i).map prT) es w)) ⟨_,[],0,rfl,sa9,zG _,.nil⟩ (fun i σ H' _ ⟨_,_,_,_,s',_,_⟩=>SqL.of ((sHG.trans s'.le) _ _ hpl)) ?_ ?_⟩
  ·rintro i x σ H10 hx ⟨v6,es,w,rfl,sb,el,rr⟩
   have il:=(zQ.mp hx).1
   obtain⟨d,ed,rd⟩:=(rt.same sHG).get hx
   rw[qJ] at ed
   obtain⟨t,et,rfl⟩:=qw.mp ed
   obtain⟨h1,h2,h3,h4⟩:=tin _ (qG et)
   have rd':=rd
   obtain⟨tp,_,rfl,_⟩:=rd'
   refine⟨_,rfl,_,rfl,_,rfl,_,rfl,_,rfl,sp,st,lk,eo,la,gi,jp,tp,ov,G,J,ord,t.pk,t.ly,n,bs,es,w,mss,ozs,rfl,sb,rj.same sHG,jo,sHG.seq hlk,bl,rd,h3,h4,h1,h2,n10,by omega,og,fun r H11 sb11 trr rl=>⟨_,es++r,w+(vh (Zl J r)).sum,rfl,sb11,by rw[zW];omega,?_⟩⟩
   rw[qB et,zZ]
   exact .snoc _ es w t.pk t.ly r rr trr
  rintro σ H10 ⟨v6,es,w,rfl,sb,el,rr⟩
  rw[trl,jh] at rr
  rw[trl] at el
  have z1:=(rr.counts fun t ht=>by
   obtain⟨x,hx,rfl⟩:=qo.mp ht
   exact tnd x hx).1
  have sHH:=sHG.trans sb.le
  have mp:∀l:List Ev,zv (pOf l)=(l.map fun e=>(e.p:Int)).map V.int:=fun l=>by
   unfold zv pOf
   rw[wu,wu]
   rfl
  obtain⟨exs,hex2,rex⟩:=sb.he
  refine⟨_,rfl,sp,_,rfl,sb.dE,_,rfl,sp,_,rfl,sb.dA,la,(zF ["laid"] es).map fun e=>(e.p:Int),rfl,SqL.of (by rw[sb.ha,mp]),by rw[zp];omega,fun a ls ha pa pw=>?_⟩
  have sb2:=StA.new sb (o:=.lst (ls.map V.int)) ha
  have s11:=ze (o:=.lst (ls.map V.int)) ha
  have ha11:=zb (H:=H10) (a:=a) (o:=.lst (ls.map V.int))
  generalize upd H10 a (.lst (ls.map V.int))=H11 at sb2 s11 ha11 ⊢
  refine⟨_,rfl,sp,_,rfl,sb2.dG,gi,(zF zA es).map fun e=>(e.p:Int),rfl,SqL.of (by rw[sb2.hi,mp]),by rw[zp];omega,fun b gs hb pb pwb=>?_⟩
  have sb3:=StA.new sb2 (o:=.lst (gs.map V.int)) hb
  have s12:=ze (o:=.lst (gs.map V.int)) hb
  have hb12:=zb (H:=H11) (a:=b) (o:=.lst (gs.map V.int))
  generalize upd H11 b (.lst (gs.map V.int))=H12 at sb3 s12 hb12 ⊢
  refine⟨_,rfl,sp,_,rfl,sb3.dF,le4,fun T hT=>?_⟩
  have s13:=ze (H:=H12) (o:=.tup [.ref eo,.ref a,.ref b,.int w]) hT
  have s1:=(s11.trans s12).trans s13
  exact k T eo a b es w ls gs _ (sHH.trans s1) zb ⟨exs,s1 _ _ hex2,rex.same (WX.le.trans s1)⟩ ((s12.trans s13) _ _ ha11) (s13 _ _ hb12) pa pw pb pwb (by omega) rr ((sHH.trans (s11.trans s12)).none hT) ge (sHH.none ha) ((sHH.trans s11).none hb)
end
def zfS(J:Job)(pre:List Ev)(p:Nat)(k:Str)(x y:Int):Prop:=(∃pa,J.ps[p]? =some pa/\k=pa.k/\x=pa.x/\y=pa.y)/\p∉pOf (zF ["laid"] pre)/\∀j:Nat,(∃n,1<=n/\Wk (asI J) n (j:Int) (p:Int))->j∈pOf (zF ["laid"] pre)
inductive Lies(J:Job):List Ev->Prop
 | nil:Lies J []
 | other (es:List Ev) (e:Ev) (h:Lies J es) (n:e.w ≠ "laid"):Lies J (es++[e])
 | laid (es:List Ev) (p:Nat) (k:Str) (x y:Int) (h:Lies J es) (o:zfS J es p k x y):Lies J (es++[.laid p k x y])
theorem Lies.more{J:Job}{es:List Ev}(h:Lies J es):∀{r:List Ev},(∀e∈r,e.w ≠ "laid")->Lies J (es++r):=fun {r}=>by
 refine Ve (C:=fun r:List Ev=>(∀e∈r,Ev.w e≠("laid" : Str))->Lies J (es++r)) (fun _=>by rw[qk];exact h) (fun l a ih hr=>?_) r
 rw[<- jm]
 exact .other _ _ (ih fun e he=>hr e (ji _ he)) (hr a (qH _ qP))
theorem zaM{os L:List Nat}(nd:os.Nodup)(s:L.Sublist os):L.Pairwise fun a b=>os.idxOf a<os.idxOf b:=by
 have:os.Pairwise fun a b=>os.idxOf a<os.idxOf b:=by
  rw[zcL]
  intro i j hi hj hij
  rw[Zs nd (qX hi),Zs nd (qX hj)]
  exact hij
 exact this.sublist s
theorem Wk.cl{J:Job}{L:List Nat}(cl:∀p∈J.as,p.2∈L->p.1∈L):∀{n:Nat} {j p:Int},Wk (asI J) n j p->(∃q∈L,p=(q:Nat))->∃q∈L,j=(q:Nat)
 | 0,_,_,w,h=>by rw[show _=_ from w];exact h
 | n+1,j,p,w,h=>by
  obtain⟨m,hm,w⟩:=w
  obtain⟨q,hq,rfl⟩:=Wk.cl cl w h
  obtain⟨e,he,ee⟩:=qo.mp hm
  have e1:(e.1:Int)=j:=congrArg Prod.fst ee
  have e2:(e.2:Int)=q:=congrArg Prod.snd ee
  exact⟨e.1,cl e he (by rw[show e.2=q by omega];exact hq),e1.symm⟩
theorem za7{J:Job}{os L pre post:List Nat}{p:Nat}(nd:os.Nodup)(s:L.Sublist os)(bo:ByOrd os J.as)(cl:∀p∈J.as,p.2∈L->p.1∈L)(e:L=pre++p::post){j:Nat}(h:∃n,1<=n/\Wk (asI J) n (j:Int) (p:Int)):j∈pre:=by
 obtain⟨n,n1,w⟩:=h
 have rk:∀q∈asI J,rkO os q.1<rkO os q.2:=fun q hq=>by
  obtain⟨x,hx,rfl⟩:=qo.mp hq
  obtain⟨k,l,hkl,e1,e2⟩:=bo x hx
  show os.idxOf ((x.1:Int)).toNat<os.idxOf ((x.2:Int)).toNat
  rw[xn,xn,Zs nd e1,Zs nd e2]
  exact hkl
 have r:=w.rank rk
 obtain⟨q,hq,eq⟩:=Wk.cl cl w ⟨p,by rw[e];simp,rfl⟩
 have eq':j=q:=by omega
 subst eq'
 have lt:os.idxOf j<os.idxOf p:=by
  have:rkO os (j:Int)+n<=rkO os (p:Int):=r
  unfold rkO at this
  rw[xn,xn] at this
  omega
 have pw:=zaM nd s
 rw[e] at hq pw
 rcases zY.mp hq with h1 | h1
 ·exact h1
 ·rcases zS.mp h1 with h2 | h2
  ·subst h2;omega
  ·have:=(List.pairwise_cons.mp (List.pairwise_append.mp pw).2.1).1 j h2
   omega
theorem TryR.end{J:Job}{pa:xo}{p own:Nat}{bs:List Bool}{es:List Ev}{n:Nat}{fnd r:List Ev}(h:TryR J pa p own bs es n fnd r):(∀e∈fnd,e.w ≠ "laid")->(∀e∈r,e.w ≠ "laid")/\((∃f,Ev.picked p f∈r)\/p∈pOf (zF zA r)):=by
 have app:∀{l:List Ev} {x:Ev},(∀e∈l,e.w ≠ "laid")->x.w ≠ "laid" -> ∀e∈l++[x],e.w ≠ "laid" :=fun h1 h2 e he=>by
  rcases zY.mp he with z | z
  ·exact h1 e z
  ·rw[qg.mp z];exact h2
 have giv:∀{l:List Ev} {x:Ev},x.w∈zA->x.p∈pOf (zF zA (l++[x])):=fun hx=>by
  rw[zt,xC hx,j3]
  exact qH _ qP
 induction h with
 | fin fnd=>exact fun hf=>⟨app hf (show("failed" : Str) ≠ "laid" by decide),.inr (giv (x:=.failed p) (show("failed" : Str)∈zA by decide))⟩
 | none n fnd h=>exact fun hf=>⟨app hf (show("none" : Str) ≠ "laid" by decide),.inr (giv (x:=.none p) (show("none" : Str)∈zA by decide))⟩
 | luck n fnd f h g=>exact fun hf=>⟨app hf (show("picked" : Str) ≠ "laid" by decide),.inl ⟨f,qH _ qP⟩⟩
 | miss n fnd f r h g t ih=>exact fun hf=>ih (app hf (show("missed" : Str) ≠ "laid" by decide))
theorem PksR.end{J:Job}{bs:List Bool}{n:Nat}{es:List Ev}{pks:List (Nat×Nat)}{r:List Ev}(h:PksR J bs n es pks r):(∀e∈r,e.w ≠ "laid")/\∀q∈pks,(∃f,Ev.picked q.1 f∈r)\/q.1∈pOf (zF zA r):=by
 induction h with
 | nil=>exact⟨(fun e he=>nomatch he),fun q hq=>nomatch hq⟩
 | snoc pks fnd p own pa r h e g ih=>
  obtain⟨i1,i2⟩:=ih
  have one:(∀e∈r,e.w ≠ "laid")/\((∃f,Ev.picked p f∈r)\/p∈pOf (zF zA r)):=by
   rcases g with ⟨_,rfl⟩ | ⟨_,t⟩
   ·refine⟨fun e he=>by rw[qg.mp he];exact(show("behind" : Str) ≠ "laid" by decide),.inr ?_⟩
    rw[xC (e:=.behind p) (show("behind" : Str)∈zA by decide)]
    exact qP
   ·exact t.end fun e he=>nomatch he
  refine⟨fun x hx=>?_,fun q hq=>?_⟩
  ·rcases zY.mp hx with z | z
   ·exact i1 x z
   ·exact one.1 x z
  ·rw[zt,j3]
   have up:∀{q:Nat} {a b:List Ev},(∃f,Ev.picked q f∈a)\/q∈pOf (zF zA a)->((∃f,Ev.picked q f∈a++b)\/q∈pOf (zF zA a)++pOf (zF zA b)):=fun h=>h.imp (fun ⟨f,hf⟩=>⟨f,ji _ hf⟩) fun h=>ji _ h
   rcases zY.mp hq with z | z
   ·exact up (i2 q z)
   ·rw[qg.mp z]
    exact one.2.imp (fun ⟨f,hf⟩=>⟨f,qH _ hf⟩) fun h=>qH _ h
structure Done(J:Job)(pre:List Nat)(es:List Ev):Prop where
 ls:Lies J es
 al:∀q∈pre,q∈pOf (zF ["laid"] es)\/q∈pOf (zF zA es)
 inn:∀q∈pOf (zF ["laid"] es),q∈pre
theorem Done.picks{J:Job}{pre:List Nat}{es fnd:List Ev}(d:Done J pre es)(h:∀e∈fnd,e.w ≠ "laid"):Done J pre (es++fnd):=by
 have n:zF ["laid"] fnd=[]:=xz fun e he z=>h e he (qg.mp z)
 refine⟨d.ls.more h,fun q hq=>?_,fun q hq=>?_⟩
 ·rw[zt,n,qk,zt,j3]
  exact(d.al q hq).imp id fun z=>ji _ z
 ·rw[zt,n,qk] at hq
  exact d.inn q hq
theorem LysR.done{J:Job}{os L pre:List Nat}{es pk:List Ev}(nd:os.Nodup)(s:L.Sublist os)(bo:ByOrd os J.as)(cl:∀p∈J.as,p.2∈L->p.1∈L)(d:Done J pre es)(hp:∀e∈pk,e.w ≠ "laid"){lys:List Nat}{r:List Ev}(h:LysR J es pk lys r):(∃post,L=pre++lys++post)->(∀q∈lys,(∃f,Ev.picked q f∈pk)\/q∈pOf (zF zA pk))->Done J (pre++lys) (es++r)/\∃t,r=pk++t:=by
 induction h with
 | nil fnd h=>
  intro _ _
  rw[h,qk]
  exact⟨d.picks hp,[],(qk _).symm⟩
 | skip lys fnd p h g ih=>
  rintro⟨post,eL⟩ hq
  obtain⟨i1,t,et⟩:=ih ⟨p::post,by rw[eL];simp⟩ fun q hq'=>hq q (ji _ hq')
  refine⟨?_,t,et⟩
  rw[<- jm]
  refine⟨i1.ls,fun q hq'=>?_,fun q hq'=>ji _ (i1.inn q hq')⟩
  rcases zY.mp hq' with z | z
  ·exact i1.al q z
  ·rw[qg.mp z]
   rcases hq p (qH _ qP) with ⟨f,hf⟩ | hg
   ·exfalso
    have:((zF ["picked"] pk).any fun e=>((e.p:Int)==(p:Int)))=true:=vO.mpr ⟨_,jz.mpr ⟨hf,qv (show("picked" : Str)∈(["picked"]:List Str) by decide)⟩,beq_self_eq_true _⟩
    rw[this] at g
    cases g
   ·rw[et,zt zA es,zt zA pk,j3,j3]
    exact .inr (qH _ (ji _ hg))
 | lay lys fnd p pa e h g ep l ih=>
  rintro⟨post,eL⟩ hq
  obtain⟨i1,t,et⟩:=ih ⟨p::post,by rw[eL];simp⟩ fun q hq'=>hq q (ji _ hq')
  have eL2:L=(pre++lys)++p::post:=by rw[eL];simp
  have ndL:L.Nodup:=s.nodup nd
  have pn:p∉pre++lys:=by
   rw[eL2] at ndL
   exact fun z=>(WL.mp ndL).2.2 p z p qP rfl
  rw[<- jm,<- jm]
  refine⟨?_,t++[e],by rw[et,jm]⟩
  rcases l with ⟨hl,rfl⟩ | ⟨hl,rfl⟩
  ·have hw:(Ev.dropped p).w∈zA:=show("dropped" : Str)∈zA by decide
   have hn:(Ev.dropped p).w∉(["laid"]:List Str):=show("dropped" : Str)∉(["laid"]:List Str) by decide
   refine⟨.other _ _ i1.ls (show("dropped" : Str) ≠ "laid" by decide),fun q hq'=>?_,fun q hq'=>?_⟩
   ·rw[zt _ (es++fnd),jr hn,qk,zt _ (es++fnd),xC hw,j3]
    rcases zY.mp hq' with z | z
    ·exact(i1.al q z).imp id fun z=>ji _ z
    ·rw[qg.mp z]
     exact .inr (qH _ qP)
   ·rw[zt _ (es++fnd),jr hn,qk] at hq'
    exact ji _ (i1.inn q hq')
  ·have hw:(Ev.laid p pa.k pa.x pa.y).w∈(["laid"]:List Str):=show("laid" : Str)∈(["laid"]:List Str) by decide
   have hn:(Ev.laid p pa.k pa.x pa.y).w∉zA:=show("laid" : Str)∉zA by decide
   refine⟨.laid _ _ _ _ _ i1.ls ⟨⟨pa,ep,rfl,rfl,rfl⟩,fun z=>pn (i1.inn p z),fun j hj=>?_⟩,fun q hq'=>?_,fun q hq'=>?_⟩
   ·have jp:=za7 nd s bo cl eL2 hj
    rcases i1.al j jp with z | z
    ·exact z
    ·exfalso
     obtain⟨x,hx,rfl⟩:=qo.mp z
     obtain⟨n,n1,w⟩:=hj
     exact hl ⟨x,hx,fun z=>pn (by rw[<- show x.p=p by omega];exact jp),n,w⟩
   ·rw[zt _ (es++fnd),xC hw,j3,zt _ (es++fnd),jr hn,qk]
    rcases zY.mp hq' with z | z
    ·exact(i1.al q z).imp (fun z=>ji _ z) id
    ·rw[qg.mp z]
     exact .inl (qH _ qP)
   ·rw[zt _ (es++fnd),xC hw,j3] at hq'
    rcases zY.mp hq' with z | z
    ·exact ji _ (i1.inn q z)
    ·rw[qg.mp z]
     exact qH _ qP
theorem RunR.done{J:Job}{os L:List Nat}(nd:os.Nodup)(s:L.Sublist os)(bo:ByOrd os J.as)(cl:∀p∈J.as,p.2∈L->p.1∈L){bs:List Bool}{n:Nat}{tt:List (List (Nat×Nat)×List Nat)}{es:List Ev}{w:Int}(h:RunR J bs n tt es w):(∃post,L=tt.flatMap (·.2)++post)->(∀t∈tt,t.2.Perm (t.1.map (·.1)))->Done J (tt.flatMap (·.2)) es:=by
 induction h with
 | nil=>exact fun _ _=>⟨.nil,(fun q hq=>nomatch hq),fun q hq=>nomatch hq⟩
 | snoc ts es w pks lys r h t ih=>
  rintro⟨post,eL⟩ hp
  rw[XC] at eL ⊢
  have e1:[(pks,lys)].flatMap (·.2)=lys:=qk _
  rw[e1] at eL ⊢
  have i1:=ih ⟨lys++post,by rw[eL,jm]⟩ fun t ht=>hp t (ji _ ht)
  obtain⟨fnd,a,b⟩:=t
  obtain⟨a1,a2⟩:=a.end
  refine(b.done nd s bo cl i1 a1 ⟨post,eL⟩ fun q hq=>?_).1
  have pm:lys.Perm (pks.map (·.1)):=hp (pks,lys) (qH _ qP)
  obtain⟨x,hx,rfl⟩:=qo.mp (pm.mem_iff.mp hq)
  exact a2 x hx
structure GE where
 w:Str
 p:Int
 r:List Dat
def geD(e:GE):Dat:=.tup (.str e.w::.int e.p::e.r)
def evG(e:Ev):GE:=⟨e.w,e.p,e.r⟩
def Vn(pa:xo):List Dat:=[.str pa.k,.tup [.int pa.x,.int pa.y]]
structure yg(J:Job)(met:List Int)(e:GE):Prop where
 p0:0<=e.p
 p1:e.p<J.ps.length
 nw:e.p∉met
 rt:∃pa,J.ps[e.p.toNat]? =some pa/\e.r=Vn pa
 ab:∀j,(∃n,1<=n/\Wk (asI J) n j e.p)->j∈met
open Classical in
noncomputable def goS (J:Job) (o:Option (List Int)) (e:GE):Option (List Int):=o.bind fun met=>if e.w=("laid" : Str) then(if yg J met e then some (met++[e.p]) else none) else some met
theorem Qq{J:Job}{met:List Int}{e:GE}(h:e.w≠("laid" : Str)):goS J (some met) e=some met:=by
 unfold goS
 show(if e.w=("laid" : Str) then _ else _)=_
 rw[zq h]
open Classical in
theorem Xe{J:Job}{met:List Int}{e:GE}(h:e.w=("laid" : Str))(l:yg J met e):goS J (some met) e=some (met++[e.p]):=by
 unfold goS
 show(if e.w=("laid" : Str) then(if yg J met e then _ else _) else _)=_
 rw[zx h,zx l]
open Classical in
theorem zcp{J:Job}{met:List Int}{e:GE}(h:e.w=("laid" : Str))(l:¬yg J met e):goS J (some met) e=none:=by
 unfold goS
 show(if e.w=("laid" : Str) then(if yg J met e then _ else _) else _)=_
 rw[zx h,zq l]
noncomputable def ZC (J:Job) (es:List GE):Bool:=(es.foldl (goS J) (some [])).isSome
theorem Y2(J:Job):∀es:List GE,es.foldl (goS J) none=none
 | []=>rfl
 | e::es=>Y2 J es
theorem Zu(J:Job):∀(es:List GE) (o:Option (List Int)),(es.filter fun e:GE=>decide (e.w=("laid" : Str))).foldl (goS J) o=es.foldl (goS J) o
 | [],_=>rfl
 | e::es,o=>by
  by_cases c:e.w=("laid" : Str)
  ·rw[QK (by exact qv c)]
   exact Zu J es _
  ·rw[QJ (by rw[jT];exact c),Zu J es o,Xu]
   congr 1
   cases o with
   | none=>rfl
   | some met=>exact(Qq c).symm
theorem zdG{J:Job}{ord:List Nat}(jo:JobOk J ord){es:List Ev}(h:Lies J es):(es.map evG).foldl (goS J) (some [])=some (nI (pOf (zF ["laid"] es))):=by
 induction h with
 | nil=>rfl
 | other es e h n ih=>
  rw[zZ,QP,ih,zt,jr (fun z=>n (qg.mp z)),qk,jJ,yu,Xu,List.foldl_nil]
  exact Qq n
 | laid es p k x y h o ih=>
  obtain⟨⟨pa,e1,e2,e3,e4⟩,o2,o3⟩:=o
  have pl:=(zQ.mp e1).1
  have hl:yg J (nI (pOf (zF ["laid"] es))) (evG (.laid p k x y)):=by
   refine⟨(by show(0:Int)<=(p:Int);omega),(by show(p:Int)<_;omega),fun z=>?_,⟨pa,(by show J.ps[((p:Int)).toNat]? =_;rw[xn];exact e1),(by rw[e2,e3,e4];rfl)⟩,fun j hj=>?_⟩
   ·obtain⟨q,hq,eq⟩:=qo.mp z
    have eq':(q:Int)=(p:Int):=eq
    exact o2 (by rw[<- show q=p by omega];exact hq)
   ·obtain⟨n,n1,w⟩:=hj
    have hin:=Wk.in1 jo.jsm.as n1 w
    have h0:=hin.1
    have ej:((j.toNat:Nat):Int)=j:=by omega
    have:=o3 j.toNat ⟨n,n1,by rw[ej];exact w⟩
    exact qo.mpr ⟨_,this,ej⟩
  rw[zZ,QP,ih,zt,xC (e:=.laid p k x y) (show("laid" : Str)∈(["laid"]:List Str) by decide),j3,jJ,yu,Xu,List.foldl_nil,Xe rfl hl]
  unfold nI
  rw[zZ]
  rfl
end L2
namespace L2
open PySem PySem.Spec PyProof.Rows
mutual
def Dat.gd(k:Nat):Dat->Bool
 | .int i=>decide (i.natAbs<=10000000000+k)
 | .str x=>x.cps.toList.all fun c=>decide (c<1000000)
 | .lst ds=>Dat.gds k ds
 | .tup ds=>Dat.gds k ds
 | _=>true
def Dat.gds(k:Nat):List Dat->Bool
 | []=>true
 | d::ds=>d.gd k&&Dat.gds k ds
end
mutual
theorem Dat.gd_up{k m:Nat}(h:k<=m):∀{d:Dat},d.gd k=true->d.gd m=true
 | .int i,e=>qv (by have:=jA (p:=i.natAbs<=10000000000+k) e;omega)
 | .str _,e=>e
 | .lst ds,e=>Dat.gds_up h (ds:=ds) e
 | .tup ds,e=>Dat.gds_up h (ds:=ds) e
 | .non,_=>rfl
 | .bl _,_=>rfl
theorem Dat.gds_up{k m:Nat}(h:k<=m):∀{ds:List Dat},Dat.gds k ds=true->Dat.gds m ds=true
 | [],_=>rfl
 | d::ds,e=>by
  have e':(d.gd k&&Dat.gds k ds)=true:=e
  rw[jk] at e'
  show(d.gd m&&Dat.gds m ds)=true
  rw[Dat.gd_up h e'.1,Dat.gds_up h e'.2];rfl
end
mutual
theorem Dat.gd_shw{k:Nat}(h:k<=1000):∀{d:Dat},d.gd k=true->d.shw=true
 | .int i,e=>qv (by have:=jA (p:=i.natAbs<=10000000000+k) e;omega)
 | .str _,e=>e
 | .lst ds,e=>Dat.gds_shw h (ds:=ds) e
 | .tup ds,e=>Dat.gds_shw h (ds:=ds) e
 | .non,_=>rfl
 | .bl _,_=>rfl
theorem Dat.gds_shw{k:Nat}(h:k<=1000):∀{ds:List Dat},Dat.gds k ds=true->Dat.shws ds=true
 | [],_=>rfl
 | d::ds,e=>by
  have e':(d.gd k&&Dat.gds k ds)=true:=e
  rw[jk] at e'
  show(d.shw&&Dat.shws ds)=true
  rw[Dat.gd_shw h e'.1,Dat.gds_shw h e'.2];rfl
end
structure GdD(k z D:Nat)(d:Dat):Prop where
 g:d.gd k=true
 b:d.blk<=z
 p:d.py.depth<=D
theorem GdD.up{k z D k' z' D':Nat}{d:Dat}(h:GdD k z D d)(h1:k<=k')(h2:z<=z')(h3:D<=D'):GdD k' z' D' d:=⟨Dat.gd_up h1 h.g,jj h.b h2,jj h.p h3⟩
section
variable{P:Program}{w:World}{K:PySem.W.Frag}{mg:Str->Option Value}{base:Heap}
def DS(K:PySem.W.Frag)(F:Hp)(k z D:Nat)(v:V):Prop:=∃d,Rep K F d v/\GdD k z D d
theorem DS.up{F F':Hp}{k z D k' z' D':Nat}{v:V}(h:DS K F k z D v)(s:Same F F')(h1:k<=k')(h2:z<=z')(h3:D<=D'):DS K F' k' z' D' v:=let ⟨d,r,g⟩:=h;⟨d,r.same s,g.up h1 h2 h3⟩
theorem yG{F:Hp}{k z D:Nat}:∀{xs:List V},(∀x∈xs,DS K F k z D x)->∃ds,Reps K F ds xs/\Dat.gds k ds=true/\Dat.blks ds<=(z+1)*xs.length/\PyData.depthAll (Dat.pys ds)<=D
 | [],_=>⟨[],rfl,rfl,qu _,qu _⟩
 | x::xs,h=>by
  obtain⟨d,r,g⟩:=h x (by simp)
  obtain⟨ds,r',g',b',p'⟩:=yG (xs:=xs) fun y hy=>h y (qV _ hy)
  refine⟨d::ds,⟨x,xs,rfl,r,r'⟩,?_,?_,?_⟩
  ·show(d.gd k&&Dat.gds k ds)=true
   rw[g.g,g'];rfl
  ·show d.blk+1+Dat.blks ds<=_
   have:=g.b
   rw[qU,Nat.mul_succ]
   omega
  ·show max d.py.depth (PyData.depthAll (Dat.pys ds))<=D
   have:=g.p
   omega
theorem DS.lst{F:Hp}{k z D z':Nat}{a:Addr}{xs:List V}(h:SqL K F a xs)(all:∀x∈xs,DS K F k z D x)(hz:(z+1)*xs.length<=z'):DS K F k z' (D+1) (.ref a):=by
 obtain⟨ds,r,g,b,p⟩:=yG all
 refine⟨.lst ds,⟨a,xs,rfl,h,r⟩,g,jj b hz,?_⟩
 show PyData.depth (.list (Dat.pys ds))<=_
 simp only[PyData.depth]
 omega
theorem DS.tup{F:Hp}{k z D z':Nat}{a:Addr}{xs:List V}(h:SqT K F a xs)(all:∀x∈xs,DS K F k z D x)(hz:(z+1)*xs.length<=z'):DS K F k z' (D+1) (.ref a):=by
 obtain⟨ds,r,g,b,p⟩:=yG all
 refine⟨.tup ds,⟨a,xs,rfl,h,r⟩,g,jj b hz,?_⟩
 show PyData.depth (.tuple (Dat.pys ds))<=_
 simp only[PyData.depth]
 omega
theorem zd7{F:Hp}{k z D:Nat}:∀{ds:List Dat} {xs:List V},Reps K F ds xs->Dat.gds k ds=true->Dat.blks ds<=z->PyData.depthAll (Dat.pys ds)<=D->xs.length<=z/\∀x∈xs,DS K F k (z-1) D x
 | [],_,h,_,_,_=>by rw[show _=_ from h];exact⟨qu _,fun x hx=>nomatch hx⟩
 | d::ds,_,h,g,b,p=>by
  obtain⟨v,r,e,h1,h2⟩:=h
  subst e
  have g':(d.gd k&&Dat.gds k ds)=true:=g
  rw[jk] at g'
  have b':d.blk+1+Dat.blks ds<=z:=b
  have p':max d.py.depth (PyData.depthAll (Dat.pys ds))<=D:=p
  obtain⟨l,al⟩:=zd7 (z:=z-1) (k:=k) (D:=D) h2 g'.2 (by omega) (by omega)
  refine⟨by rw[qU];omega,fun x hx=>?_⟩
  rcases zS.mp hx with q | q
  ·rw[q];exact⟨d,h1,g'.1,by omega,by omega⟩
  ·exact(al x q).up (Same.refl _) (zG _) (by omega) (zG _)
theorem SqQ.same{H H':Hp}{t:Bool}{a:Addr}{xs:List V}(h:SqQ K H t a xs)(s:Same H H'):SqQ K H' t a xs:=by
 cases t with
 | true=>exact s.sqT h
 | false=>exact s.seq h
theorem SqQ.or{H:Hp}{t:Bool}{a:Addr}{xs:List V}(h:SqQ K H t a xs):SqL K H a xs\/SqT K H a xs:=by
 cases t with
 | true=>exact .inr h
 | false=>exact .inl h
def tyQ(t:Bool):String:=if t=true then "tuple" else "list"
theorem SqQ.ty{H:Hp}{t:Bool}{a:Addr}{xs:List V}(h:SqQ K H t a xs):TyN K H (.ref a) (tyQ t):=by
 cases t with
 | true=>exact .inr ⟨rfl,xs,h⟩
 | false=>exact .inl ⟨rfl,xs,h⟩
theorem DS.split{F:Hp}{k z D:Nat}{v:V}(h:DS K F k z D v):v=.non\/(∃c,v=.bl c)\/(∃i:Int,v=.int i/\i.natAbs<=10000000000+k)\/(∃x:Str,v=.str x)\/∃(a:Addr) (t:Bool) (xs:List V),v=.ref a/\SqQ K F t a xs/\xs.length<=z/\1<=D/\∀x∈xs,DS K F k (z-1) (D-1) x:=by
 obtain⟨d,r,g,b,p⟩:=h
 cases d with
 | non=>exact .inl r
 | bl c=>exact .inr (.inl ⟨c,r⟩)
 | int i=>exact .inr (.inr (.inl ⟨i,r,jA g⟩))
 | str x=>exact .inr (.inr (.inr (.inl ⟨x,r⟩)))
 | lst ds=>
  obtain⟨a,xs,e,q,rs⟩:=r
  have p':PyData.depth (.list (Dat.pys ds))<=D:=p
  simp only[PyData.depth] at p'
  obtain⟨l,al⟩:=zd7 (z:=z) (D:=D-1) rs g b (by omega)
  exact .inr (.inr (.inr (.inr ⟨a,false,xs,e,q,l,by omega,al⟩)))
 | tup ds=>
  obtain⟨a,xs,e,q,rs⟩:=r
  have p':PyData.depth (.tuple (Dat.pys ds))<=D:=p
  simp only[PyData.depth] at p'
  obtain⟨l,al⟩:=zd7 (z:=z) (D:=D-1) rs g b (by omega)
  exact .inr (.inr (.inr (.inr ⟨a,true,xs,e,q,l,by omega,al⟩)))
theorem zfA{k:Nat}{i:Int}(h:i.natAbs<=10000000000+k)(z D:Nat):GdD k z D (.int i):=⟨qv h,qu _,by show PyData.depth (.int i)<=_;simp[PyData.depth]⟩
theorem DS.non{F:Hp}{k z D:Nat}:DS K F k z D .non:=⟨.non,rfl,rfl,qu _,by show PyData.depth .none<=_;simp[PyData.depth]⟩
theorem DS.bl{F:Hp}{k z D:Nat}(b:Bool):DS K F k z D (.bl b):=⟨.bl b,rfl,rfl,qu _,by show PyData.depth (.bool b)<=_;simp[PyData.depth]⟩
theorem DS.int{F:Hp}{k z D:Nat}{i:Int}(h:i.natAbs<=10000000000+k):DS K F k z D (.int i):=⟨.int i,rfl,zfA h z D⟩
theorem DS.str{F:Hp}{k z D:Nat}{x:Str}(h:x.length<=z)(hc:∀c∈x.cps.toList,c<1000000):DS K F k z D (.str x):=⟨.str x,rfl,xM.mpr fun c hc'=>qv (hc c hc'),h,by show PyData.depth (.str x)<=_;simp[PyData.depth]⟩
end
structure Ex(H:Hp)(b:Addr)(ex:List Addr):Prop where
 mem:b∈ex
 al:∀e∈ex,∃o,H e=some o
theorem Ex.next{H H':Hp}{b:Addr}{ex:List Addr}{m:Int}(h:Ex H b ex)(s:SameB b H H')(B:BoxAt H' b m):Ex H' b ex:=⟨h.mem,fun e he=>by
 by_cases z:e=b
 ·rw[z];exact B.some
 ·obtain⟨o,q⟩:=h.al e he
  exact⟨o,s e o q z⟩⟩
theorem Ex.same{H H':Hp}{b:Addr}{ex:List Addr}(h:Ex H b ex)(s:Same H H'):Ex H' b ex:=⟨h.mem,fun e he=>let ⟨o,q⟩:=h.al e he;⟨o,s e o q⟩⟩
theorem Ex.out{H:Hp}{b p:Addr}{ex:List Addr}(h:Ex H b ex)(hp:H p=none):p∉ex:=fun z=>by
 obtain⟨o,q⟩:=h.al p z
 rw[hp] at q;cases q
theorem Ex.cons{H:Hp}{b m:Addr}{o:HO}{ex:List Addr}(h:Ex H b ex)(hm:H m=some o):Ex H b (m::ex):=⟨qV _ h.mem,fun e he=>(zS.mp he).elim (fun z=>⟨o,by rw[z];exact hm⟩) (h.al e)⟩
theorem Ex.put{H:Hp}{b m:Addr}{o:HO}{ex:List Addr}(h:Ex H b ex):Ex (upd H m o) b ex:=⟨h.mem,fun e he=>by
 by_cases z:e=m
 ·rw[z];exact⟨o,zb⟩
 ·rw[zi z];exact h.al e he⟩
theorem WX.draw{ex:List Addr}{H H':Hp}{b:Addr}(h:b∈ex)(s:SameB b H H'):Same (WX ex H) (WX ex H'):=fun c u e=>by
 unfold WX at e ⊢
 split at e
 ·cases e
 ·rename_i hc
  rw[zq hc]
  exact s c u e (fun z=>hc (by rw[z];exact h))
section
variable{P:Program}{w:World}{K:PySem.W.Frag}{mg:Str->Option Value}{base:Heap}
theorem Reps.set{H:Hp}:∀{ds:List Dat} {xs:List V} {i:Nat} {d:Dat} {v:V},Reps K H ds xs->Rep K H d v->Reps K H (ds.set i d) (xs.set i v)
 | [],_,_,_,_,h,_=>by rw[show _=_ from h];exact rfl
 | a::ds,_,0,d,v,h,h'=>by
  obtain⟨x,r,e,_,h2⟩:=h
  subst e
  exact⟨v,r,rfl,h',h2⟩
 | a::ds,_,i+1,d,v,h,h'=>by
  obtain⟨x,r,e,h1,h2⟩:=h
  subst e
  exact⟨x,r.set i v,rfl,h1,Reps.set h2 h'⟩
end
theorem QC:∀a b:List Dat,Dat.blks (a++b)=Dat.blks a+Dat.blks b
 | [],b=>by show Dat.blks b=0+Dat.blks b;omega
 | d::a,b=>by
  have:=QC a b
  show d.blk+1+Dat.blks (a++b)=d.blk+1+Dat.blks a+Dat.blks b
  omega
theorem Y3{k:Nat}:∀{a b:List Dat},Dat.gds k a=true->Dat.gds k b=true->Dat.gds k (a++b)=true
 | [],_,_,h=>h
 | d::a,b,h,h'=>by
  have e:(d.gd k&&Dat.gds k a)=true:=h
  rw[jk] at e
  show(d.gd k&&Dat.gds k (a++b))=true
  rw[e.1,Y3 e.2 h'];rfl
theorem JA{k:Nat}:∀{a b:List Dat},Dat.gds k (a++b)=true->Dat.gds k a=true/\Dat.gds k b=true
 | [],_,h=>⟨rfl,h⟩
 | d::a,b,h=>by
  have e:(d.gd k&&Dat.gds k (a++b))=true:=h
  rw[jk] at e
  obtain⟨h1,h2⟩:=JA e.2
  refine⟨?_,h2⟩
  show(d.gd k&&Dat.gds k a)=true
  rw[e.1,h1];rfl
theorem Qu:∀a b:List Dat,PyData.depthAll (Dat.pys (a++b))=max (PyData.depthAll (Dat.pys a)) (PyData.depthAll (Dat.pys b))
 | [],b=>by show PyData.depthAll (Dat.pys b)=max 0 (PyData.depthAll (Dat.pys b));omega
 | d::a,b=>by
  have:=Qu a b
  show max d.py.depth (PyData.depthAll (Dat.pys (a++b)))=max (max d.py.depth (PyData.depthAll (Dat.pys a))) (PyData.depthAll (Dat.pys b))
  omega
section
variable{P:Program}{w:World}{K:PySem.W.Frag}{mg:Str->Option Value}{base:Heap}
def GL(K:PySem.W.Frag)(F:Hp)(k z D:Nat)(xs:List V):Prop:=∃ds,Reps K F ds xs/\Dat.gds k ds=true/\Dat.blks ds<=z/\PyData.depthAll (Dat.pys ds)<=D
theorem GL.up{F F':Hp}{k z D k' z' D':Nat}{xs:List V}(h:GL K F k z D xs)(s:Same F F')(h1:k<=k')(h2:z<=z')(h3:D<=D'):GL K F' k' z' D' xs:=let ⟨ds,r,g,b,p⟩:=h;⟨ds,r.same s,Dat.gds_up h1 g,jj b h2,jj p h3⟩
theorem Reps.parts{H:Hp}:∀{ds:List Dat} {xs ys:List V},Reps K H ds (xs++ys)->∃d1 d2,ds=d1++d2/\Reps K H d1 xs/\Reps K H d2 ys
 | ds,[],ys,h=>⟨[],ds,rfl,rfl,h⟩
 | [],x::xs,ys,h=>by cases(show x::(xs++ys)=[] from h)
 | d::ds,x::xs,ys,h=>by
  obtain⟨v,r,e,h1,h2⟩:=h
  cases e
  obtain⟨d1,d2,rfl,r1,r2⟩:=Reps.parts (xs:=xs) (ys:=ys) h2
  exact⟨d::d1,d2,rfl,⟨_,_,rfl,h1,r1⟩,r2⟩
theorem GL.parts{F:Hp}{k z D:Nat}{xs ys:List V}(h:GL K F k z D (xs++ys)):∃z1 z2,z1+z2=z/\GL K F k z1 D xs/\GL K F k z2 D ys:=by
 obtain⟨ds,r,g,b,p⟩:=h
 obtain⟨d1,d2,rfl,r1,r2⟩:=Reps.parts r
 obtain⟨g1,g2⟩:=JA g
 rw[QC] at b
 rw[Qu] at p
 exact⟨Dat.blks d1,z-Dat.blks d1,by omega,⟨d1,r1,g1,zG _,by omega⟩,⟨d2,r2,g2,by omega,by omega⟩⟩
theorem GL.app{F:Hp}{k z1 z2 D:Nat}{xs ys:List V}(h:GL K F k z1 D xs)(h':GL K F k z2 D ys):GL K F k (z1+z2) D (xs++ys):=by
 obtain⟨d1,r1,g1,b1,p1⟩:=h
 obtain⟨d2,r2,g2,b2,p2⟩:=h'
 exact⟨d1++d2,Reps.app r1 r2,Y3 g1 g2,by rw[QC];omega,by rw[Qu];omega⟩
theorem GL.one{F:Hp}{k z D:Nat}{v:V}(h:DS K F k z D v):GL K F k (z+1) D [v]:=by
 obtain⟨d,r,g,b,p⟩:=h
 refine⟨[d],⟨v,[],rfl,r,rfl⟩,?_,?_,?_⟩
 ·show(d.gd k&&true)=true
  rw[g];rfl
 ·show d.blk+1+0<=_
  omega
 ·show max d.py.depth 0<=D
  omega
theorem GL.nil{F:Hp}{k z D:Nat}:GL K F k z D []:=⟨[],rfl,rfl,qu _,qu _⟩
theorem GL.take{F:Hp}{k z D:Nat}{xs:List V}(n:Nat)(h:GL K F k z D xs):GL K F k z D (xs.take n):=by
 rw[<- XH n xs] at h
 obtain⟨z1,z2,e,h1,_⟩:=h.parts
 exact h1.up (Same.refl _) (zG _) (by omega) (zG _)
theorem GL.drop{F:Hp}{k z D:Nat}{xs:List V}(n:Nat)(h:GL K F k z D xs):GL K F k z D (xs.drop n):=by
 rw[<- XH n xs] at h
 obtain⟨z1,z2,e,_,h2⟩:=h.parts
 exact h2.up (Same.refl _) (zG _) (by omega) (zG _)
theorem GL.cut{F:Hp}{k z D:Nat}{xs:List V}(lo hi:Option Int)(h:GL K F k z D xs):GL K F k z D (jN xs lo hi):=by
 unfold jN
 first| exact(h.drop _).take _ | exact(h.take _).drop _
theorem GL.lst{F:Hp}{k z D:Nat}{a:Addr}{xs:List V}(q:SqL K F a xs)(h:GL K F k z D xs):DS K F k z (D+1) (.ref a):=by
 obtain⟨ds,r,g,b,p⟩:=h
 refine⟨.lst ds,⟨a,xs,rfl,q,r⟩,g,b,?_⟩
 show PyData.depth (.list (Dat.pys ds))<=_
 simp only[PyData.depth]
 omega
theorem GL.tup{F:Hp}{k z D:Nat}{a:Addr}{xs:List V}(q:SqT K F a xs)(h:GL K F k z D xs):DS K F k z (D+1) (.ref a):=by
 obtain⟨ds,r,g,b,p⟩:=h
 refine⟨.tup ds,⟨a,xs,rfl,q,r⟩,g,b,?_⟩
 show PyData.depth (.tuple (Dat.pys ds))<=_
 simp only[PyData.depth]
 omega
theorem GL.all{F:Hp}{k z D:Nat}{xs:List V}(h:GL K F k z D xs):xs.length<=z/\∀x∈xs,DS K F k z D x:=by
 obtain⟨ds,r,g,b,p⟩:=h
 obtain⟨l,al⟩:=zd7 r g b p
 exact⟨l,fun x hx=>(al x hx).up (Same.refl _) (zG _) (by omega) (zG _)⟩
theorem GL.some{F:Hp}{k z D:Nat}{xs zs:List V}(h:GL K F k z D xs)(m:∀y∈zs,y∈xs):GL K F k ((z+1)*zs.length) D zs:=yG fun y hy=>h.all.2 y (m y hy)
theorem GL.rev{F:Hp}{k z D:Nat}:∀{xs:List V},GL K F k z D xs->GL K F k z D xs.reverse:=by
 intro xs
 induction xs generalizing z with
 | nil=>exact id
 | cons x xs ih=>
  intro h
  obtain⟨z1,z2,e,h1,h2⟩:=GL.parts (xs:=[x]) (ys:=xs) h
  rw[XA]
  exact((ih h2).app h1).up (Same.refl _) (zG _) (by omega) (zG _)
end
def Qo:Dat->Bool
 | .int _=>true
 | _=>false
def wm:Dat->Bool
 | .bl _=>true
 | _=>false
theorem zc1(d:Dat):j5 d.tyN "int" = (Qo d||wm d):=by
 cases d with
 | non=>exact(by decide:j5 "NoneType" "int" = false)
 | bl _=>exact(by decide:j5 "bool" "int" = true)
 | int _=>exact(by decide:j5 "int" "int" = true)
 | str _=>exact(by decide:j5 "str" "int" = false)
 | lst _=>exact(by decide:j5 "list" "int" = false)
 | tup _=>exact(by decide:j5 "tuple" "int" = false)
theorem Z6(d:Dat):j5 d.tyN "bool" = wm d:=by
 cases d with
 | non=>exact(by decide:j5 "NoneType" "bool" = false)
 | bl _=>exact(by decide:j5 "bool" "bool" = true)
 | int _=>exact(by decide:j5 "int" "bool" = false)
 | str _=>exact(by decide:j5 "str" "bool" = false)
 | lst _=>exact(by decide:j5 "list" "bool" = false)
 | tup _=>exact(by decide:j5 "tuple" "bool" = false)
theorem zft(d:Dat):(if(Qo d||wm d)=true then !wm d else(Qo d||wm d))=Qo d:=by cases d<;>rfl
def yC(lo hi:Int):Dat->Bool
 | .int i=>decide (lo<=i)&&decide (i<=hi)
 | _=>false
section
variable{P:Program}{w:World}{K:PySem.W.Frag}{mg:Str->Option Value}{base:Heap}
inductive Yp(K:PySem.W.Frag)(vs:List V)(H:Hp)(Q:VK):Prop
 | mk (v:V) (d:Dat) (_:vs=[v]) (_:Rep K H d v) (_:Q (.bl (Qo d)) H):Yp K vs H Q
def zef(K:PySem.W.Frag):Sp:=fun vs H Q _=>Yp K vs H Q
theorem zeq:zK ["thing"] ["thing"] (zu (topL 1)):=⟨rfl,rfl,rfl,by decide +kernel,rfl,by decide +kernel,by decide +kernel⟩
theorem zfo{f:Addr}{fd:FuncData}(F:Fun K "is_number" "is_number" (topL 1) f fd)(B:Blt mg):FnOk P w K mg base CX0 1 f fd ["thing"] (zef K):=by
 have nd:=zeq.nd
 refine F.ok zeq (fun vs H Q E h=>?_) (fun cdv A outer s H vs Q E hr h=>?_)
 ·obtain⟨v,d,rfl,_⟩:=h
  rfl
 ·obtain⟨v,d,rfl,rd,k⟩:=h
  refine⟨_,(zm (zH (xW (zo qS rfl B.isinstance boot_isinstance (za (pv 0) (za (qQ (v:=.ty "int") rfl B.int vq rfl) zd))) (xV (zfc (zo qS rfl B.isinstance boot_isinstance (za (pv 0) (za (qQ (v:=.ty "bool") rfl B.bool vt rfl) zd)))))))),?_⟩
  refine⟨_,rfl,v,d.tyN, "int",rfl,rd.ty,(by decide),?_⟩
  rw[zc1]
  rw[<- zft d] at k
  refine⟨_,rfl,jD (fun c=>?_) (fun c=>?_)⟩
  ·rw[zx c] at k
   refine⟨_,rfl,v,d.tyN, "bool",rfl,rd.ty,(by decide),?_⟩
   rw[Z6]
   exact⟨_,rfl,k⟩
  ·rw[zq c,(Xw _).mp c] at k
   exact k
inductive X0(K:PySem.W.Frag)(vs:List V)(H:Hp)(Q:VK):Prop
 | mk (v:V) (d:Dat) (lo hi:Int) (_:vs=[v,.int lo,.int hi]) (_:Rep K H d v) (_:Q (.bl (yC lo hi d)) H):X0 K vs H Q
def zbj(K:PySem.W.Frag):Sp:=fun vs H Q _=>X0 K vs H Q
theorem zgb:zK ["thing", "least", "most"] ["thing", "least", "most"] (zu (topL 2)):=⟨rfl,rfl,rfl,by decide +kernel,rfl,by decide +kernel,by decide +kernel⟩
theorem zgv{f:Addr}{fd:FuncData}(F:Fun K "is_number_within" "is_number_within" (topL 2) f fd)(B:Blt mg)(Dis_number:Dfn P w K mg base "is_number" 1 ["thing"] (zef K)):FnOk P w K mg base CX0 2 f fd ["thing", "least", "most"] (zbj K):=by
 have nd:=zgb.nd
 refine F.ok zgb (fun vs H Q E h=>?_) (fun cdv A outer s H vs Q E hr h=>?_)
 ·obtain⟨v,d,lo,hi,rfl,_⟩:=h
  rfl
 ·obtain⟨v,d,lo,hi,rfl,rd,k⟩:=h
  refine⟨_,(zm (zH (xW (zk Dis_number (hr.mono (by decide)) rfl (za (pv 0) zd)) (xV (zbX zb0 zb0 (pv 1) (pv 0) (pv 2)))))),?_⟩
  refine⟨_,rfl,v,d,rfl,rd,_,rfl,jD (fun c1=>?_) (fun c1=>?_)⟩
  ·obtain⟨i,rfl⟩:∃i,d=.int i:=by cases d<;>first| exact⟨_,rfl⟩ | cases c1
   cases(show v=.int i from rd)
   refine⟨_,rfl,_,rfl,_,_,rfl,rfl,_,rfl,jD (fun c2=>⟨_,rfl,_,_,rfl,rfl,?_⟩) (fun c2=>?_)⟩
   ·rw[show yC lo hi (.int i)=decide (i<=hi) by
     show(decide (lo<=i)&&decide (i<=hi))=_
     rw[c2];rfl] at k
    exact k
   ·rw[show yC lo hi (.int i)=false by
     show(decide (lo<=i)&&decide (i<=hi))=_
     rw[(Xw _).mp c2];rfl] at k
    exact k
  ·rw[show yC lo hi d=false by cases d<;>first| rfl | exact absurd rfl c1] at k
   exact k
end
mutual
def eqD:Dat->Dat->Bool
 | .non,.non=>true
 | .bl a,.bl b=>a==b
 | .int a,.int b=>a==b
 | .str a,.str b=>a==b
 | .lst a,.lst b=>eqDs a b
 | .tup a,.tup b=>eqDs a b
 | _,_=>false
def eqDs:List Dat->List Dat->Bool
 | [],[]=>true
 | a::as,b::bs=>eqD a b&&eqDs as bs
 | _,_=>false
end
theorem VJ:∀{as bs:List Dat},as.length=bs.length->((as.zip bs).map fun p=>eqD p.1 p.2).all id=eqDs as bs
 | [],[],_=>by unfold eqDs;rfl
 | a::as,b::bs,h=>by
  unfold eqDs
  rw[<- VJ (as:=as) (bs:=bs) (Nat.succ.inj h)]
  rfl
theorem VL:∀{as bs:List Dat},as.length≠bs.length->eqDs as bs=false
 | [],[],h=>absurd rfl h
 | [],b::bs,_=>by unfold eqDs;rfl
 | a::as,[],_=>by unfold eqDs;rfl
 | a::as,b::bs,h=>by
  unfold eqDs
  rw[VL (as:=as) (bs:=bs) fun z=>h (congrArg Nat.succ z),WG]
def mkQ(t:Bool)(ds:List Dat):Dat:=if t=true then .tup ds else .lst ds
theorem zc0{α β:Type}{as:List α}{bs:List β}{i:Nat}{a:α}{b:β}(h1:as[i]? =some a)(h2:bs[i]? =some b):(as.zip bs)[i]? =some (a,b):=by
 rw[W3]
 exact⟨h1,h2⟩
section
variable{P:Program}{w:World}{K:PySem.W.Frag}{mg:Str->Option Value}{base:Heap}
inductive Spl(K:PySem.W.Frag)(H:Hp):Dat->V->Prop
 | sc (d:Dat) (v:V) (h:Rep K H d v) (f:jQ v=true) (n:j5 d.tyN "list" = false) (m:j5 d.tyN "tuple" = false):Spl K H d v
 | row (t:Bool) (a:Addr) (xs:List V) (ds:List Dat) (h:SqQ K H t a xs) (r:Reps K H ds xs):Spl K H (mkQ t ds) (.ref a)
theorem J2{H:Hp}{d:Dat}{v:V}(h:Rep K H d v):Spl K H d v:=by
 cases d with
 | non=>cases(show v=_ from h);exact .sc _ _ h rfl (by decide) (by decide)
 | bl b=>cases(show v=_ from h);exact .sc _ _ h rfl (show j5 "bool" "list" = false by decide) (show j5 "bool" "tuple" = false by decide)
 | int i=>cases(show v=_ from h);exact .sc _ _ h rfl (show j5 "int" "list" = false by decide) (show j5 "int" "tuple" = false by decide)
 | str x=>cases(show v=_ from h);exact .sc _ _ h rfl (show j5 "str" "list" = false by decide) (show j5 "str" "tuple" = false by decide)
 | lst ds=>
  obtain⟨a,xs,rfl,hq,r⟩:=h
  exact .row false a xs ds hq r
 | tup ds=>
  obtain⟨a,xs,rfl,hq,r⟩:=h
  exact .row true a xs ds hq r
theorem SqQ.k{H:Hp}{t:Bool}{a:Addr}{xs:List V}(h:SqQ K H t a xs):SqK K (!t) H a xs:=by
 cases t
 ·exact h
 ·exact h
theorem zgT{H:Hp}{d e:Dat}{v:V}(h:Rep K H e v)(f:jQ v=true)(c:wm d=wm e):eqS d v=eqD d e:=by
 cases e with
 | lst es=>obtain⟨a,xs,rfl,_⟩:=h;cases f
 | tup es=>obtain⟨a,xs,rfl,_⟩:=h;cases f
 | non=>cases(show v=_ from h);cases d<;>first| rfl | cases c
 | bl b=>cases(show v=_ from h);cases d<;>first| rfl | cases c
 | int b=>cases(show v=_ from h);cases d<;>first| rfl | cases c
 | str b=>cases(show v=_ from h);cases d<;>first| rfl | cases c
theorem zfJ{d e:Dat}(c:wm d≠wm e):eqD d e=false:=by
 cases d<;>cases e<;>first| rfl | exact absurd rfl c
theorem zcy{d:Dat}{u:Bool}{es:List Dat}(n:j5 d.tyN "list" = false)(m:j5 d.tyN "tuple" = false):eqD d (mkQ u es)=false:=by
 cases d with
 | lst ds=>exact absurd n (show ¬j5 "list" "list" = false by decide)
 | tup ds=>exact absurd m (show ¬j5 "tuple" "tuple" = false by decide)
 | _=>cases u<;>rfl
theorem zhk{n:Nat}{u:Bool}{es:List Dat}(h:Dat.ok n (mkQ u es)):∃m,n=m+1/\es.length<=1000000/\∀e∈es,Dat.ok m e:=by
 cases n with
 | zero=>cases u<;>exact(show False from h).elim
 | succ m=>cases u<;>exact⟨m,rfl,h⟩
def zeV(K:PySem.W.Frag):Nat->Sp
 | 0=>fun _ _ _ _=>False
 | n+1=>fun vs H Q _=>∃(t u:Bool) (a b:Addr) (xs ys:List V) (ds es:List Dat),vs=[.ref a,.ref b]/\SqQ K H t a xs/\SqQ K H u b ys/\Reps K H ds xs/\Reps K H es ys/\es.length<=1000000/\(∀e∈es,Dat.ok n e)/\∀H',Same H H'->Q (.bl (eqDs ds es)) H'
inductive zbr(K:PySem.W.Frag)(n:Nat)(vs:List V)(H:Hp)(Q:VK):Prop
 | mk (d e:Dat) (f v:V) (_:vs=[f,v]) (_:Rep K H d f) (_:Rep K H e v) (_:Dat.ok n e) (_:∀H',Same H H'->Q (.bl (eqD d e)) H'):zbr K n vs H Q
def zeU(K:PySem.W.Frag)(n:Nat):Sp:=fun vs H Q _=>zbr K n vs H Q
theorem zgh:zK ["things", "told"] ["things", "told"] (zu (topL 10)):=⟨rfl,rfl,rfl,by decide +kernel,rfl,by decide +kernel,by decide +kernel⟩
theorem zdC{f:Addr}{fd:FuncData}(_:Fun K "are_same" "are_same" (topL 10) f fd)(_:Blt mg):FnOk P w K mg base CX0 0 f fd ["things", "told"] (zeV K 0):=⟨fun _ _ _ _ h=>h.elim,fun _ _ _ _ _ _ _ _ _ _ _ _ _ h=>h.elim⟩
theorem zb7{f:Addr}{fd:FuncData}(F:Fun K "are_same" "are_same" (topL 10) f fd)(B:Blt mg)(n:Nat)(Dis_same:Dfn P w K mg base "is_same" (2*n+1) ["thing", "told"] (zeU K n)):FnOk P w K mg base CX0 (2*n+2) f fd ["things", "told"] (zeV K (n+1)):=by
 have nd:=zgh.nd
 refine F.ok zgh (fun vs H Q E h=>?_) (fun cdv A outer s H vs Q E hr h=>?_)
 ·obtain⟨t,u,a,b,xs,ys,ds,es,rfl,_⟩:=h
  rfl
 ·obtain⟨t,u,a,b,xs,ys,ds,es,rfl,hx,hy,rx,ry,el,ok,k⟩:=h
  have hbig:1000000<sizeLine:=by rw[sizeLine_eq];decide
  have lx:=rx.len
  have ly:=ry.len
  refine⟨_,(zm (zH (xW (qL ja (zo zw rfl B.len boot_len (za (pv 0) zd)) (zo zw rfl B.len boot_len (za (pv 1) zd)) (zE _)) (xV (zo (wQ rfl) rfl B.all boot_all (za (wa [] [] rfl rfl (by kernel_rfl) (Wi rfl B.zip (za (pv 0) (za (pv 1) zd))) (fun _ _ _ _=>jF) (fun _ _ _ _=>(zk Dis_same (hr.mono (by omega)) rfl (za (pv 0) (za (pv 1) zd))))) zd)))))),?_⟩
  refine⟨_,rfl,a,xs,rfl,hx.or,_,rfl,b,ys,rfl,hy.or,rfl,_,rfl,?_⟩
  by_cases c:xs.length=ys.length
  ·refine ifT (by rw[c];exact qv rfl) ?_
   refine⟨_,rfl,_,rfl,!t,!u,a,b,rfl,⟨xs,hx.k⟩,⟨ys,hy.k⟩,?_⟩
   refine J9 (K:=K) (k1:=!t) (k2:=!u) (xs:=xs) (ys:=ys) (fun i zs H3=>zs=(((ds.zip es).take i).map fun p=>eqD p.1 p.2).map V.bl/\Same H H3) ⟨rfl,Same.refl _⟩ (fun i zs H3 ⟨_,sm⟩=>⟨(hx.same sm).k,(hy.same sm).k⟩) ?_ ?_
   ·rintro i x y zs H3 T e1 e2 ⟨rfl,sm⟩ hT
    obtain⟨d1,q1,r1⟩:=rx.get e1
    obtain⟨d2,q2,r2⟩:=ry.get e2
    have hi:=(zQ.mp q2).1
    have s4:=sm.trans (ze (o:=.tup [x,y]) hT)
    refine⟨T,_,rfl,SqT.of zb,rfl,_,_,rfl,_,_,rfl,rfl,rfl,?_⟩
    refine⟨_,rfl,_,rfl,d1,d2,x,y,rfl,r1.same s4,r2.same s4,ok d2 (qG q2),fun H5 s5=>⟨?_,?_,s4.trans s5⟩⟩
    ·rw[zp,zp,qT,List.length_zip];omega
    ·rw[qB (zc0 q1 q2),zZ,zZ];rfl
   ·rintro zs H3 ⟨rfl,sm⟩
    have lz:(ds.zip es).length=min xs.length ys.length:=by rw[List.length_zip,<- lx,<- ly]
    rw[<- lz,jh]
    refine⟨by rw[zp,zp,lz];omega,fun D hD=>⟨D,_,rfl,SqL.of zb,?_⟩⟩
    rw[VJ (by rw[<- lx,<- ly];exact c)]
    exact k _ (sm.trans (ze hD))
  ·refine ifF (jS fun z=>c (by have:=V.int.inj z;omega)) ?_
   have:=k H (Same.refl _)
   rwa[VL (by rw[<- lx,<- ly];exact c)] at this
theorem zgg:zK ["thing", "told"] ["thing", "told"] (zu (topL 11)):=⟨rfl,rfl,rfl,by decide +kernel,rfl,by decide +kernel,by decide +kernel⟩
theorem Wl{f:Addr}{fd:FuncData}(F:Fun K "is_same" "is_same" (topL 11) f fd)(B:Blt mg)(n:Nat)(Dare_same:Dfn P w K mg base "are_same" (2*n) ["things", "told"] (zeV K n)):FnOk P w K mg base CX0 (2*n+1) f fd ["thing", "told"] (zeU K n):=by
 have nd:=zgg.nd
 refine F.ok zgg (fun vs H Q E h=>?_) (fun cdv A outer s H vs Q E hr h=>?_)
 ·obtain⟨d,e,f,v,rfl,_⟩:=h
  rfl
 ·obtain⟨d,e,f,v,rfl,rd,re,ok,k⟩:=h
  have hu:=hr.units0
  have kk:=k H (Same.refl _)
  refine⟨_,(zg (qY (jV (zo qS rfl B.isinstance boot_isinstance (za (pv 1) (za (qQ (v:=.ty "list") rfl B.list jq rfl) zd))))
   (zm (zH (xW (zo qS rfl B.isinstance boot_isinstance (za (pv 0) (za (qQ (v:=.ty "list") rfl B.list jq rfl) zd))) (xV (zk Dare_same (hr.mono (by omega)) rfl (za (pv 0) (za (pv 1) zd)))))))
   qK)
   (zg (qY (jV (zo qS rfl B.isinstance boot_isinstance (za (pv 1) (za (qQ (v:=.ty "tuple") rfl B.tuple jB rfl) zd))))
   (zm (zH (xW (zo qS rfl B.isinstance boot_isinstance (za (pv 0) (za (qQ (v:=.ty "tuple") rfl B.tuple jB rfl) zd))) (xV (zk Dare_same (hr.mono (by omega)) rfl (za (pv 0) (za (pv 1) zd)))))))
   qK)
   (zm (zH (xW (qL ja (zo qS rfl B.isinstance boot_isinstance (za (pv 0) (za (qQ (v:=.ty "bool") rfl B.bool vt rfl) zd))) (zo qS rfl B.isinstance boot_isinstance (za (pv 1) (za (qQ (v:=.ty "bool") rfl B.bool vt rfl) zd))) (zE _)) (xV (qL (zdn hu) (pv 0) (pv 1) (zE _)))))))),?_⟩
  refine⟨_,rfl,v,e.tyN, "list",rfl,re.ty,(by decide),_,rfl,?_⟩
  cases J2 re with
  | sc _ _ _ fl ne me=>
   refine ifF ne ⟨_,rfl,v,e.tyN, "tuple",rfl,re.ty,(by decide),_,rfl,ifF me ?_⟩
   refine⟨_,rfl,f,d.tyN, "bool",rfl,rd.ty,(by decide),_,rfl,v,e.tyN, "bool",rfl,re.ty,(by decide),rfl,_,rfl,?_⟩
   rw[Z6,Z6]
   by_cases c:wm d=wm e
   ·refine ifT (qv (congrArg V.bl c)) ⟨_,rfl,_,rfl,d,rd,fl,?_⟩
    rw[zgT re fl c]
    exact kk
   ·refine ifF (jS fun z=>c (V.bl.inj z)) ?_
    rw[zfJ c] at kk
    exact kk
  | row u b ys es hy ry=>
   obtain⟨m,rfl,el,eok⟩:=zhk ok
   cases u with
   | false=>
    refine ifT rfl ⟨_,rfl,f,d.tyN, "list",rfl,rd.ty,(by decide),_,rfl,?_⟩
    cases J2 rd with
    | sc _ _ _ _ nd2 md2=>
     refine ifF nd2 ?_
     rw[zcy nd2 md2] at kk
     exact kk
    | row t a xs ds hx rx=>
     cases t with
     | false=>exact ifT rfl ⟨_,rfl,_,rfl,false,false,a,b,xs,ys,ds,es,rfl,hx,hy,rx,ry,el,eok,fun H' s'=>k H' s'⟩
     | true=>exact ifF rfl kk
   | true=>
    refine ifF rfl ⟨_,rfl,.ref b, "tuple", "tuple",rfl,re.ty,(by decide),_,rfl,ifT rfl ⟨_,rfl,f,d.tyN, "tuple",rfl,rd.ty,(by decide),_,rfl,?_⟩⟩
    cases J2 rd with
    | sc _ _ _ _ nd2 md2=>
     refine ifF md2 ?_
     rw[zcy nd2 md2] at kk
     exact kk
    | row t a xs ds hx rx=>
     cases t with
     | false=>exact ifF rfl kk
     | true=>exact ifT rfl ⟨_,rfl,_,rfl,true,true,a,b,xs,ys,ds,es,rfl,hx,hy,rx,ry,el,eok,fun H' s'=>k H' s'⟩
end
theorem Qw(x y:V)(r:List V):jN (x::y::r) (some 2) none=r:=by
 unfold jN
 rw[show(some (2:Int))=some ((2:Nat):Int) from rfl,HT.sIx_nat,HT.sIx_none]
 have:min 2 (x::y::r).length=2:=by simp only[qU];omega
 rw[this]
 simp
theorem vo:∀is:List Int,(is.map V.int).all jQ=true
 | []=>rfl
 | i::is=>by
  show(true&&(is.map V.int).all jQ)=true
  rw[vo is];rfl
theorem Wo{P:Prop}(h:¬P):(false=true)↔P:=⟨fun z=>absurd z qm,fun z=>absurd z h⟩
theorem eqR{k:Str}{x y:Int}{pa:xo}:eqD (.tup [.str k,.tup [.int x,.int y]]) (jC pa)=true↔([.str k,.tup [.int x,.int y]]:List Dat)=Vn pa:=by
 have e:eqD (.tup [.str k,.tup [.int x,.int y]]) (jC pa)=((k==pa.k)&&(((x==pa.x)&&((y==pa.y)&&true))&&true)):=rfl
 rw[e]
 constructor
 ·intro h
  simp only[Zw,jk,jZ] at h
  obtain⟨h1,h2,h3⟩:=h
  rw[h1,h2,h3]
  rfl
 ·intro h
  unfold Vn at h
  injection h with h1 h2
  injection h1 with h1
  injection h2 with h2 _
  injection h2 with h2
  injection h2 with h3 h4
  injection h3 with h3
  injection h4 with h4 _
  injection h4 with h4
  simp[h1,h3,h4]
section
variable{P:Program}{w:World}{K:PySem.W.Frag}{mg:Str->Option Value}{base:Heap}
theorem yR{H:Hp}{e:GE}{v:V}(h:Rep K H (geD e) v):∃(a:Addr) (rs:List V),v=.ref a/\SqT K H a (.str e.w::.int e.p::rs)/\Reps K H e.r rs:=by
 obtain⟨a,xs,rfl,hq,x0,r0,rfl,e0,x1,r1,rfl,e1,rr⟩:=h
 cases(show x0=_ from e0)
 cases(show x1=_ from e1)
 exact⟨a,r1,rfl,hq,rr⟩
def GEs(K:PySem.W.Frag)(H:Hp)(l:Addr)(es:List GE):Prop:=∃xs,H l=some (.lst xs)/\Reps K H (es.map geD) xs
theorem GEs.same{H H':Hp}{l:Addr}{es:List GE}(h:GEs K H l es)(s:Same H H'):GEs K H' l es:=let ⟨xs,h1,h2⟩:=h;⟨xs,s _ _ h1,h2.same s⟩
def Qr(ws:List Str)(es:List GE):List GE:=es.filter fun e=>decide (e.w∈ws)
inductive Yu(K:PySem.W.Frag)(vs:List V)(H:Hp)(Q:VK):Prop
 | mk (l t:Addr) (es:List GE) (ws:List Str) (_:vs=[.ref l,.ref t]) (_:GEs K H l es) (_:SqT K H t (ws.map V.str)) (_:es.length<=100000) (_:∀(p:Addr) H',H p=none->Same H H'->GEs K H' p (Qr ws es)->Q (.ref p) H'):Yu K vs H Q
def zei(K:PySem.W.Frag):Sp:=fun vs H Q _=>Yu K vs H Q
theorem zer:zK ["events", "words"] ["events", "words"] (zu (topL 13)):=⟨rfl,rfl,rfl,by decide +kernel,rfl,by decide +kernel,by decide +kernel⟩
theorem zfp{f:Addr}{fd:FuncData}(F:Fun K "events_of" "events_of" (topL 13) f fd)(B:Blt mg):FnOk P w K mg base CX0 1 f fd ["events", "words"] (zei K):=by
 have nd:=zer.nd
 refine F.ok zer (fun vs H Q E h=>?_) (fun cdv A outer s H vs Q E hr h=>?_)
 ·obtain⟨l,t,es,ws,rfl,_⟩:=h
  rfl
 ·obtain⟨l,t,es,ws,rfl,⟨xs,hl,rx⟩,ht,le,k⟩:=h
  have hbig:1000000<sizeLine:=by rw[sizeLine_eq];decide
  have xl:=rx.len
  rw[zp] at xl
  refine⟨_,(zm (zH (j8 ["words"] [1] rfl rfl (by kernel_rfl) (qN (pv 0)) (fun _ _ _ _=>(vg (zC (j9 (K:=K) rfl) (zr (jt (K:=K) rfl) (pv 0) zf (fun _ _=>rfl)) (pv 1) (by with_unfolding_all rfl)))) (fun _ _ _ _=>(pv 0))))),?_⟩
  refine⟨_,rfl,l,rfl,⟨_,SqL.of hl⟩,j4 (K:=K) (a:=l) (xs:=xs) (fun i zs H1=>Reps K H1 ((Qr ws (es.take i)).map geD) zs/\Same H H1) ⟨rfl,Same.refl _⟩ (fun i zs H1 ⟨_,s1⟩=>SqL.of (s1 _ _ hl)) ?_ ?_⟩
  ·rintro i x zs H1 hx ⟨rz,s1⟩
   obtain⟨d,ed,rd⟩:=(rx.same s1).get hx
   rw[qJ] at ed
   obtain⟨e,ee,rfl⟩:=qw.mp ed
   obtain⟨a,r,rfl,qa,_⟩:=yR rd
   have il:=(zQ.mp ee).1
   have zl:=rz.len
   rw[zp] at zl
   have z2:(Qr ws (es.take i)).length<=i:=jj (xr _ _) (by rw[qT];omega)
   have e2:Qr ws (es.take (i+1))=Qr ws (es.take i)++if decide (e.w∈ws)=true then [e] else []:=wo _ ee
   refine⟨rfl,_,rfl,a,_,_,.str e.w,rfl,rfl,qa,at0,_,rfl,t,_,rfl,.inr (s1.sqT ht),rfl,Zi ws,_,rfl,?_⟩
   rw[YY,e2]
   refine jD (fun c=>⟨_,rfl,by omega,?_,s1⟩) (fun c=>⟨?_,s1⟩)
   ·rw[zx (show decide (e.w∈ws)=true from c),zZ]
    exact Reps.snoc rd rz
   ·rw[zq (show ¬decide (e.w∈ws)=true from c),qk];exact rz
  ·rintro zs H1 ⟨rz,s1⟩
   rw[xl,jh] at rz
   have zl:=rz.len
   rw[zp] at zl
   have z2:(Qr ws es).length<=es.length:=xr _ _
   refine⟨by omega,fun p hp=>k p _ (s1.free hp) (s1.trans (ze hp)) ⟨_,zb,rz.same (ze hp)⟩⟩
def LdS(e:GE):Prop:=∃(k:Str) (x y:Int),e.r=[.str k,.tup [.int x,.int y]]
inductive zbp(K:PySem.W.Frag)(vs:List V)(H:Hp)(Q:VK):Prop
 | mk (jp ev lp:Addr) (J:Job) (ord:List Nat) (e:GE) (met:List Int) (_:vs=[.ref jp,.ref ev,.ref lp]) (_:Rep K H (xR J) (.ref jp)) (_:JobOk J ord) (_:Rep K H (geD e) (.ref ev)) (_:LdS e) (_:SqL K H lp (met.map V.int)) (_:∀(b:Bool) H',(b=true↔yg J met e)->Same H H'->Q (.bl b) H'):zbp K vs H Q
def zf8(K:PySem.W.Frag):Sp:=fun vs H Q _=>zbp K vs H Q
theorem zge:zK ["job", "event", "laid", "part"] ["job", "event", "laid"] (zu (topL 14)):=⟨rfl,rfl,rfl,by decide +kernel,rfl,by decide +kernel,by decide +kernel⟩
theorem zgx{f:Addr}{fd:FuncData}(F:Fun K "is_laid_right" "is_laid_right" (topL 14) f fd)(B:Blt mg)(Dis_number_within:Dfn P w K mg base "is_number_within" 2 ["thing", "least", "most"] (zbj K))(Dis_same:Dfn P w K mg base "is_same" 5 ["thing", "told"] (zeU K 2))(Dahead_of:Dfn P w K mg base "ahead_of" 3 ["job", "part"] (Yz K)):FnOk P w K mg base CX0 6 f fd ["job", "event", "laid"] (zf8 K):=by
 have nd:=zge.nd
 refine F.ok zge (fun vs H Q E h=>?_) (fun cdv A outer s H vs Q E hr h=>?_)
 ·obtain⟨jp,ev,lp,J,ord,e,met,rfl,_⟩:=h
  rfl
 ·obtain⟨jp,ev,lp,J,ord,e,met,rfl,rj,jo,re,⟨kd,x,y,er⟩,hl,k⟩:=h
  have hbig:1000000<sizeLine:=by rw[sizeLine_eq];decide
  have pl60:=jo.pl
  obtain⟨ev',rs,e0,qe,rr⟩:=yR re
  cases e0
  obtain⟨gg,fs,ps,as,fv,px,qj,_,qf,rf,qps,rpp,_⟩:=xx rj
  have lpx:=rpp.len
  rw[zp] at lpx
  refine⟨_,(zg (zD (i:=3) nd rfl (Or.inl rfl) (zr zM (pv 1) zf (fun _ _=>rfl)))
   (zg (qY (PW.pt (yI (Zm (jV (zk Dis_number_within (hr.mono (by decide)) rfl (za (pv 3) (za zf (za (zB xN (zo zw rfl B.len boot_len (za (zr zM (pv 0) zf (fun _ _=>rfl)) zd)) zf) zd)))))) (vX (zC wD (pv 3) (pv 2) (by with_unfolding_all rfl)))))
   (zm (zH xH))
   qK)
   (zg (qY (Zm (jV (zk Dis_same (hr.mono (by decide)) rfl (za (xj Qd (pv 1) (xA zf) x9) (za (zr zM (zr zM (pv 0) zf (fun _ _=>rfl)) (pv 3) (fun _ _=>rfl)) zd)))))
   (zm (zH xH))
   qK)
   (zm (zH (zo (wQ rfl) rfl B.all boot_all (za (j8 ["laid"] [2] rfl rfl (by kernel_rfl) (qN (zk Dahead_of (hr.mono (by decide)) rfl (za (pv 0) (za (pv 3) zd)))) (fun _ _ _ _=>jF) (fun _ _ _ _=>(qL (j9 (K:=K) rfl) (pv 0) (pv 1) (by with_unfolding_all rfl)))) zd))))))),?_⟩
  refine⟨_,rfl,ev,_,_,_,rfl,rfl,qe,zT (j:=1) rfl,?_⟩
  refine⟨_,rfl,_,rfl,jp,_,_,_,rfl,rfl,qj,rfl,ps,_,rfl,.inr qps,_,_,rfl,rfl,.int e.p,.int e.p,0,_,rfl,rfl,_,rfl,?_⟩
  have ew:yC 0 ((px.length:Int)-1) (.int e.p)=(decide (0<=e.p)&&decide (e.p<=(px.length:Int)-1)):=rfl
  rw[ew]
  by_cases c1:0<=e.p/\e.p<J.ps.length
  ·have et:(decide (0<=e.p)&&decide (e.p<=(px.length:Int)-1))=true:=by
    rw[jk,jT,jT]
    omega
   rw[et]
   refine ifF rfl ⟨_,rfl,_,rfl,lp,_,rfl,.inl hl,rfl,vo _,_,rfl,?_⟩
   rw[zq qm,wn]
   by_cases c2:e.p∈met
   ·exact ifT (qv c2) (k false _ (Wo fun z=>z.nw c2) (Same.refl _))
   ·refine ifF (jS c2) ?_
    have ep:((e.p.toNat:Nat):Int)=e.p:=by omega
    have epa:J.ps[e.p.toNat]? =some J.ps[e.p.toNat]:=qX (by omega)
    generalize J.ps[e.p.toNat]=pa at epa
    obtain⟨pv0,epv,rpv⟩:=vJ rpp epa
    have epx:atI px e.p=some pv0:=by rw[<- ep];exact zT epv
    refine⟨_,rfl,2,rfl,ev,_,rfl,qe,(fun z=>absurd z.1 (by
     rw[show(some (2:Int))=some ((2:Nat):Int) from rfl,HT.sIx_nat]
     simp only[qU]
     omega)),fun T hT=>?_⟩
    rw[Qw]
    have s1:=ze (H:=H) (o:=.tup rs) hT
    have hT1:=zb (H:=H) (a:=T) (o:=.tup rs)
    generalize upd H T (.tup rs)=H1 at s1 hT1 ⊢
    have rpv0:=rpv
    obtain⟨pad,_,rfl,_⟩:=rpv0
    refine⟨_,rfl,jp,_,_,_,rfl,rfl,s1.sqT qj,rfl,_,rfl,ps,_,_,_,rfl,rfl,s1.sqT qps,epx,.tup e.r,jC pa,.ref T,.ref pad,rfl,⟨T,rs,rfl,SqT.of hT1,rr.same s1⟩,rpv.same s1,?_,fun H2 s2=>⟨_,rfl,?_⟩⟩
    ·refine⟨by show 2<=1000000;decide,fun d hd=>?_⟩
     rcases zS.mp hd with rfl | hd
     ·trivial
     ·cases qg.mp hd
      refine⟨by show 2<=1000000;decide,fun d hd=>?_⟩
      rcases zS.mp hd with rfl | hd
      ·trivial
      ·cases qg.mp hd;trivial
    have s12:=s1.trans s2
    rw[er]
    cases c3:eqD (.tup [.str kd,.tup [.int x,.int y]]) (jC pa) with
    | false=>
     refine ifT rfl (k false _ (Wo fun z=>?_) s12)
     obtain⟨pa',e1,e2⟩:=z.rt
     rw[epa] at e1
     cases e1
     rw[er] at e2
     rw[eqR.mpr e2] at c3
     cases c3
    | true=>
     have hr2:e.r=Vn pa:=by rw[er];exact eqR.mp c3
     refine ifF rfl ⟨_,rfl,_,rfl,e.p,jp,J,rfl,rj.same s12,pl60,⟨c1.1,c1.2⟩,jo.jsm.as,jo.al,fun l ms H3 s3 l0 hl3 ml _ mm=>⟨l,rfl,⟨_,SqL.of hl3⟩,?_⟩⟩
     have s13:=s12.trans s3
     refine j4 (K:=K) (a:=l) (xs:=ms.map V.int) (fun i zs H4=>zs=((ms.take i).map fun j=>decide (j∈met)).map V.bl/\Same H3 H4) ⟨rfl,Same.refl _⟩ (fun i zs H4 ⟨_,s4⟩=>SqL.of (s4 _ _ hl3)) ?_ ?_
     ·rintro i x zs H4 hx ⟨rfl,s4⟩
      rw[qJ] at hx
      obtain⟨j,ej,rfl⟩:=qw.mp hx
      have il:=(zQ.mp ej).1
      refine⟨rfl,_,rfl,_,rfl,lp,_,rfl,.inl ((s13.trans s4).seq hl),rfl,vo _,?_,?_,s4⟩
      ·rw[zp,zp,qT];omega
      ·rw[wn,qB ej,zZ,zZ]
       rfl
     ·rintro zs H4 ⟨e1,s4⟩
      rw[zp,jh] at e1
      subst e1
      refine⟨by rw[zp,zp];omega,fun D hD=>⟨D,_,rfl,SqL.of zb,k _ _ ?_ ((s13.trans s4).trans (ze hD))⟩⟩
      rw[xM]
      constructor
      ·intro h
       refine⟨c1.1,c1.2,c2,⟨pa,epa,hr2⟩,fun j ⟨n,n1,w⟩=>?_⟩
       have hj:j∈ms:=(mm j).mpr ⟨fun z=>by
        rw[z] at w
        have:=w.rank (JZ jo)
        omega,n,w⟩
       exact jA (h _ (qo.mpr ⟨j,hj,rfl⟩))
      ·intro g b hb
       obtain⟨j,hj,rfl⟩:=qo.mp hb
       obtain⟨ne,n,w⟩:=(mm j).mp hj
       cases n with
       | zero=>exact absurd w ne
       | succ n=>exact qv (g.ab j ⟨n+1,by omega,w⟩)
  ·have ef:(decide (0<=e.p)&&decide (e.p<=(px.length:Int)-1))=false:=by
    rw[Bool.and_eq_false_iff,decide_eq_false_iff_not,decide_eq_false_iff_not]
    omega
   rw[ef]
   exact ifT rfl (ifT rfl (k false _ (Wo fun z=>c1 ⟨z.p0,z.p1⟩) (Same.refl _)))
end
structure DB(d:Dat):Prop where
 g:d.gd 0=true
 b:d.blk<=20
 p:d.py.depth<=3
theorem zac{x:Str}(h:Nm x):DB (.str x):=⟨xM.mpr fun c hc=>qv (h.2 c hc),jj (show Dat.blk (.str x)<=8 from h.1) (by decide),by show PyData.depth (.str _)<=3;simp[PyData.depth]⟩
theorem yp{i:Int}(h:i.natAbs<=1000000):DB (.int i):=⟨qv (by omega),qu _,by show PyData.depth (.int _)<=3;simp[PyData.depth]⟩
theorem zcA{x y:Int}(h:inP x y):DB (.tup [.int x,.int y]):=by
 unfold inP at h
 refine⟨?_,(by decide:0+1+(0+1+0)<=20),?_⟩
 ·show(Dat.gd 0 (.int x)&&(Dat.gd 0 (.int y)&&true))=true
  rw[(yp (i:=x) (by omega)).g,(yp (i:=y) (by omega)).g]
  rfl
 ·show PyData.depth (.tuple [.int x,.int y])<=3
  simp[PyData.depth,PyData.depthAll]
structure wA(e:GE):Prop where
 ld:e.w=("laid" : Str)->LdS e
 im:(geD e).imm=true
 sz:e.r.length<=2
 wb:DB (.str e.w)
 pb:e.p.natAbs<=1000000
 rb:∀d∈e.r,DB d
theorem wL:∀{es:List GE},(∀e∈es,wA e)->Dat.imms (es.map geD)=true
 | [],_=>rfl
 | e::es,h=>by
  show((geD e).imm&&Dat.imms (es.map geD))=true
  rw[(h e qP).im,wL fun x hx=>h x (qV _ hx)]
  rfl
theorem zaS(es:List GE):Qr ["laid"] es=es.filter fun e:GE=>decide (e.w=("laid" : Str)):=List.filter_congr fun e _=>by
 rw[xP,jT,jT,qg]
theorem zdF(J:Job)(es:List GE):ZC J es=((Qr ["laid"] es).foldl (goS J) (some [])).isSome:=by
 rw[zaS,Zu]
 rfl
theorem Y0{J:Job}{es:List GE}{i:Nat}(h:(es.take i).foldl (goS J) (some [])=none):es.foldl (goS J) (some [])=none:=by
 have:es=es.take i++es.drop i:=(XH i es).symm
 rw[this,QP,h,Y2]
section
variable{P:Program}{w:World}{K:PySem.W.Frag}{mg:Str->Option Value}{base:Heap}
theorem Same.putN{H H':Hp}{a:Addr}{o:HO}(s:Same H H')(h:H a=Option.none):Same H (upd H' a o):=fun c u e=>by
 rw[zi (zj e h)]
 exact s c u e
inductive X8(K:PySem.W.Frag)(vs:List V)(H:Hp)(Q:VK):Prop
 | mk (jp l:Addr) (J:Job) (ord:List Nat) (es:List GE) (_:vs=[.ref jp,.ref l]) (_:Rep K H (xR J) (.ref jp)) (_:JobOk J ord) (_:GEs K H l es) (_:(∀e∈es,wA e)) (_:es.length<=10000) (_:∀H',Same H H'->Q (.bl (ZC J es)) H'):X8 K vs H Q
def Wa(K:PySem.W.Frag):Sp:=fun vs H Q _=>X8 K vs H Q
theorem zbC:zK ["job", "events", "laid", "event"] ["job", "events"] (zu (topL 15)):=⟨rfl,rfl,rfl,by decide +kernel,rfl,by decide +kernel,by decide +kernel⟩
theorem zdx{f:Addr}{fd:FuncData}(F:Fun K "lies_right" "lies_right" (topL 15) f fd)(B:Blt mg)(Devents_of:Dfn P w K mg base "events_of" 1 ["events", "words"] (zei K))(Dis_laid_right:Dfn P w K mg base "is_laid_right" 6 ["job", "event", "laid"] (zf8 K)):FnOk P w K mg base CX0 7 f fd ["job", "events"] (Wa K):=by
 have nd:=zbC.nd
 refine F.ok zbC (fun vs H Q E h=>?_) (fun cdv A outer s H vs Q E hr h=>?_)
 ·obtain⟨jp,l,J,ord,es,rfl,_⟩:=h
  rfl
 ·obtain⟨jp,l,J,ord,es,rfl,rj,jo,hl,gok,el,k⟩:=h
  have hbig:1000000<sizeLine:=by rw[sizeLine_eq];decide
  rw[zdF] at k
  have fl:(Qr ["laid"] es).length<=10000:=jj (xr _ _) el
  have fok:∀e∈Qr ["laid"] es,wA e/\e.w=("laid" : Str):=fun e he=>by
   obtain⟨h1,h2⟩:=jz.mp he
   exact⟨gok e h1,qg.mp (jA h2)⟩
  refine⟨_,(zg (zD (i:=2) nd rfl (Or.inl rfl) (zN zd))
   (zg (qO jw rfl (qN (zk Devents_of (hr.mono (by decide)) rfl (za (pv 1) (za (zX (za zL zd)) zd)))) (zy (i:=3) nd rfl (Or.inl rfl))
   (zg (qY (Zm (jV (zk Dis_laid_right (hr.mono (by decide)) rfl (za (pv 0) (za (pv 3) (za (pv 2) zd))))))
    (zm (zH xH))
    qK)
    (zm (zU (qZ qW jM jL zV (pv 2) (za (zr zM (pv 3) zf (fun _ _=>rfl)) zd))))))
   (zm (zH xH)))),?_⟩
  refine⟨le0,fun lp hlp=>⟨_,rfl,le1,fun T hT=>?_⟩⟩
  have s1:=(ze (H:=H) (o:=.lst []) hlp).trans (ze (o:=.tup [.str "laid"]) hT)
  have hl1:=(ze (o:=.tup [.str "laid"]) hT) _ _ (zb (H:=H) (a:=lp) (o:=.lst []))
  have hT1:=zb (H:=upd H lp (.lst [])) (a:=T) (o:=.tup [.str "laid"])
  generalize upd (upd H lp (.lst [])) T (.tup [.str "laid"])=H1 at s1 hl1 hT1 ⊢
  refine⟨l,T,es,["laid"],rfl,hl.same s1,SqT.of hT1,by omega,fun p H2 hp s2 ⟨xs,hx,rx⟩=>⟨p,rfl,⟨_,SqL.of hx⟩,?_⟩⟩
  have npl:p≠lp:=fun z=>by rw[z,hl1] at hp;cases hp
  have im:=wL fun e he=>(fok e he).1
  generalize Qr ["laid"] es=fs at fl fok rx im k
  have xl:=rx.len
  rw[zp] at xl
  refine jP (K:=K) (a:=p) (xs:=xs) (fun i σ H3=>Ex2 fun(v3:Option V) (met:List Int)=>An7 (σ=[some (.ref jp),some (.ref l),some (.ref lp),v3]) (Same H H3) (H3 lp=some (.lst (met.map V.int))) (H3 p=some (.lst xs)) (Reps K H3 (fs.map geD) xs) (met.length<=i) ((fs.take i).foldl (goS J) (some [])=some met)) ⟨_,[],rfl,s1.trans s2,s2 _ _ hl1,hx,rx,zG _,rfl⟩ (fun i σ H3 _ ⟨_,_,_,_,_,h3,_,_,_⟩=>SqL.of h3) ?_ ?_
  ·rintro i x σ H3 hx3 ⟨v3,met,rfl,s3,hl3,hp3,rx3,ml,go⟩
   have il:=(zQ.mp hx3).1
   obtain⟨d,ed,rd⟩:=rx3.get hx3
   rw[qJ] at ed
   obtain⟨e,ee,rfl⟩:=qw.mp ed
   obtain⟨ge,ew⟩:=fok e (qG ee)
   obtain⟨a,rs,rfl,qa,_⟩:=yR rd
   have gs:(fs.take (i+1)).foldl (goS J) (some [])=goS J (some met) e:=by rw[qB ee,QP,go];rfl
   refine⟨_,rfl,_,rfl,_,rfl,jp,a,lp,J,ord,e,met,rfl,rj.same s3,jo,rd,ge.ld ew,SqL.of hl3,fun b H4 hb s4=>⟨_,rfl,?_⟩⟩
   cases b with
   | false=>
    have nl:¬yg J met e:=fun z=>absurd (hb.mpr z) qm
    rw[zcp ew nl] at gs
    have:=k H4 (s3.trans s4)
    rw[Y0 gs] at this
    exact ifT rfl this
   | true=>
    have gl:=hb.mp rfl
    rw[Xe ew gl] at gs
    have hl4:=s4 _ _ hl3
    have hp4:=s4 _ _ hp3
    refine ifF rfl ⟨_,rfl,.inl ⟨rfl,_,SqL.of hl4⟩,_,rfl,a,_,_,_,rfl,rfl,s4.sqT qa,zT (j:=1) rfl,lp,_,_,rfl,rfl,hl4,by rw[zp];omega,_,met++[e.p],rfl,(s3.trans s4).putN hlp,by rw[zb,zZ];rfl,by rw[zi npl];exact hp4,(rx3.same s4).keep (SameT.put hl4) im,by rw[zW];show _+1<=_;omega,gs⟩
  ·rintro σ H3 ⟨v3,met,rfl,s3,_,_,_,_,go⟩
   rw[xl,jh] at go
   have:=k H3 s3
   rw[go] at this
   exact this
theorem YT{H:Hp}{k:Str}{x y:Int}{rs:List V}(h:Reps K H [.str k,.tup [.int x,.int y]] rs):∃c,rs=[.str k,.ref c]/\SqT K H c [.int x,.int y]:=by
 obtain⟨v0,r0,rfl,e0,v1,r1,rfl,⟨c,xs,rfl,hc,w0,q0,rfl,f0,w1,q1,rfl,f1,f2⟩,e2⟩:=h
 cases(show v0=_ from e0)
 cases(show r1=[] from e2)
 cases(show w0=_ from f0)
 cases(show w1=_ from f1)
 cases(show q1=[] from f2)
 exact⟨c,rfl,hc⟩
inductive zbq(K:PySem.W.Frag)(vs:List V)(H:Hp)(Q:VK):Prop
 | mk (jp ov l:Addr) (J:Job) (ord:List Nat) (mss:List (List Int)) (ozs:List V) (es:List GE) (_:vs=[.ref jp,.ref ov,.ref l]) (_:Rep K H (xR J) (.ref jp)) (_:JobOk J ord) (_:OvG K H ov J mss ozs) (_:GEs K H l es) (_:(∀e∈es,wA e)) (_:es.length<=10000) (_:∀H',Same H H'->Q (.bl (ZC J es)) H'):zbq K vs H Q
def zeT(K:PySem.W.Frag):Sp:=fun vs H Q _=>zbq K vs H Q
theorem zgf:zK ["_law_job_here", "_law_over_here", "_law_events", "_law_met", "_law_event", "_law_part"] ["_law_job_here", "_law_over_here", "_law_events"] (zu (topL 40)):=⟨rfl,rfl,rfl,by decide +kernel,rfl,by decide +kernel,by decide +kernel⟩
theorem zgy{f:Addr}{fd:FuncData}(F:Fun K "_law_lies" "_law_lies" (topL 40) f fd)(B:Blt mg):FnOk P w K mg base CX0 1 f fd ["_law_job_here", "_law_over_here", "_law_events"] (zeT K):=by
 have nd:=zgf.nd
 refine F.ok zgf (fun vs H Q E h=>?_) (fun cdv A outer s H vs Q E hr h=>?_)
 ·obtain⟨jp,ov,l,J,ord,mss,ozs,es,rfl,_⟩:=h
  rfl
 ·obtain⟨jp,ov,l,J,ord,mss,ozs,es,rfl,rj,jo,og,⟨xs,hl,rx⟩,gok,el,k⟩:=h
  have hbig:1000000<sizeLine:=by rw[sizeLine_eq];decide
  have hu64:=hr.units
  have pl60:=jo.pl
  have xl:=rx.len
  rw[zp] at xl
  obtain⟨gg,fs,ps,as,fv,px,qj,_,qf,rf,qps,rpp,_⟩:=xx rj
  have lpx:=rpp.len
  rw[zp] at lpx
  refine⟨_,(zg (zD (i:=3) nd rfl (Or.inr rfl) (zN zd))
   (zg (qO jw rfl (qN (pv 2)) (zy (i:=4) nd rfl (Or.inl rfl))
   (zm (qY (zC ja (zr zM (pv 4) zf (fun _ _=>rfl)) zL (zE _))
    (zg (zD (i:=5) nd rfl (Or.inl rfl) (zr zM (pv 4) zf (fun _ _=>rfl)))
     (zg (qY (PW.pt (yI (zC yK (pv 5) (vC rfl rfl B.list rfl B.range jq (za (zo zw rfl B.len boot_len (za (zr zM (pv 0) zf (fun _ _=>rfl)) zd)) zd)) (by with_unfolding_all rfl)) (yI (zC (zdl hu64) (xj Qd (pv 4) (xA zf) x9) (zr zM (zr zM (pv 0) zf (fun _ _=>rfl)) (pv 5) (fun _ _=>rfl)) (zE _)) (vX (zC wD (pv 5) (pv 3) (by with_unfolding_all rfl))))))
     (zm (zH xH))
     qK)
     (zg (qY (jV (zo (wP rfl) rfl B.any yY (za (j8 ["_law_met"] [3] rfl rfl (by kernel_rfl) (qN (zr zJ (pv 1) (pv 5) (fun _ _=>rfl))) (fun _ _ _ _=>jF) (fun _ _ _ _=>(qL (wT (K:=K) rfl) (pv 0) (pv 1) (by with_unfolding_all rfl)))) zd)))
     (zm (zH xH))
     qK)
     (zm (zU (qZ qW jM jL zV (pv 3) (za (pv 5) zd)))))))
    qK)))
   (zm (zH xH)))),?_⟩
  refine⟨le0,fun mp hmp=>?_⟩
  refine⟨_,rfl,l,rfl,⟨_,SqL.of ((ze hmp) _ _ hl)⟩,jP (K:=K) (a:=l) (xs:=xs) (fun i σ H3=>Ex3 fun(v4 v5:Option V) (met:List Int)=>An5 (σ=[some (.ref jp),some (.ref ov),some (.ref l),some (.ref mp),v4,v5]) (Same H H3) (H3 mp=some (.lst (met.map V.int))) (met.length<=i) ((es.take i).foldl (goS J) (some [])=some met)) ⟨_,_,[],rfl,ze hmp,zb,zG _,rfl⟩ (fun i σ H3 _ ⟨_,_,_,_,s3,_,_,_⟩=>SqL.of (s3 _ _ hl)) ?_ ?_⟩
  ·rintro i x σ H3 hx3 ⟨v4,v5,met,rfl,s3,hm3,ml,go⟩
   have il:=(zQ.mp hx3).1
   obtain⟨d,ed,rd⟩:=rx.get hx3
   rw[qJ] at ed
   obtain⟨e,ee,rfl⟩:=qw.mp ed
   have ge:=gok e (qG ee)
   obtain⟨a,rs,rfl,qa,rr⟩:=yR rd
   have gs:(es.take (i+1)).foldl (goS J) (some [])=goS J (some met) e:=by rw[qB ee,QP,go];rfl
   have bad:∀{H4:Hp},e.w=("laid" : Str)->Same H3 H4->¬yg J met e->Q (.bl false) H4:=fun ew s4 nl=>by
    have:=k _ (s3.trans s4)
    have g2:=gs
    rw[zcp ew nl] at g2
    unfold ZC at this
    rwa[Y0 g2] at this
   refine⟨_,rfl,a,_,_,_,rfl,rfl,s3.sqT qa,zT (j:=0) rfl,rfl,_,rfl,?_⟩
   by_cases ew:e.w=("laid" : Str)
   ·refine ifT (by rw[ew];exact qv rfl) ?_
    obtain⟨kd,ex,ey,er⟩:=ge.ld ew
    rw[er] at rr
    obtain⟨c,rfl,qc⟩:=YT rr
    refine⟨_,rfl,a,_,_,_,rfl,rfl,s3.sqT qa,zT (j:=1) rfl,?_⟩
    refine⟨_,rfl,_,rfl,jp,_,_,_,rfl,rfl,s3.sqT qj,rfl,ps,_,rfl,.inr (s3.sqT qps),(px.length:Int),rfl,by omega,by omega,fun rl hrl=>⟨rl,_,rfl,.inl (SqL.of zb),rfl,wG _,_,rfl,?_⟩⟩
    have s4:=ze (H:=H3) (o:=.lst ((List.range ((px.length:Int)).toNat).map fun i:Nat=>V.int (i:Int))) hrl
    generalize upd H3 rl (.lst ((List.range ((px.length:Int)).toNat).map fun i:Nat=>V.int (i:Int)))=H4 at s4 ⊢
    have ein:inV (.int e.p) ((List.range ((px.length:Int)).toNat).map fun i:Nat=>V.int (i:Int))=decide (0<=e.p/\e.p<J.ps.length):=by
     show inV (.int e.p) (zv (List.range ((px.length:Int)).toNat))=_
     rw[Wy,xP,jT,jT,xn]
     constructor
     ·intro h
      obtain⟨q,hq,eq⟩:=qo.mp h
      have:=xK.mp hq
      have eq':(q:Int)=e.p:=eq
      omega
     ·intro h
      exact qo.mpr ⟨e.p.toNat,xK.mpr (by omega),by show((e.p.toNat:Nat):Int)=_;omega⟩
    rw[zx rfl,ein]
    by_cases c1:0<=e.p/\e.p<J.ps.length
    ·rw[qv c1]
     refine ifF rfl ?_
     have s34:=s3.trans s4
     have ep:((e.p.toNat:Nat):Int)=e.p:=by omega
     have epa:J.ps[e.p.toNat]? =some J.ps[e.p.toNat]:=qX (by omega)
     generalize J.ps[e.p.toNat]=pa at epa
     obtain⟨pv0,epv,rpv⟩:=vJ rpp epa
     have epx:atI px e.p=some pv0:=by rw[<- ep];exact zT epv
     obtain⟨pad,pac,rfl,qpa,qpc⟩:=xS rpv
     refine⟨_,rfl,2,rfl,a,_,rfl,s34.sqT qa,(fun z=>absurd z.1 (by
      rw[show(some (2:Int))=some ((2:Nat):Int) from rfl,HT.sIx_nat]
      simp only[qU]
      omega)),fun T hT=>?_⟩
     rw[Qw]
     have s5:=ze (H:=H4) (o:=.tup [.str kd,.ref c]) hT
     have hT5:=zb (H:=H4) (a:=T) (o:=.tup [.str kd,.ref c])
     generalize upd H4 T (.tup [.str kd,.ref c])=H5 at s5 hT5 ⊢
     have s35:=s34.trans s5
     have s45:=s4.trans s5
     refine⟨_,rfl,jp,_,_,_,rfl,rfl,s35.sqT qj,rfl,_,rfl,ps,_,_,_,rfl,rfl,s35.sqT qps,epx,T,pad,c,pac,kd,pa.k,(ex,ey),(pa.x,pa.y),rfl,rfl,SqT.of hT5,s35.sqT qc,s35.sqT qpa,s35.sqT qpc,_,rfl,?_⟩
     cases c3:((kd==pa.k)&&decide ((ex,ey)=(pa.x,pa.y))) with
     | false=>
      refine ifT rfl (ifT rfl (bad ew s45 fun z=>?_))
      obtain⟨pa',e1,e2⟩:=z.rt
      rw[epa] at e1
      cases e1
      rw[er] at e2
      have:=eqR.mpr e2
      have e5:eqD (.tup [.str kd,.tup [.int ex,.int ey]]) (jC pa)=((kd==pa.k)&&(((ex==pa.x)&&((ey==pa.y)&&true))&&true)):=rfl
      rw[e5] at this
      simp only[Zw,jk,jZ] at this
      rw[this.1,this.2.1,this.2.2] at c3
      simp at c3
     | true=>
      rw[jk,jT] at c3
      have h1:kd=pa.k:=jZ.mp c3.1
      have h2:ex=pa.x:=congrArg Prod.fst c3.2
      have h3:ey=pa.y:=congrArg Prod.snd c3.2
      have hrt:e.r=Vn pa:=by rw[er,h1,h2,h3];rfl
      have hm5:=s45 _ _ hm3
      refine ifF rfl ⟨_,rfl,_,rfl,mp,_,rfl,.inl (SqL.of hm5),rfl,vo _,_,rfl,?_⟩
      rw[zq qm,wn]
      by_cases c4:e.p∈met
      ·exact ifT (qv c4) (bad ew s45 fun z=>z.nw c4)
      ·refine ifF (jS c4) ?_
       obtain⟨ra,ms,era,hra,mlen,am⟩:=og.at (p:=e.p.toNat) (by omega)
       have ero:atI ozs e.p=some (.ref ra):=by rw[<- ep];exact zT era
       rw[ep] at am
       refine⟨_,rfl,_,rfl,ov,_,_,_,rfl,rfl,s35.seq og.ho,ero,ra,rfl,⟨_,s35.seq hra⟩,j4 (K:=K) (a:=ra) (xs:=ms.map V.int) (fun j zs H6=>zs=((ms.take j).map fun m=>!decide (m∈met)).map V.bl/\Same H5 H6) ⟨rfl,Same.refl _⟩ (fun j zs H6 ⟨_,s6⟩=>s6.seq (s35.seq hra)) ?_ ?_⟩
       ·rintro j x zs H6 hx ⟨rfl,s6⟩
        rw[qJ] at hx
        obtain⟨m,em,rfl⟩:=qw.mp hx
        have jl:=(zQ.mp em).1
        refine⟨rfl,_,rfl,_,rfl,mp,_,rfl,.inl (SqL.of (s6 _ _ hm5)),rfl,vo _,?_,?_,s6⟩
        ·rw[zp,zp,qT];omega
        ·rw[zx rfl,wn,qB em,zZ,zZ]
         rfl
       ·rintro zs H6 ⟨e1,s6⟩
        rw[zp,jh] at e1
        subst e1
        refine⟨by rw[zp,zp];omega,fun D hD=>⟨D,_,rfl,SqL.of zb,_,rfl,?_⟩⟩
        have s7:=s6.trans (ze (o:=.lst ((ms.map fun m=>!decide (m∈met)).map V.bl)) hD)
        generalize upd H6 D (.lst ((ms.map fun m=>!decide (m∈met)).map V.bl))=H7 at s7 ⊢
        cases c5:(ms.map fun m=>!decide (m∈met)).any id with
        | true=>
         refine ifT rfl (bad ew (s45.trans s7) fun z=>?_)
         obtain⟨b,hb,hb2⟩:=vO.mp c5
         obtain⟨m,hm,rfl⟩:=qo.mp hb
         have:=z.ab m ((am m).mp hm)
         have hb3:(!decide (m∈met))=true:=hb2
         rw[qv this] at hb3
         cases hb3
        | false=>
         have gl:yg J met e:=⟨c1.1,c1.2,c4,⟨pa,epa,hrt⟩,fun j hj=>by
          have:=List.any_eq_false.mp c5 (!decide (j∈met)) (qo.mpr ⟨j,(am j).mpr hj,rfl⟩)
          have h2:¬((!decide (j∈met))=true):=this
          by_cases z:j∈met
          ·exact z
          ·exact absurd (by rw[jS z];rfl) h2⟩
         rw[Xe ew gl] at gs
         have hm7:=s7 _ _ hm5
         exact ifF rfl ⟨_,rfl,.inl ⟨rfl,_,SqL.of hm7⟩,_,rfl,mp,_,_,rfl,rfl,hm7,by rw[zp];omega,_,_,met++[e.p],rfl,(s35.trans s7).putN hmp,by rw[zb,zZ];rfl,by rw[zW];show _+1<=_;omega,gs⟩
    ·rw[jS c1]
     exact ifT rfl (ifT rfl (bad ew s4 fun z=>c1 ⟨z.p0,z.p1⟩))
   ·rw[Qq ew] at gs
    exact ifF (jS fun z=>ew (V.str.inj z)) ⟨_,_,met,rfl,s3,hm3,by omega,gs⟩
  ·rintro σ H3 ⟨v4,v5,met,rfl,s3,_,_,go⟩
   rw[xl,jh] at go
   have:=k H3 s3
   unfold ZC at this
   rw[go] at this
   exact this
def GY(K:PySem.W.Frag)(H:Hp)(y:V):Prop:=∃e:GE,wA e/\Rep K H (geD e) y
theorem GY.keep{H H':Hp}{y:V}(h:GY K H y)(s:SameT H H'):GY K H' y:=let ⟨e,g,r⟩:=h;⟨e,g,r.keep s g.im⟩
theorem GY.all{H:Hp}:∀{ys:List V},(∀y∈ys,GY K H y)->∃fs:List GE,Reps K H (fs.map geD) ys/\(∀e∈fs,wA e)/\fs.length=ys.length
 | [],_=>⟨[],rfl,fun _ h=>absurd h xL,rfl⟩
 | y::ys,h=>by
  obtain⟨e,g,r⟩:=h y qP
  obtain⟨fs,rs,gs,l⟩:=GY.all fun z hz=>h z (qV _ hz)
  refine⟨e::fs,⟨y,ys,rfl,r,rs⟩,fun x hx=>?_,congrArg (·+1) l⟩
  rcases zS.mp hx with rfl | hx
  ·exact g
  ·exact gs x hx
theorem GY.of{H:Hp}{es:List GE}{xs:List V}(r:Reps K H (es.map geD) xs)(g:∀e∈es,wA e):∀y∈xs,GY K H y:=fun y hy=>by
 obtain⟨i,hi⟩:=List.getElem?_of_mem hy
 obtain⟨d,ed,rd⟩:=r.get hi
 rw[qJ] at ed
 obtain⟨e,ee,rfl⟩:=qw.mp ed
 exact⟨e,g e (qG ee),rd⟩
theorem BoxAt.putN{H:Hp}{b p:Addr}{n:Int}{o:HO}(B:BoxAt H b n)(h:p≠b):BoxAt (upd H p o) b n:=by
 obtain⟨b0,b1,b2,e,r⟩:=B
 exact⟨b0,b1,b2,by rw[zi (qz h)];exact e,r⟩
theorem wV{H:Hp}{a:Addr}{w:Str}{i:Int}{ds:List Dat}{rs:List V}(q:SqT K H a (.str w::.int i::rs))(r:Reps K H ds rs):Rep K H (geD ⟨w,i,ds⟩) (.ref a):=⟨a,_,rfl,q,_,_,rfl,rfl,_,_,rfl,rfl,r⟩
theorem zcE(x y:V)(r:List V):jN (x::y::r) none (some 1)=[x]:=by
 unfold jN
 rw[show(some (1:Int))=some ((1:Nat):Int) from rfl,HT.sIx_nat]
 have:min 1 (x::y::r).length=1:=by simp only[qU];omega
 rw[this]
 rfl
theorem zcD(x y:V)(r:List V):jN (x::y::r) none (some 2)=[x,y]:=by
 unfold jN
 rw[show(some (2:Int))=some ((2:Nat):Int) from rfl,HT.sIx_nat]
 have:min 2 (x::y::r).length=2:=by simp only[qU];omega
 rw[this]
 rfl
def KPl(K:PySem.W.Frag)(H:Hp)(v:V):Prop:=∃(q c:Addr) (k:Str) (x y:Int),v=.ref q/\SqT K H q [.str k,.ref c]/\SqT K H c [.int x,.int y]/\DB (.str k)/\DB (.tup [.int x,.int y])
theorem KPl.keep{H H':Hp}{v:V}(h:KPl K H v)(s:SameT H H'):KPl K H' v:=let ⟨q,c,k,x,y,e,a,b,d⟩:=h;⟨q,c,k,x,y,e,a.keep s,b.keep s,d⟩
theorem Qv{d:Dat}(h:DB d):∀x∈[d],DB x:=fun x hx=>by rw[qg.mp hx];exact h
theorem WB{d e:Dat}(h:DB d)(g:DB e):∀x∈[d,e],DB x:=fun x hx=>by
 rcases zS.mp hx with rfl | hx
 ·exact h
 ·exact Qv g x hx
theorem jI{x:Str}(h:(decide (x.length<=8)&&x.cps.toList.all fun c=>decide (c<1000000))=true):DB (.str x):=by
 rw[jk,jT] at h
 exact zac ⟨h.1,fun c hc=>jA (xM.mp h.2 c hc)⟩
inductive Vc(K:PySem.W.Frag)(vs:List V)(H:Hp)(Q:VK):Prop
 | mk (b jp l:Addr) (n:Int) (J:Job) (ord:List Nat) (es:List GE) (_:vs=[.ref b,.ref jp,.ref l]) (_:BoxAt H b n) (_:n<1000000000) (_:Rep K H (xR J) (.ref jp)) (_:JobOk J ord) (_:1<=J.ps.length) (_:1<=J.fs.length) (_:GEs K H l es) (_:l≠b) (_:(∀e∈es,wA e)) (_:es≠[]) (_:es.length<=9000) (_:∀(m:Int) (p:Addr) (fs:List GE) H',n<=m->m<=n+9->BoxAt H' b m->SameB b H H'->H p=none->GEs K H' p fs->(∀e∈fs,wA e)->fs.length<=es.length+1->Q (.ref p) H'):Vc K vs H Q
def Wc(K:PySem.W.Frag):Sp:=fun vs H Q _=>Vc K vs H Q
theorem zbG:zK ["_law_box_here", "_law_job_here", "_law_events", "_law_draw", "_law_at", "_law_to", "_law_some", "_law_event", "_law_kind", "_law_place_here", "_law_part", "_law_there", "_law_laid", "_law_feeder", "_law_more"] ["_law_box_here", "_law_job_here", "_law_events"] (zu (topL 41)):=⟨rfl,rfl,rfl,by decide +kernel,rfl,by decide +kernel,by decide +kernel⟩
theorem zdB{f:Addr}{fd:FuncData}(F:Fun K "_law_bent" "_law_bent" (topL 41) f fd)(B:Blt mg)(D_take:Dfn P w K mg base "_law_take" 1 ["_law_box_here", "_law_size"] xg):FnOk P w K mg base CX0 2 f fd ["_law_box_here", "_law_job_here", "_law_events"] (Wc K):=by
 have nd:=zbG.nd
 refine F.ok zbG (fun vs H Q E h=>?_) (fun cdv A outer s H vs Q E hr h=>?_)
 ·obtain⟨b,jp,l,n,J,ord,es,rfl,_⟩:=h
  rfl
 ·obtain⟨b,jp,l,n,J,ord,es,rfl,hb,hn,rj,jo,p1,f1,⟨xs,hl,rx⟩,nlb,gok,ne,el,k⟩:=h
  have hbig:1000000<sizeLine:=by rw[sizeLine_eq];decide
  have hu64:=hr.units
  have xl:=rx.len
  rw[zp] at xl
  have x1:0<es.length:=XD.mpr ne
  refine⟨_,(zg (zdc (i:=3) (j:=4) (l:=5) rfl nd rfl rfl rfl rfl rfl rfl (za (zk D_take (hr.mono (by decide)) rfl (za (pv 0) (za zf zd))) (za (zk D_take (hr.mono (by decide)) rfl (za (pv 0) (za (zo zw rfl B.len boot_len (za (pv 2) zd)) zd))) (za (zk D_take (hr.mono (by decide)) rfl (za (pv 0) (za (zo zw rfl B.len boot_len (za (pv 2) zd)) zd))) zd))) (by rfl))
   (zg (vY (i:=6) (j:=7) rfl nd rfl rfl (by decide) rfl rfl (za (jc yW rfl B.list jq (za (pv 2) zd)) (za (zr zJ (pv 2) (pv 4) (fun _ _=>rfl)) zd)) (by rfl))
   (zg (qY (zC ja (pv 3) zf (zE _))
   (zm (zU (qZ qW XM XL wI (pv 6) (za (pv 5) (za (qZ qW PySem.F.slot_list_pop PySem.F.type_list_pop Vu (pv 6) (za (pv 4) zd)) zd)))))
   (zm (qY (zC ja (pv 3) zf (zE _))
    (zm (zU (qZ qW PySem.F.slot_list_pop PySem.F.type_list_pop Vu (pv 6) (za (pv 4) zd))))
    (zm (qY (zC ja (pv 3) zf (zE _))
     (zm (zU (qZ qW XM XL wI (pv 6) (za (pv 5) (za (pv 7) zd)))))
     (zm (qY (zC ja (pv 3) zf (zE _))
      (zm (j7 (zX (za (zr zJ (pv 6) (pv 5) (fun _ _=>rfl)) (za (zr zJ (pv 6) (pv 4) (fun _ _=>rfl)) zd))) (xi rfl (zR (vB (pv 6) (pv 4) xh) (zR (vB (pv 6) (pv 5) xh) jH)))))
      (zm (qY (zC ja (pv 3) zf (zE _))
       (zm (j7 (zB yM (zB yM (xj Qd (pv 7) x9 (xA zf)) (zX (za (zB xN (zk D_take (hr.mono (by decide)) rfl (za (pv 0) (za (zB qE (zo zw rfl B.len boot_len (za (zr zM (pv 1) zf (fun _ _=>rfl)) zd)) zf) zd))) zf) zd))) (xj Qd (pv 7) (xA zf) x9)) (vB (pv 6) (pv 4) xh)))
       (zm (qY (PW.pt (J3 (zC ja (pv 3) zf (zE _)) (ZY (zC ja (zr zM (pv 7) zf (fun _ _=>rfl)) zL (zE _)))))
        (zg (j7 (zr zM (zr zM (pv 1) zf (fun _ _=>rfl)) (zk D_take (hr.mono (by decide)) rfl (za (pv 0) (za (zo zw rfl B.len boot_len (za (zr zM (pv 1) zf (fun _ _=>rfl)) zd)) zd))) (fun _ _=>rfl)) (xi rfl (zR (zy (i:=8) nd rfl (Or.inl rfl)) (zR (zy (i:=9) nd rfl (Or.inl rfl)) jH))))
         (zm (j7 (zB yM (xj Qd (pv 7) x9 (xA zf)) (zr zJ (zN (za (zX (za (pv 8) (za (zr zM (pv 7) zf (fun _ _=>rfl)) zd))) (za (zX (za (zr zM (pv 7) zf (fun _ _=>rfl)) (za (pv 9) zd))) (za (zX (za (pv 8) (za (pv 9) zd))) zd)))) (zk D_take (hr.mono (by decide)) rfl (za (pv 0) (za zf zd))) (fun _ _=>rfl))) (vB (pv 6) (pv 4) xh))))
        (zm (qY (zC ja (pv 3) zf (zE _))
         (zg (vY (i:=10) (j:=11) rfl nd rfl rfl (by decide) rfl rfl (za (zB xN (zk D_take (hr.mono (by decide)) rfl (za (pv 0) (za (zB qE (zo zw rfl B.len boot_len (za (zr zM (pv 1) zf (fun _ _=>rfl)) zd)) zf) zd))) zf) (za (zk D_take (hr.mono (by decide)) rfl (za (pv 0) (za (zo zw rfl B.len boot_len (za (zr zM (pv 1) zf (fun _ _=>rfl)) zd)) zd))) zd)) (by rfl))
          (zg (xQ (zD (i:=11) nd rfl (Or.inl rfl) (xm (zC ja (zk D_take (hr.mono (by decide)) rfl (za (pv 0) (za zf zd))) zf (zE _)) (zB xv (pv 10) (zo zw rfl B.len boot_len (za (zr zM (pv 1) zf (fun _ _=>rfl)) zd))) (pv 11))))
          (zg (vY (i:=12) (j:=13) rfl nd rfl rfl (by decide) rfl rfl (za (zB yM (zX (za zL (za (pv 10) zd))) (zr zM (zr zM (pv 1) zf (fun _ _=>rfl)) (pv 11) (fun _ _=>rfl))) (za (zk D_take (hr.mono (by decide)) rfl (za (pv 0) (za (zo zw rfl B.len boot_len (za (zr zM (pv 1) zf (fun _ _=>rfl)) zd)) zd))) zd)) (by rfl))
          (zg (zD (i:=14) nd rfl (Or.inl rfl) (zN (pa5 (zX (za zL (za (pv 10) (za (pv 13) zd)))) (zX (za zL (za (pv 10) (za (pv 13) zd)))) (zX (za zL (za (pv 10) zd))) (zX (za zL (za (pv 10) zd))) (zX (za zL (za (pv 10) zd))))))
          (zm (zU (qZ qW XM XL wI (pv 6) (za (pv 5) (za (zr zJ (zB Zp (zB Zp (zN (za (pv 12) (za (pv 12) (za (pv 12) zd)))) (pv 14)) (zN (za (zX (za zL (za (pv 10) zd))) zd))) (zk D_take (hr.mono (by decide)) rfl (za (pv 0) (za zf zd))) (fun _ _=>rfl)) zd)))))))))
         (zm (zU (zff qW PySem.F.slot_list_reverse PySem.F.type_list_reverse Wq (pv 6)))))))))))))))))
   (zm (zH (pv 6)))))),?_⟩
  refine⟨_,rfl,b,8,n,rfl,hb,by omega,by decide,by decide,fun d H1 d0 d1 B1 S1=>?_⟩
  have hl1:=S1 _ _ hl nlb
  refine⟨_,rfl,_,rfl,l,_,rfl,.inl (SqL.of hl1),b,_,_,rfl,B1,by omega,by omega,by omega,fun a H2 a0 a1 B2 S2=>?_⟩
  have hl2:=S2 _ _ hl1 nlb
  refine⟨_,rfl,_,rfl,l,_,rfl,.inl (SqL.of hl2),b,_,_,rfl,B2,by omega,by omega,by omega,fun t H3 t0 t1 B3 S3=>⟨_,_,_,rfl,?_⟩⟩
  have hl3:=S3 _ _ hl2 nlb
  have S13:=(S1.trans S2).trans S3
  have rx3:=((rx.keep (SameT.draw hb S1) (wL gok)).keep (SameT.draw B1 S2) (wL gok)).keep (SameT.draw B2 S3) (wL gok)
  have rj3:=((rj.keep (SameT.draw hb S1) (jX J)).keep (SameT.draw B1 S2) (jX J)).keep (SameT.draw B2 S3) (jX J)
  obtain⟨an,rfl⟩:∃z:Nat,a=(z:Int):=⟨a.toNat,by omega⟩
  obtain⟨tn,rfl⟩:∃z:Nat,t=(z:Int):=⟨t.toNat,by omega⟩
  have al:an<xs.length:=by omega
  have tl:tn<xs.length:=by omega
  have eax:xs[an]? =some xs[an]:=qX al
  have etx:xs[tn]? =some xs[tn]:=qX tl
  generalize xs[an]=x at eax
  generalize xs[tn]=y at etx
  have xin:=qG eax
  have yin:=qG etx
  refine⟨_,rfl,l,_,rfl,.inl (SqL.of hl3),fun p hp=>?_⟩
  have pb:=B3.nne hp
  have s4:=ze (o:=.lst xs) hp
  have hp4:=zb (H:=H3) (a:=p) (o:=.lst xs)
  have B4:=B3.new (o:=.lst xs) hp
  have S4:=S13.new (o:=.lst xs) hp
  have hl4:=s4 _ _ hl3
  have hpN:=S13.none hp pb
  have rx4:=rx3.same s4
  have rj4:=rj3.same s4
  generalize upd H3 p (.lst xs)=H4 at s4 hp4 B4 S4 hl4 rx4 rj4 ⊢
  have g4:=GY.of rx4 gok
  have fin:∀{m:Int} {ys:List V} {H':Hp},n<=m->m<=n+9->BoxAt H' b m->SameB b H H'->H' p=some (.lst ys)->(∀z∈ys,GY K H' z)->ys.length<=xs.length+1->Q (.ref p) H':=fun m1 m2 Bm Sm hy gy ly=>by
   obtain⟨fs,r1,r2,r3⟩:=GY.all gy
   exact k _ p fs _ m1 m2 Bm Sm hpN ⟨_,hy,r1⟩ r2 (by omega)
  have fi:∀{m:Int} {us ys:List V} {H5:Hp},n<=m->m<=n+9->BoxAt H5 b m->SameB b H H5->SameT H4 H5->H5 p=some (.lst us)->(∀z∈ys,z∈xs\/GY K H5 z)->ys.length<=xs.length+1->Q (.ref p) (upd H5 p (.lst ys)):=fun m1 m2 B5 S5 s5 h5 hy ly=>fin m1 m2 (B5.putN pb) (S5.put hpN) zb (fun z hz=>((hy z hz).elim (fun h=>(g4 z h).keep s5) id).keep (SameT.put h5)) ly
  have fi4:∀{ys:List V},(∀z∈ys,z∈xs)->ys.length<=xs.length+1->Q (.ref p) (upd H4 p (.lst ys)):=fun hy ly=>fi (m:=n+1+1+1) (by omega) (by omega) B4 S4 (.refl _) hp4 (fun z hz=>.inl (hy z hz)) ly
  have put:∀{m:Int} {v:V} {H5:Hp},n<=m->m<=n+9->BoxAt H5 b m->SameB b H4 H5->GY K H5 v->Q (.ref p) (upd H5 p (.lst (xs.set an v))):=fun m1 m2 B5 S5 g=>fi m1 m2 B5 (S4.trans S5) (SameT.draw B4 S5) (S5 _ _ hp4 pb) (fun z hz=>by
   rcases W2 hz with hz | rfl
   ·exact .inl hz
   ·exact .inr g) (by rw[w8];omega)
  have ins:∀{m:Int} {v:V} {H5:Hp},n<=m->m<=n+9->BoxAt H5 b m->SameB b H4 H5->GY K H5 v->Q (.ref p) (upd H5 p (.lst (xs.take tn++v::xs.drop tn))):=fun m1 m2 B5 S5 g=>fi m1 m2 B5 (S4.trans S5) (SameT.draw B4 S5) (S5 _ _ hp4 pb) (fun z hz=>by
   rcases zY.mp hz with hz | hz
   ·exact .inl (QV hz)
   ·rcases zS.mp hz with rfl | hz
    ·exact .inr g
    ·exact .inl (XE hz)) (by rw[zW,qU,qT,ya];omega)
  have rev:Q (.ref p) (upd H4 p (.lst xs.reverse)):=fi4 (fun z hz=>List.mem_reverse.mp hz) (by rw[QT];omega)
  refine⟨_,rfl,_,rfl,l,_,_,_,rfl,rfl,SqL.of hl4,zT eax,_,_,rfl,?_⟩
  refine⟨_,rfl,rfl,_,rfl,jD (fun c=>?_) (fun c=>?_)⟩
  ·have er:(xs.eraseIdx an).length=xs.length-1:=by rw[List.length_eraseIdx,zx al]
   refine⟨_,rfl,.inl ⟨rfl,_,SqL.of hp4⟩,_,rfl,_,rfl,.inl ⟨rfl,_,SqL.of hp4⟩,_,rfl,p,xs,_,an,x,rfl,rfl,hp4,by omega,by omega,(ZZ (xE al)).1,eax,p,_,_,x,rfl,rfl,zb,by omega,by omega,by rw[er];omega,?_⟩
   refine⟨_,rfl,fi (m:=n+1+1+1) (by omega) (by omega) (B4.putN pb) (S4.put hpN) (SameT.put hp4) zb (fun z hz=>.inl ?_) (by rw[zW,qU,qT,ya,er];omega)⟩
   rcases zY.mp hz with hz | hz
   ·exact W0 (QV hz)
   ·rcases zS.mp hz with rfl | hz
    ·exact xin
    ·exact W0 (XE hz)
  refine⟨_,rfl,rfl,_,rfl,jD (fun c=>?_) (fun c=>?_)⟩
  ·refine⟨_,rfl,.inl ⟨rfl,_,SqL.of hp4⟩,_,rfl,p,xs,_,an,x,rfl,rfl,hp4,by omega,by omega,(ZZ (xE al)).1,eax,?_⟩
   exact⟨_,rfl,fi4 (fun z hz=>W0 hz) (by rw[List.length_eraseIdx];split<;>omega)⟩
  refine⟨_,rfl,rfl,_,rfl,jD (fun c=>?_) (fun c=>?_)⟩
  ·refine⟨_,rfl,.inl ⟨rfl,_,SqL.of hp4⟩,_,rfl,_,rfl,p,xs,_,x,rfl,rfl,hp4,by omega,by omega,by omega,?_⟩
   refine⟨_,rfl,fi4 (fun z hz=>?_) (by rw[zW,qU,qT,ya];omega)⟩
   rcases zY.mp hz with hz | hz
   ·exact QV hz
   ·rcases zS.mp hz with rfl | hz
    ·exact xin
    ·exact XE hz
  refine⟨_,rfl,rfl,_,rfl,jD (fun c=>?_) (fun c=>?_)⟩
  ·refine⟨_,rfl,_,rfl,p,_,_,_,rfl,rfl,SqL.of hp4,zT etx,_,rfl,_,rfl,p,_,_,_,rfl,rfl,SqL.of hp4,zT eax,le2,fun T hT=>?_⟩
   have hp5:=(ze (o:=.tup [y,x]) hT) _ _ hp4
   refine⟨T,_,rfl,SqT.of zb,rfl,_,_,rfl,_,rfl,_,rfl,p,xs,_,an,rfl,rfl,hp5,xE al,_,_,rfl,_,rfl,_,rfl,p,_,_,tn,rfl,rfl,zb,xE (by rw[w8];exact tl),rfl,?_⟩
   refine⟨_,rfl,fi (m:=n+1+1+1) (by omega) (by omega) ((B4.new hT).putN pb) ((S4.new hT).put hpN) ((SameT.of (ze hT)).trans (SameT.put hp5)) zb (fun z hz=>.inl ?_) (by rw[w8,w8];omega)⟩
   rcases W2 hz with hz | rfl
   ·rcases W2 hz with hz | rfl
    ·exact hz
    ·exact yin
   ·exact xin
  obtain⟨e,ge,re⟩:=g4 x xin
  obtain⟨ea,rs,rfl,qa,rr⟩:=yR re
  have rsl:rs.length<=2:=by have:=rr.len;have:=ge.sz;omega
  obtain⟨gg,fs,ps,as,fv,px,qj,_,qf,rf,qps,rpp,_⟩:=xx rj4
  have lpx:=rpp.len
  rw[zp] at lpx
  have lfx:=rf.len
  rw[zp] at lfx
  have fl40:=jo.fl
  have pl60:=jo.pl
  refine⟨_,rfl,rfl,_,rfl,jD (fun c=>?_) (fun c=>?_)⟩
  ·refine⟨_,rfl,1,rfl,ea,_,rfl,qa,(fun z=>absurd z.2 (by
      rw[show(some (1:Int))=some ((1:Nat):Int) from rfl,HT.sIx_nat]
      simp only[qU]
      omega)),fun T1 hT1=>?_⟩
   rw[zcE]
   have s5:=ze (H:=H4) (o:=.tup [.str e.w]) hT1
   have hT5:=zb (H:=H4) (a:=T1) (o:=.tup [.str e.w])
   have B5:=B4.new (o:=.tup [.str e.w]) hT1
   generalize upd H4 T1 (.tup [.str e.w])=H5 at s5 hT5 B5 ⊢
   refine⟨_,rfl,_,rfl,jp,_,_,_,rfl,rfl,s5.sqT qj,rfl,ps,_,rfl,.inr (s5.sqT qps),_,_,rfl,rfl,b,_,_,rfl,B5,by omega,by omega,by omega,fun r H6 r0 r1 B6 S6=>?_⟩
   have S46:SameB b H4 H6:=(SameB.of s5).trans S6
   have hT6:=S6 _ _ hT5 (B4.nne hT1)
   refine⟨_,_,rfl,rfl,le1,fun T2 hT2=>?_⟩
   have s7:=ze (H:=H6) (o:=.tup [.int (r-2)]) hT2
   have hU7:=zb (H:=H6) (a:=T2) (o:=.tup [.int (r-2)])
   have B7:=B6.new (o:=.tup [.int (r-2)]) hT2
   have hT7:=s7 _ _ hT6
   have S47:=S46.trans (.of s7)
   generalize upd H6 T2 (.tup [.int (r-2)])=H7 at s7 hU7 B7 hT7 S47 ⊢
   refine⟨T1,T2,_,_,rfl,rfl,SqT.of hT7,SqT.of hU7,(fun z=>nomatch z),by show 2<=_;omega,(fun z=>nomatch z),fun _ T3 hT3=>?_⟩
   have s8:=ze (H:=H7) (o:=.tup ([.str e.w]++[.int (r-2)])) hT3
   have hT8:=zb (H:=H7) (a:=T3) (o:=.tup ([.str e.w]++[.int (r-2)]))
   have B8:=B7.new (o:=.tup ([.str e.w]++[.int (r-2)])) hT3
   have S48:=S47.trans (.of s8)
   generalize upd H7 T3 (.tup ([.str e.w]++[.int (r-2)]))=H8 at s8 hT8 B8 S48 ⊢
   refine⟨_,rfl,2,rfl,ea,_,rfl,qa.keep (SameT.draw B4 S48),(fun z=>absurd z.1 (by
      rw[show(some (2:Int))=some ((2:Nat):Int) from rfl,HT.sIx_nat]
      simp only[qU]
      omega)),fun T4 hT4=>?_⟩
   rw[Qw]
   have s9:=ze (H:=H8) (o:=.tup rs) hT4
   have hT9:=zb (H:=H8) (a:=T4) (o:=.tup rs)
   have B9:=B8.new (o:=.tup rs) hT4
   have S49:=S48.trans (.of s9)
   have hX9:=s9 _ _ hT8
   generalize upd H8 T4 (.tup rs)=H9 at s9 hT9 B9 S49 hX9 ⊢
   have rr9:=rr.keep (SameT.draw B4 S49) (show Dat.imms e.r=true from ge.im)
   have gk:wA ⟨e.w,r-2,e.r⟩:=⟨fun h=>ge.ld h,ge.im,ge.sz,ge.wb,(by show(r-2).natAbs<=_;omega),ge.rb⟩
   refine⟨T3,T4,_,_,rfl,rfl,SqT.of hX9,SqT.of hT9,(fun z=>nomatch z),by show 2+rs.length<=_;omega,fun z=>?_,fun z T5 hT5=>?_⟩
   ·subst z
    exact⟨_,rfl,_,rfl,p,_,_,an,rfl,rfl,S49 _ _ hp4 pb,xE al,_,rfl,put (by omega) (by omega) B9 S49 ⟨_,gk,wV (SqT.of hX9) rr9⟩⟩
   ·have s10:=ze (H:=H9) (o:=.tup (([.str e.w]++[.int (r-2)])++rs)) hT5
    have S410:=S49.trans (.of s10)
    exact⟨_,rfl,_,rfl,p,_,_,an,rfl,rfl,S410 _ _ hp4 pb,xE al,_,rfl,put (by omega) (by omega) (B9.new hT5) S410 ⟨_,gk,wV (SqT.of zb) (rr9.same s10)⟩⟩
  refine⟨_,rfl,rfl,_,rfl,jD (fun c5=>?_) (fun c5=>ifF rfl ?_)⟩
  ·refine⟨_,rfl,ea,_,_,_,rfl,rfl,qa,zT (j:=0) rfl,rfl,_,rfl,jD (fun c6=>?_) (fun c6=>?_)⟩
   ·have ew:e.w=("laid" : Str):=V.str.inj (jA c6)
    obtain⟨kd,ex,ey,er⟩:=ge.ld ew
    rw[er] at rr
    obtain⟨c0,rfl,qc⟩:=YT rr
    refine⟨_,rfl,jp,_,_,_,rfl,rfl,qj,rfl,_,rfl,_,rfl,jp,_,_,_,rfl,rfl,qj,rfl,ps,_,rfl,.inr qps,b,_,_,rfl,B4,by omega,by omega,by omega,fun r H5 r0 r1 B5 S5=>?_⟩
    obtain⟨rn,rfl⟩:∃z:Nat,r=(z:Int):=⟨r.toNat,by omega⟩
    have epa:J.ps[rn]? =some J.ps[rn]:=qX (by omega)
    generalize J.ps[rn]=pa at epa
    obtain⟨pv0,epv,rpv⟩:=vJ rpp epa
    obtain⟨pad,pac,rfl,qpa,qpc⟩:=xS rpv
    have nk:=zac (jo.pa pa (qG epa)).1
    have np:=zcA (jo.pa pa (qG epa)).2.1
    have gb:DB (.str kd)/\DB (.tup [.int ex,.int ey]):=⟨ge.rb _ (by rw[er];exact qP),ge.rb _ (by rw[er];exact qV _ qP)⟩
    have t5:=SameT.draw B4 S5
    refine⟨ps,_,_,_,rfl,rfl,qps.keep t5,zT epv,pad,_,rfl,qpa.keep t5,rfl,_,_,rfl,_,_,rfl,rfl,?_⟩
    have qa5:=qa.keep t5
    have qc5:=qc.keep t5
    have qpc5:=qpc.keep t5
    refine⟨_,rfl,2,rfl,ea,_,rfl,qa5,(fun z=>absurd z.2 (by
      rw[show(some (2:Int))=some ((2:Nat):Int) from rfl,HT.sIx_nat]
      simp only[qU]
      omega)),fun T1 hT1=>?_⟩
    rw[zcD]
    have s6:=ze (H:=H5) (o:=.tup [.str e.w,.int e.p]) hT1
    have h1:=zb (H:=H5) (a:=T1) (o:=.tup [.str e.w,.int e.p])
    have B6:=B5.new (o:=.tup [.str e.w,.int e.p]) hT1
    have b1:=B5.nne hT1
    generalize upd H5 T1 (.tup [.str e.w,.int e.p])=H6 at s6 h1 B6 ⊢
    refine⟨_,rfl,_,rfl,ea,_,_,_,rfl,rfl,s6.sqT qa5,zT (j:=3) rfl,le2,fun T2 hT2=>?_⟩
    have s7:=ze (H:=H6) (o:=.tup [.str pa.k,.ref c0]) hT2
    have h2:=zb (H:=H6) (a:=T2) (o:=.tup [.str pa.k,.ref c0])
    have B7:=B6.new (o:=.tup [.str pa.k,.ref c0]) hT2
    generalize upd H6 T2 (.tup [.str pa.k,.ref c0])=H7 at s7 h2 B7 ⊢
    have s57:=s6.trans s7
    have k2:KPl K H7 (.ref T2):=⟨T2,c0,_,_,_,rfl,SqT.of h2,s57.sqT qc5,nk,gb.2⟩
    refine⟨_,rfl,ea,_,_,_,rfl,rfl,s57.sqT qa5,zT (j:=2) rfl,_,rfl,le2,fun T3 hT3=>?_⟩
    have s8:=ze (H:=H7) (o:=.tup [.str kd,.ref pac]) hT3
    have h3:=zb (H:=H7) (a:=T3) (o:=.tup [.str kd,.ref pac])
    have B8:=B7.new (o:=.tup [.str kd,.ref pac]) hT3
    generalize upd H7 T3 (.tup [.str kd,.ref pac])=H8 at s8 h3 B8 ⊢
    have s58:=s57.trans s8
    have k3:KPl K H8 (.ref T3):=⟨T3,pac,_,_,_,rfl,SqT.of h3,s58.sqT qpc5,gb.1,np⟩
    refine⟨_,rfl,_,rfl,le2,fun T4 hT4=>?_⟩
    have s9:=ze (H:=H8) (o:=.tup [.str pa.k,.ref pac]) hT4
    have h4:=zb (H:=H8) (a:=T4) (o:=.tup [.str pa.k,.ref pac])
    have B9:=B8.new (o:=.tup [.str pa.k,.ref pac]) hT4
    generalize upd H8 T4 (.tup [.str pa.k,.ref pac])=H9 at s9 h4 B9 ⊢
    have s59:=s58.trans s9
    have k4:KPl K H9 (.ref T4):=⟨T4,pac,_,_,_,rfl,SqT.of h4,s59.sqT qpc5,nk,np⟩
    refine⟨le3,fun L hL=>?_⟩
    have s10:=ze (H:=H9) (o:=.lst [.ref T2,.ref T3,.ref T4]) hL
    have h5:=zb (H:=H9) (a:=L) (o:=.lst [.ref T2,.ref T3,.ref T4])
    have B10:=B9.new (o:=.lst [.ref T2,.ref T3,.ref T4]) hL
    have b5:=B9.nne hL
    generalize upd H9 L (.lst [.ref T2,.ref T3,.ref T4])=H10 at s10 h5 B10 ⊢
    have kall:∀v∈[V.ref T2,V.ref T3,V.ref T4],KPl K H10 v:=fun v hv=>by
     rcases zS.mp hv with rfl | hv
     ·exact k2.keep (.of ((s8.trans s9).trans s10))
     ·rcases zS.mp hv with rfl | hv
      ·exact k3.keep (.of (s9.trans s10))
      ·rw[qg.mp hv]
       exact k4.keep (.of s10)
    have h1':=((s7.trans s8).trans (s9.trans s10)) _ _ h1
    have S410:=S5.trans (.of (b:=b) (s59.trans s10))
    refine⟨_,rfl,b,3,_,rfl,B10,by omega,by decide,by decide,fun r2 H11 r20 r21 B11 S11=>?_⟩
    obtain⟨v,ev,kv⟩:=zeA (xs:=[V.ref T2,V.ref T3,V.ref T4]) r20 r21 kall
    obtain⟨q,c2,k5,x5,y5,rfl,q1,q2,q3,q4⟩:=kv.keep (SameT.draw B10 S11)
    have S411:=S410.trans S11
    refine⟨L,_,_,_,rfl,rfl,SqL.of (S11 _ _ h5 b5),ev,T1,q,_,_,rfl,rfl,SqT.of (S11 _ _ h1' b1),q1,(fun z=>nomatch z),by show 4<=_;omega,(fun z=>nomatch z),fun _ T6 hT6=>?_⟩
    have s12:=ze (H:=H11) (o:=.tup ([.str e.w,.int e.p]++[.str k5,.ref c2])) hT6
    have S412:=S411.trans (.of s12)
    refine⟨_,rfl,_,rfl,p,_,_,an,rfl,rfl,S412 _ _ hp4 pb,xE al,_,rfl,put (by omega) (by omega) (B11.new hT6) S412 ⟨⟨e.w,e.p,[.str k5,.tup [.int x5,.int y5]]⟩,⟨fun _=>⟨k5,x5,y5,rfl⟩,rfl,zG _,ge.wb,ge.pb,WB q3 q4⟩,wV (SqT.of zb) ⟨_,_,rfl,rfl,_,_,rfl,⟨c2,_,rfl,s12.sqT q2,_,_,rfl,rfl,_,_,rfl,rfl,rfl⟩,rfl⟩⟩⟩
   ·refine⟨_,rfl,rfl,_,rfl,jD (fun c7=>?_) (fun c7=>?_)⟩
    ·have h5:=V.int.inj (jA c5)
     have h6:=V.int.inj (jA c7)
     omega
    ·exact⟨_,rfl,.inl ⟨rfl,_,SqL.of hp4⟩,p,xs,rfl,rfl,hp4,_,rfl,rev⟩
  refine⟨_,rfl,rfl,_,rfl,jD (fun c7=>?_) (fun c7=>⟨_,rfl,.inl ⟨rfl,_,SqL.of hp4⟩,p,xs,rfl,rfl,hp4,_,rfl,rev⟩)⟩
  refine⟨_,rfl,_,rfl,jp,_,_,_,rfl,rfl,qj,rfl,ps,_,rfl,.inr qps,_,_,rfl,rfl,b,_,_,rfl,B4,by omega,by omega,by omega,fun r H5 r0 r1 B5 S5=>⟨_,_,rfl,rfl,?_⟩⟩
  have t5:=SameT.draw B4 S5
  refine⟨_,rfl,_,rfl,jp,_,_,_,rfl,rfl,qj.keep t5,rfl,ps,_,rfl,.inr (qps.keep t5),b,_,_,rfl,B5,by omega,by omega,by omega,fun r2 H6 r20 r21 B6 S6=>⟨_,_,rfl,?_⟩⟩
  have S46:=S5.trans S6
  refine⟨fun σ' H'=>Ex1 fun(th:Int)=>An5 (σ'=[some (.ref b),some (.ref jp),some (.ref l),some (.int d),some (.int an),some (.int tn),some (.ref p),some (.ref ea),none,none,some (.int (r-2)),some (.int th),none,none,none]) (0<=th) (th<J.ps.length) (SameB b H4 H') (BoxAt H' b (n+6)),?_,?_⟩
  ·refine⟨_,rfl,b,2,_,rfl,B6,by omega,by decide,by decide,fun r3 H7 r30 r31 B7 S7=>⟨rfl,_,rfl,jD (fun c8=>?_) (fun c8=>?_)⟩⟩
   ·have S47:=S46.trans S7
    have t7:=SameT.draw B4 S47
    have lp:(0:Int)<px.length:=by omega
    refine⟨_,rfl,_,rfl,jp,_,_,_,rfl,rfl,qj.keep t7,rfl,ps,_,rfl,.inr (qps.keep t7),_,_,rfl,rfl,lp,_,rfl,w6 _ (by omega),by have:=yb (r-2) lp;omega,S47,B7.mono (by omega)⟩
   ·exact⟨_,rfl,_,rfl,r20,by omega,S46.trans S7,B7.mono (by omega)⟩
  rintro σ H7 ⟨th,rfl,th0,th1,S47,B7⟩
  have rb2:(r-2).natAbs<=1000000:=by omega
  obtain⟨hn,rfl⟩:∃z:Nat,th=(z:Int):=⟨th.toNat,by omega⟩
  have epa:J.ps[hn]? =some J.ps[hn]:=qX (by omega)
  generalize J.ps[hn]=pa at epa
  obtain⟨pv0,epv,rpv⟩:=vJ rpp epa
  obtain⟨pad,pac,rfl,qpa,qpc⟩:=xS rpv
  refine⟨_,rfl,le2,fun T1 hT1=>?_⟩
  have s8:=ze (H:=H7) (o:=.tup [.str "laid",.int (r-2)]) hT1
  have u8:=zb (H:=H7) (a:=T1) (o:=.tup [.str "laid",.int (r-2)])
  have B8:=B7.new (o:=.tup [.str "laid",.int (r-2)]) hT1
  have n8:=B7.nne hT1
  have S48:=S47.trans (.of (b:=b) s8)
  generalize upd H7 T1 (.tup [.str "laid",.int (r-2)])=H8 at s8 u8 B8 S48 ⊢
  have t8:=SameT.draw B4 S48
  refine⟨_,rfl,jp,_,_,_,rfl,rfl,qj.keep t8,rfl,_,rfl,ps,_,_,_,rfl,rfl,qps.keep t8,zT epv,T1,pad,_,_,rfl,rfl,SqT.of u8,qpa.keep t8,(fun z=>nomatch z),by show 4<=_;omega,(fun z=>nomatch z),fun _ T2 hT2=>?_⟩
  have s9:=ze (H:=H8) (o:=.tup ([.str "laid",.int (r-2)]++[.str pa.k,.ref pac])) hT2
  have u9:=zb (H:=H8) (a:=T2) (o:=.tup ([.str "laid",.int (r-2)]++[.str pa.k,.ref pac]))
  have B9:=B8.new (o:=.tup ([.str "laid",.int (r-2)]++[.str pa.k,.ref pac])) hT2
  have n9:=B8.nne hT2
  have S49:=S48.trans (.of (b:=b) s9)
  generalize upd H8 T2 (.tup ([.str "laid",.int (r-2)]++[.str pa.k,.ref pac]))=H9 at s9 u9 B9 S49 ⊢
  have t9:=SameT.draw B4 S49
  have gT:GY K H9 (.ref T2):=⟨⟨("laid" : Str),r-2,[.str pa.k,.tup [.int pa.x,.int pa.y]]⟩,⟨fun _=>⟨_,_,_,rfl⟩,rfl,zG _,jI (by rfl),rb2,WB (zac (jo.pa pa (qG epa)).1) (zcA (jo.pa pa (qG epa)).2.1)⟩,wV (SqT.of u9) ⟨_,_,rfl,rfl,_,_,rfl,⟨pac,_,rfl,qpc.keep t9,_,_,rfl,rfl,_,_,rfl,rfl,rfl⟩,rfl⟩⟩
  refine⟨_,rfl,_,rfl,jp,_,_,_,rfl,rfl,qj.keep t9,rfl,fs,_,rfl,.inr (qf.keep t9),b,_,_,rfl,B9,by omega,by omega,by omega,fun fr H10 fr0 fr1 B10 S10=>⟨_,_,rfl,?_⟩⟩
  have S410:=S49.trans S10
  have gT10:=gT.keep (SameT.draw B9 S10)
  have fb2:fr.natAbs<=1000000:=by omega
  refine⟨_,rfl,_,rfl,le3,fun A1 hA1=>?_⟩
  have s11:=ze (H:=H10) (o:=.tup [.str "picked",.int (r-2),.int fr]) hA1
  have u11:=zb (H:=H10) (a:=A1) (o:=.tup [.str "picked",.int (r-2),.int fr])
  have B11:=B10.new (o:=.tup [.str "picked",.int (r-2),.int fr]) hA1
  have n11:=B10.nne hA1
  have S411:=S410.trans (.of (b:=b) s11)
  generalize upd H10 A1 (.tup [.str "picked",.int (r-2),.int fr])=H11 at s11 u11 B11 S411 ⊢
  have gA1:GY K H11 (.ref A1):=⟨⟨("picked" : Str),r-2,[.int fr]⟩,⟨fun h=>absurd (show("picked" : Str)=("laid" : Str) from h) (by decide),rfl,(by decide:1<=2),jI (by rfl),rb2,Qv (yp fb2)⟩,wV (SqT.of u11) ⟨_,_,rfl,rfl,rfl⟩⟩
  refine⟨_,rfl,_,rfl,le3,fun A2 hA2=>?_⟩
  have s12:=ze (H:=H11) (o:=.tup [.str "missed",.int (r-2),.int fr]) hA2
  have u12:=zb (H:=H11) (a:=A2) (o:=.tup [.str "missed",.int (r-2),.int fr])
  have B12:=B11.new (o:=.tup [.str "missed",.int (r-2),.int fr]) hA2
  have n12:=B11.nne hA2
  have S412:=S411.trans (.of (b:=b) s12)
  generalize upd H11 A2 (.tup [.str "missed",.int (r-2),.int fr])=H12 at s12 u12 B12 S412 ⊢
  have gA2:GY K H12 (.ref A2):=⟨⟨("missed" : Str),r-2,[.int fr]⟩,⟨fun h=>absurd (show("missed" : Str)=("laid" : Str) from h) (by decide),rfl,(by decide:1<=2),jI (by rfl),rb2,Qv (yp fb2)⟩,wV (SqT.of u12) ⟨_,_,rfl,rfl,rfl⟩⟩
  refine⟨_,rfl,le2,fun A3 hA3=>?_⟩
  have s13:=ze (H:=H12) (o:=.tup [.str "none",.int (r-2)]) hA3
  have u13:=zb (H:=H12) (a:=A3) (o:=.tup [.str "none",.int (r-2)])
  have B13:=B12.new (o:=.tup [.str "none",.int (r-2)]) hA3
  have n13:=B12.nne hA3
  have S413:=S412.trans (.of (b:=b) s13)
  generalize upd H12 A3 (.tup [.str "none",.int (r-2)])=H13 at s13 u13 B13 S413 ⊢
  have gA3:GY K H13 (.ref A3):=⟨⟨("none" : Str),r-2,[]⟩,⟨fun h=>absurd (show("none" : Str)=("laid" : Str) from h) (by decide),rfl,(by decide:0<=2),jI (by rfl),rb2,fun _ h=>absurd h xL⟩,wV (SqT.of u13) rfl⟩
  refine⟨_,rfl,le2,fun A4 hA4=>?_⟩
  have s14:=ze (H:=H13) (o:=.tup [.str "failed",.int (r-2)]) hA4
  have u14:=zb (H:=H13) (a:=A4) (o:=.tup [.str "failed",.int (r-2)])
  have B14:=B13.new (o:=.tup [.str "failed",.int (r-2)]) hA4
  have n14:=B13.nne hA4
  have S414:=S413.trans (.of (b:=b) s14)
  generalize upd H13 A4 (.tup [.str "failed",.int (r-2)])=H14 at s14 u14 B14 S414 ⊢
  have gA4:GY K H14 (.ref A4):=⟨⟨("failed" : Str),r-2,[]⟩,⟨fun h=>absurd (show("failed" : Str)=("laid" : Str) from h) (by decide),rfl,(by decide:0<=2),jI (by rfl),rb2,fun _ h=>absurd h xL⟩,wV (SqT.of u14) rfl⟩
  refine⟨_,rfl,le2,fun A5 hA5=>?_⟩
  have s15:=ze (H:=H14) (o:=.tup [.str "behind",.int (r-2)]) hA5
  have u15:=zb (H:=H14) (a:=A5) (o:=.tup [.str "behind",.int (r-2)])
  have B15:=B14.new (o:=.tup [.str "behind",.int (r-2)]) hA5
  have n15:=B14.nne hA5
  have S415:=S414.trans (.of (b:=b) s15)
  generalize upd H14 A5 (.tup [.str "behind",.int (r-2)])=H15 at s15 u15 B15 S415 ⊢
  have gA5:GY K H15 (.ref A5):=⟨⟨("behind" : Str),r-2,[]⟩,⟨fun h=>absurd (show("behind" : Str)=("laid" : Str) from h) (by decide),rfl,(by decide:0<=2),jI (by rfl),rb2,fun _ h=>absurd h xL⟩,wV (SqT.of u15) rfl⟩
  refine⟨(by rw[sizeLine_eq];exact(by decide:5<=16777216)),fun M hM=>?_⟩
  have s16:=ze (H:=H15) (o:=.lst [.ref A1,.ref A2,.ref A3,.ref A4,.ref A5]) hM
  have u16:=zb (H:=H15) (a:=M) (o:=.lst [.ref A1,.ref A2,.ref A3,.ref A4,.ref A5])
  have B16:=B15.new (o:=.lst [.ref A1,.ref A2,.ref A3,.ref A4,.ref A5]) hM
  have n16:=B15.nne hM
  have S416:=S415.trans (.of (b:=b) s16)
  generalize upd H15 M (.lst [.ref A1,.ref A2,.ref A3,.ref A4,.ref A5])=H16 at s16 u16 B16 S416 ⊢
  refine⟨_,rfl,.inl ⟨rfl,_,SqL.of (S416 _ _ hp4 pb)⟩,_,rfl,_,rfl,_,rfl,_,rfl,le3,fun L1 hL1=>?_⟩
  have s17:=ze (H:=H16) (o:=.lst [.ref T2,.ref T2,.ref T2]) hL1
  have u17:=zb (H:=H16) (a:=L1) (o:=.lst [.ref T2,.ref T2,.ref T2])
  have B17:=B16.new (o:=.lst [.ref T2,.ref T2,.ref T2]) hL1
  have n17:=B16.nne hL1
  have S417:=S416.trans (.of (b:=b) s17)
  generalize upd H16 L1 (.lst [.ref T2,.ref T2,.ref T2])=H17 at s17 u17 B17 S417 ⊢
  refine⟨_,rfl,L1,M,_,_,rfl,rfl,u17,s17 _ _ u16,by show 8<=_;omega,fun L2 hL2=>?_⟩
  have s18:=ze (H:=H17) (o:=.lst ([.ref T2,.ref T2,.ref T2]++[.ref A1,.ref A2,.ref A3,.ref A4,.ref A5])) hL2
  have u18:=zb (H:=H17) (a:=L2) (o:=.lst ([.ref T2,.ref T2,.ref T2]++[.ref A1,.ref A2,.ref A3,.ref A4,.ref A5]))
  have B18:=B17.new (o:=.lst ([.ref T2,.ref T2,.ref T2]++[.ref A1,.ref A2,.ref A3,.ref A4,.ref A5])) hL2
  have n18:=B17.nne hL2
  have S418:=S417.trans (.of (b:=b) s18)
  generalize upd H17 L2 (.lst ([.ref T2,.ref T2,.ref T2]++[.ref A1,.ref A2,.ref A3,.ref A4,.ref A5]))=H18 at s18 u18 B18 S418 ⊢
  refine⟨_,rfl,le2,fun A6 hA6=>?_⟩
  have s19:=ze (H:=H18) (o:=.tup [.str "dropped",.int (r-2)]) hA6
  have u19:=zb (H:=H18) (a:=A6) (o:=.tup [.str "dropped",.int (r-2)])
  have B19:=B18.new (o:=.tup [.str "dropped",.int (r-2)]) hA6
  have n19:=B18.nne hA6
  have S419:=S418.trans (.of (b:=b) s19)
  generalize upd H18 A6 (.tup [.str "dropped",.int (r-2)])=H19 at s19 u19 B19 S419 ⊢
  have gA6:GY K H19 (.ref A6):=⟨⟨("dropped" : Str),r-2,[]⟩,⟨fun h=>absurd (show("dropped" : Str)=("laid" : Str) from h) (by decide),rfl,(by decide:0<=2),jI (by rfl),rb2,fun _ h=>absurd h xL⟩,wV (SqT.of u19) rfl⟩
  refine⟨le1,fun L3 hL3=>?_⟩
  have s20:=ze (H:=H19) (o:=.lst [.ref A6]) hL3
  have u20:=zb (H:=H19) (a:=L3) (o:=.lst [.ref A6])
  have B20:=B19.new (o:=.lst [.ref A6]) hL3
  have n20:=B19.nne hL3
  have S420:=S419.trans (.of (b:=b) s20)
  generalize upd H19 L3 (.lst [.ref A6])=H20 at s20 u20 B20 S420 ⊢
  refine⟨L2,L3,_,_,rfl,rfl,s20 _ _ (s19 _ _ u18),u20,by show 9<=_;omega,fun L4 hL4=>?_⟩
  have s21:=ze (H:=H20) (o:=.lst (([.ref T2,.ref T2,.ref T2]++[.ref A1,.ref A2,.ref A3,.ref A4,.ref A5])++[.ref A6])) hL4
  have u21:=zb (H:=H20) (a:=L4) (o:=.lst (([.ref T2,.ref T2,.ref T2]++[.ref A1,.ref A2,.ref A3,.ref A4,.ref A5])++[.ref A6]))
  have B21:=B20.new (o:=.lst (([.ref T2,.ref T2,.ref T2]++[.ref A1,.ref A2,.ref A3,.ref A4,.ref A5])++[.ref A6])) hL4
  have n21:=B20.nne hL4
  have S421:=S420.trans (.of (b:=b) s21)
  generalize upd H20 L4 (.lst (([.ref T2,.ref T2,.ref T2]++[.ref A1,.ref A2,.ref A3,.ref A4,.ref A5])++[.ref A6]))=H21 at s21 u21 B21 S421 ⊢
  refine⟨_,rfl,b,9,_,rfl,B21,by omega,by decide,by decide,fun r9 H22 r90 r91 B22 S22=>?_⟩
  have ga:∀v∈(([.ref T2,.ref T2,.ref T2]++[.ref A1,.ref A2,.ref A3,.ref A4,.ref A5])++[.ref A6]:List V),GY K H21 v:=fun v hv=>by
   simp only[zY,zS,xL,or_false] at hv
   rcases hv with((rfl | rfl | rfl) | rfl | rfl | rfl | rfl | rfl) | rfl
   ·exact gT10.keep (.of ((((((((((s11.trans s12).trans s13).trans s14).trans s15).trans s16).trans s17).trans s18).trans s19).trans s20).trans s21))
   ·exact gT10.keep (.of ((((((((((s11.trans s12).trans s13).trans s14).trans s15).trans s16).trans s17).trans s18).trans s19).trans s20).trans s21))
   ·exact gT10.keep (.of ((((((((((s11.trans s12).trans s13).trans s14).trans s15).trans s16).trans s17).trans s18).trans s19).trans s20).trans s21))
   ·exact gA1.keep (.of (((((((((s12.trans s13).trans s14).trans s15).trans s16).trans s17).trans s18).trans s19).trans s20).trans s21))
   ·exact gA2.keep (.of ((((((((s13.trans s14).trans s15).trans s16).trans s17).trans s18).trans s19).trans s20).trans s21))
   ·exact gA3.keep (.of (((((((s14.trans s15).trans s16).trans s17).trans s18).trans s19).trans s20).trans s21))
   ·exact gA4.keep (.of ((((((s15.trans s16).trans s17).trans s18).trans s19).trans s20).trans s21))
   ·exact gA5.keep (.of (((((s16.trans s17).trans s18).trans s19).trans s20).trans s21))
   ·exact gA6.keep (.of (s20.trans s21))
  obtain⟨v,ev,gv⟩:=zeA (α:=GY K H21) r90 (by show r9<((9:Nat):Int);exact r91) ga
  have S422:=S421.trans S22
  refine⟨L4,_,_,_,rfl,rfl,SqL.of (S22 _ _ u21 n21),ev,p,xs,_,v,rfl,rfl,S422 _ _ hp4 pb,by omega,by omega,by omega,_,rfl,ins (by omega) (by omega) B22 S422 (gv.keep (SameT.draw B21 S22))⟩
end
theorem zd4(ts:List jW):VX (ts.map prT)=vm ts:=by
 induction ts with
 | nil=>rfl
 | cons t ts ih=>show t.pk++VX (ts.map prT)=t.pk++vm ts;rw[ih]
theorem zbQ{J:Job}(ts:List jW):(∀t∈ts,XR J t)->(jg ts).Perm ((vm ts).map (·.1)):=by
 induction ts with
 | nil=>exact fun _=>.refl _
 | cons t ts ih=>
  intro h
  show(t.ly++jg ts).Perm ((t.pk++vm ts).map (·.1))
  rw[zZ]
  exact(h t qP).ly.append (ih fun x hx=>h x (qV _ hx))
theorem zdK{os:List Nat}{n:Nat}{ts:List jW}(pm:os.Perm (List.range n))(s:(jg ts).Sublist os):(jg ts).Nodup:=(pm.nodup_iff.mpr Zz).sublist s
theorem zgB{ts:List jW}(h:(jg ts).Nodup):∀t∈ts,t.ly.Nodup:=(List.pairwise_flatMap.mp h).1
structure zgW(J:Job)(bs:List Bool)(m:Nat)(ts:List jW)(es:List Ev)(w:Int)(ls gs:List Int):Prop where
 run:RunR J bs m (ts.map prT) es w
 pl:ls.Perm ((zF ["laid"] es).map fun e=>(e.p:Int))
 wl:ls.Pairwise (·<= ·)
 pg:gs.Perm ((zF zA es).map fun e=>(e.p:Int))
 wg:gs.Pairwise (·<= ·)
 el:es.length<=5000
structure CaseOk(J:Job)(ts:List jW):Prop where
 jo:∃ord,JobOk J ord
 po:∃os:List Nat,os.Perm (List.range J.ps.length)/\XS J os ts
theorem CaseOk.few{J:Job}{ts:List jW}(c:CaseOk J ts):(jg ts).length<=60/\(vm ts).length<=60:=by
 obtain⟨ord,jo⟩:=c.jo
 obtain⟨os,pm,po⟩:=c.po
 have h1:=po.sub.length_le
 have h2:=pm.length_eq
 have h3:=(zbQ ts po.tr).length_eq
 rw[vd] at h2
 rw[zp] at h3
 have:=jo.pl
 exact⟨by omega,by omega⟩
theorem vU{α:Type}{f:α->Dat}:∀{l:List α},(∀a∈l,(f a).shw=true)->Dat.shws (l.map f)=true
 | [],_=>rfl
 | a::l,h=>by
  show((f a).shw&&Dat.shws (l.map f))=true
  rw[h a (by simp),vU fun b hb=>h b (qV _ hb)]
  rfl
theorem wt{α:Type}{f:α->Dat}{c:Nat}:∀{l:List α},(∀a∈l,(f a).blk<=c)->Dat.blks (l.map f)<=(c+1)*l.length
 | [],_=>qu _
 | a::l,h=>by
  show(f a).blk+1+Dat.blks (l.map f)<=_
  have h1:=h a (by simp)
  have h2:=wt (f:=f) (c:=c) (l:=l) fun b hb=>h b (qV _ hb)
  rw[qU,Nat.mul_succ]
  omega
theorem yS{α:Type}{f:α->Dat}{c:Nat}(h:∀a,(f a).py.depth<=c):∀l:List α,PyData.depthAll (Dat.pys (l.map f))<=c
 | []=>qu _
 | a::l=>by
  have h1:=h a
  have h2:=yS h l
  show max (PyData.depth (f a).py) (PyData.depthAll (Dat.pys (l.map f)))<=c
  omega
theorem vG{i:Int}(h:-1000000<=i)(h':i<=1000000):Dat.shw (.int i)=true:=qv (by omega)
theorem zca{x:Str}(h:Nm x):Dat.shw (.str x)=true:=xM.mpr fun c hc=>qv (h.2 c hc)
theorem zcb{x:Str}(h:Nm x):Dat.blk (.str x)<=8:=h.1
theorem Wg{x y:Int}(h:inP x y):Dat.shw (.tup [.int x,.int y])=true:=by
 unfold inP at h
 show(Dat.shw (.int x)&&(Dat.shw (.int y)&&true))=true
 rw[vG (by omega) (by omega),vG (by omega) (by omega)]
 rfl
theorem zdL{J:Job}{ord:List Nat}(jo:JobOk J ord):(xR J).shw=true:=by
 have hd0:=jo.hd0
 have hd1:=jo.hd1
 show(Dat.shw (.tup [.int J.gx,.int J.gy])&&(Dat.shw (.int J.hd)&&(Dat.shws (J.fs.map xO)&&(Dat.shws (J.ps.map jC)&&(Dat.shws (J.as.map xc)&&true)))))=true
 rw[Wg jo.gate,vG (by omega) (by omega),vU,vU,vU]
 ·rfl
 ·intro p hp
  have h1:=xK.mp (jo.op.mem_iff.mp (jo.bo.mem1 hp))
  have h2:=xK.mp (jo.op.mem_iff.mp (jo.bo.mem2 hp))
  have pl:=jo.pl
  show(Dat.shw (.int (p.1:Int))&&(Dat.shw (.int (p.2:Int))&&true))=true
  rw[vG (by omega) (by omega),vG (by omega) (by omega)]
  rfl
 ·intro p hp
  obtain⟨h1,h2,_⟩:=jo.pa p hp
  show(Dat.shw (.str p.k)&&(Dat.shw (.tup [.int p.x,.int p.y])&&true))=true
  rw[zca h1,Wg h2]
  rfl
 ·intro p hp
  obtain⟨h1,h2,h3,h4⟩:=jo.fa p hp
  show(Dat.shw (.str p.k)&&(Dat.shw (.tup [.int p.x,.int p.y])&&(Dat.shw (.int p.m)&&true)))=true
  rw[zca h1,Wg h2,vG (by omega) (by omega)]
  rfl
theorem zdN{J:Job}{ord:List Nat}(jo:JobOk J ord):(xR J).blk<=10000:=by
 have h1:=wt (f:=xO) (c:=20) (l:=J.fs) fun p hp=>by
  have:=zcb (jo.fa p hp).1
  show Dat.blk (.str p.k)+1+(0+1+(0+1+0)+1+(0+1+0))<=20
  omega
 have h2:=wt (f:=jC) (c:=20) (l:=J.ps) fun p hp=>by
  have:=zcb (jo.pa p hp).1
  show Dat.blk (.str p.k)+1+(0+1+(0+1+0)+1+0)<=20
  omega
 have h3:=wt (f:=xc) (c:=20) (l:=J.as) fun p hp=>by
  show 0+1+(0+1+0)<=20
  omega
 have fl:=jo.fl
 have pl:=jo.pl
 have al:=jo.al
 show 0+1+(0+1+0)+1+(0+1+(Dat.blks (J.fs.map xO)+1+(Dat.blks (J.ps.map jC)+1+(Dat.blks (J.as.map xc)+1+0))))<=10000
 omega
theorem zdM(J:Job):(xR J).py.depth<=20:=by
 have h1:=yS (f:=xO) (c:=10) (fun p=>by
  show PyData.depth (.tuple [.str p.k,.tuple [.int p.x,.int p.y],.int p.m])<=10
  simp[PyData.depth,PyData.depthAll]) J.fs
 have h2:=yS (f:=jC) (c:=10) (fun p=>by
  show PyData.depth (.tuple [.str p.k,.tuple [.int p.x,.int p.y]])<=10
  simp[PyData.depth,PyData.depthAll]) J.ps
 have h3:=yS (f:=xc) (c:=10) (fun p=>by
  show PyData.depth (.tuple [.int p.1,.int p.2])<=10
  simp[PyData.depth,PyData.depthAll]) J.as
 show PyData.depth (.tuple [.tuple [.int J.gx,.int J.gy],.int J.hd,.tuple (Dat.pys (J.fs.map xO)),.tuple (Dat.pys (J.ps.map jC)),.tuple (Dat.pys (J.as.map xc))])<=20
 simp only[PyData.depth,PyData.depthAll]
 omega
theorem zfN{J:Job}{ts:List jW}(c:CaseOk J ts):∀t∈ts,t.pk.length<=4/\t.ly.length<=4/\(∀p∈t.pk,p.1<100/\p.2<100)/\∀k∈t.ly,k<100:=fun t ht=>by
 obtain⟨ord,jo⟩:=c.jo
 obtain⟨os,pm,po⟩:=c.po
 have tok:=po.tr t ht
 have p2:=tok.p2
 have hd:=jo.hd1
 have l:=tok.ly.length_eq
 rw[zp] at l
 have pl:=jo.pl
 have fl:=jo.fl
 have okp:∀p∈t.pk,p.1<100/\p.2<100:=fun p hp=>by
  obtain⟨pa,fe,e1,e2,_⟩:=tok.ok p hp
  have h1:=(zQ.mp e1).1
  have h2:=(zQ.mp e2).1
  omega
 refine⟨by omega,by omega,okp,fun k hk=>?_⟩
 obtain⟨p,hp,rfl⟩:=qo.mp (tok.ly.mem_iff.mp hk)
 exact(okp p hp).1
def EvG(J:Job)(e:Ev):Prop:=e.p<J.ps.length/\(∀p k x y,e=.laid p k x y->∃pa∈J.ps,k=pa.k)
theorem TryR.gd{J:Job}{pa:xo}{p own:Nat}{bs:List Bool}{es:List Ev}{n:Nat}{fnd r:List Ev}(h:TryR J pa p own bs es n fnd r)(hp:p<J.ps.length):(∀e∈fnd,EvG J e)->∀e∈r,EvG J e:=by
 have app:∀{l:List Ev} {x:Ev},(∀e∈l,EvG J e)->EvG J x->∀e∈l++[x],EvG J e:=fun h1 h2 e he=>by
  rcases zY.mp he with z | z
  ·exact h1 e z
  ·rw[qg.mp z];exact h2
 induction h with
 | fin fnd=>exact fun hf=>app hf ⟨hp,fun _ _ _ _ z=>nomatch z⟩
 | none n fnd h=>exact fun hf=>app hf ⟨hp,fun _ _ _ _ z=>nomatch z⟩
 | luck n fnd f h g=>exact fun hf=>app hf ⟨hp,fun _ _ _ _ z=>nomatch z⟩
 | miss n fnd f r h g t ih=>exact fun hf=>ih (app hf ⟨hp,fun _ _ _ _ z=>nomatch z⟩)
theorem PksR.gd{J:Job}{bs:List Bool}{n:Nat}{es:List Ev}{pks:List (Nat×Nat)}{r:List Ev}(h:PksR J bs n es pks r):∀e∈r,EvG J e:=by
 induction h with
 | nil=>exact fun e he=>nomatch he
 | snoc pks fnd p own pa r h e g ih=>
  have hp:=(zQ.mp e).1
  intro x hx
  rcases zY.mp hx with z | z
  ·exact ih x z
  ·rcases g with ⟨_,rfl⟩ | ⟨_,t⟩
   ·rw[qg.mp z];exact⟨hp,fun _ _ _ _ z=>nomatch z⟩
   ·exact t.gd hp (fun e he=>nomatch he) x z
theorem LysR.gd{J:Job}{es pk:List Ev}{lys:List Nat}{r:List Ev}(h:LysR J es pk lys r)(hp:∀e∈pk,EvG J e):∀e∈r,EvG J e:=by
 induction h with
 | nil fnd h=>rw[h];exact hp
 | skip lys fnd p h g ih=>exact ih
 | lay lys fnd p pa e h g ep l ih=>
  have hp:=(zQ.mp ep).1
  intro x hx
  rcases zY.mp hx with z | z
  ·exact ih x z
  ·rw[qg.mp z]
   rcases l with ⟨_,rfl⟩ | ⟨_,rfl⟩
   ·exact⟨hp,fun _ _ _ _ z=>nomatch z⟩
   ·exact⟨hp,fun q k x y z=>by cases z;exact⟨pa,qG ep,rfl⟩⟩
theorem RunR.gd{J:Job}(jin:JIn J){bs:List Bool}{n:Nat}{ts:List (List (Nat×Nat)×List Nat)}{es:List Ev}{w:Int}(h:RunR J bs n ts es w):∀e∈es,EvG J e/\vS J e:=by
 induction h with
 | nil=>exact fun e he=>nomatch he
 | snoc ts es w pks lys r h t ih=>
  have ok:=t.ok jin
  intro e he
  rcases zY.mp he with z | z
  ·exact ih e z
  ·obtain⟨fnd,a,b⟩:=t
   exact⟨b.gd a.gd e z,ok e z⟩
theorem zdS{J:Job}{ord:List Nat}(jo:JobOk J ord){e:Ev}(h:EvG J e)(o:vS J e):wA (evG e):=by
 have pl:=jo.pl
 have fl:=jo.fl
 obtain⟨h1,h2⟩:=h
 have pb:((e.p:Nat):Int).natAbs<=1000000:=by omega
 have nx:∀d∈([]:List Dat),DB d:=fun _ h=>absurd h xL
 cases e with
 | picked p f=>
  have hf:f<J.fs.length:=o.tr (show("picked" : Str)∈z9 by decide)
  exact⟨fun h=>absurd (show("picked" : Str)=("laid" : Str) from h) (by decide),rfl,(by decide:1<=2),jI (by rfl),pb,Qv (yp (by omega))⟩
 | missed p f=>
  have hf:f<J.fs.length:=o.tr (show("missed" : Str)∈z9 by decide)
  exact⟨fun h=>absurd (show("missed" : Str)=("laid" : Str) from h) (by decide),rfl,(by decide:1<=2),jI (by rfl),pb,Qv (yp (by omega))⟩
 | behind p=>exact⟨fun h=>absurd (show("behind" : Str)=("laid" : Str) from h) (by decide),rfl,(by decide:0<=2),jI (by rfl),pb,nx⟩
 | none p=>exact⟨fun h=>absurd (show("none" : Str)=("laid" : Str) from h) (by decide),rfl,(by decide:0<=2),jI (by rfl),pb,nx⟩
 | failed p=>exact⟨fun h=>absurd (show("failed" : Str)=("laid" : Str) from h) (by decide),rfl,(by decide:0<=2),jI (by rfl),pb,nx⟩
 | dropped p=>exact⟨fun h=>absurd (show("dropped" : Str)=("laid" : Str) from h) (by decide),rfl,(by decide:0<=2),jI (by rfl),pb,nx⟩
 | laid p k x y=>
  obtain⟨pa,hpa,rfl⟩:=h2 p k x y rfl
  exact⟨fun _=>⟨_,_,_,rfl⟩,rfl,(by decide:2<=2),jI (by rfl),pb,WB (zac (jo.pa pa hpa).1) (zcA o.ly)⟩
theorem zd6(ts:List jW):(ts.map prT).flatMap (·.2)=jg ts:=by
 induction ts with
 | nil=>rfl
 | cons t ts ih=>show t.ly++(ts.map prT).flatMap (·.2)=t.ly++jg ts;rw[ih]
theorem zbH{J:Job}{ord os:List Nat}{ts:List jW}{bs:List Bool}{m:Nat}{es:List Ev}{w:Int}(jo:JobOk J ord)(pm:os.Perm (List.range J.ps.length))(bo:ByOrd os J.as)(po:XS J os ts)(r:RunR J bs m (ts.map prT) es w):ZC J (es.map evG)=true:=by
 have d:=r.done (L:=jg ts) (pm.nodup_iff.mpr Zz) po.sub bo po.cl ⟨[],by rw[zd6,qk]⟩ fun t ht=>by
  obtain⟨x,hx,rfl⟩:=qo.mp ht
  exact(po.tr x hx).ly
 unfold ZC
 rw[zdG jo d.ls]
 rfl
def yn(J:Job)(es:List GE):Dat:=.lst [xR J,.lst (es.map geD)]
theorem zcq{e:GE}(h:wA e):(geD e).shw=true/\(geD e).blk<=100:=by
 have rs:∀{ds:List Dat},(∀d∈ds,DB d)->Dat.shws ds=true/\Dat.blks ds<=21*ds.length:=fun {ds}=>by
  induction ds with
  | nil=>exact fun _=>⟨rfl,zG _⟩
  | cons d ds ih=>
   intro hd
   obtain⟨i1,i2⟩:=ih fun x hx=>hd x (qV _ hx)
   have g:=hd d qP
   refine⟨?_,?_⟩
   ·show(d.shw&&Dat.shws ds)=true
    rw[Dat.gd_shw (k:=0) (by decide) g.g,i1]
    rfl
   ·show d.blk+1+Dat.blks ds<=_
    have:=g.b
    rw[qU]
    omega
 obtain⟨r1,r2⟩:=rs h.rb
 have sz:=h.sz
 have pb:=h.pb
 refine⟨?_,?_⟩
 ·show(Dat.shw (.str e.w)&&(Dat.shw (.int e.p)&&Dat.shws e.r))=true
  rw[Dat.gd_shw (k:=0) (by decide) h.wb.g,vG (by omega) (by omega),r1]
  rfl
 ·show Dat.blk (.str e.w)+1+(0+1+Dat.blks e.r)<=100
  have:=h.wb.b
  omega
theorem zfE{es:List GE}(h:∀e∈es,wA e):PyData.depthAll (Dat.pys (es.map geD))<=10:=by
 have rs:∀{ds:List Dat},(∀d∈ds,DB d)->PyData.depthAll (Dat.pys ds)<=3:=fun {ds}=>by
  induction ds with
  | nil=>exact fun _=>qu _
  | cons d ds ih=>
   intro hd
   have i1:=ih fun x hx=>hd x (qV _ hx)
   have g:=(hd d qP).p
   show max d.py.depth (PyData.depthAll (Dat.pys ds))<=3
   omega
 induction es with
 | nil=>exact qu _
 | cons e es ih=>
  have i1:=ih fun x hx=>h x (qV _ hx)
  have g:=h e qP
  have r1:=rs g.rb
  have r2:PyData.depth (Dat.str e.w).py<=3:=g.wb.p
  have r3:=(yp g.pb).p
  show max (PyData.depth (.tuple ((Dat.str e.w).py::(Dat.int e.p).py::Dat.pys e.r))) (PyData.depthAll (Dat.pys (es.map geD)))<=10
  simp only[PyData.depth,PyData.depthAll] at r1 r2 r3 ⊢
  omega
theorem zcm{J:Job}{ord:List Nat}(jo:JobOk J ord){es:List GE}(h:∀e∈es,wA e)(l:es.length<=9000):(yn J es).shw=true/\(yn J es).blk<=1048576/\(yn J es).py.depth<=60:=by
 refine⟨?_,?_,?_⟩
 ·show((xR J).shw&&(Dat.shws (es.map geD)&&true))=true
  rw[zdL jo,vU fun e he=>(zcq (h e he)).1]
  rfl
 ·have h1:=zdN jo
  have h2:=wt (f:=geD) (c:=100) (l:=es) fun e he=>(zcq (h e he)).2
  show(xR J).blk+1+(Dat.blks (es.map geD)+1+0)<=1048576
  omega
 ·have h1:=zdM J
  have h2:=zfE h
  show PyData.depth (.list [(xR J).py,.list (Dat.pys (es.map geD))])<=60
  simp only[PyData.depth,PyData.depthAll]
  omega
section
variable{P:Program}{w:World}{K:PySem.W.Frag}{mg:Str->Option Value}{base:Heap}
theorem CaseAt.ok{H:Hp}{jp pl lk:Addr}{J:Job}{ts:List jW}{bs:List Bool}{m:Nat}(c:CaseAt K H jp pl lk J ts bs m):CaseOk J ts:=⟨c.jo,let ⟨os,pm,_,po⟩:=c.po;⟨os,pm,po⟩⟩
theorem zcG{H:Hp}{jp pl lk:Addr}{J:Job}{ts:List jW}{bs:List Bool}{m:Nat}{Q:VK}{E:XK}(c:CaseAt K H jp pl lk J ts bs m)(k:∀(T eo a b:Addr) (es:List Ev) (w:Int) (ls gs:List Int) H',Same H H'->H' T=some (.tup [.ref eo,.ref a,.ref b,.int w])->Evs K H' eo es->H' a=some (.lst (ls.map V.int))->H' b=some (.lst (gs.map V.int))->zgW J bs m ts es w ls gs->H T=none->H eo=none->H a=none->H b=none->Q (.ref T) H'):Yw K [.ref jp,.ref pl,.ref lk,.int (m:Int)] H Q E:=by
 obtain⟨ord,jo⟩:=c.jo
 obtain⟨os,pm,_,po⟩:=c.po
 obtain⟨tr,h1,h2⟩:=c.rp
 have nd:=zdK pm po.sub
 refine⟨jp,pl,lk,J,ord,tr,ts,bs,m,rfl,c.rj,jo,h1,h2,po.len,by rw[zd4];exact c.ok.few.2,zgB nd,fun t ht=>?_,SqL.of c.hl,c.bl,jj c.m5 (by decide),fun T eo a b es w ls gs H' s hT he ha hb p1 p2 p3 p4 el r=>k T eo a b es w ls gs H' s hT he ha hb ⟨r,p1,p2,p3,p4,el⟩⟩
 have tok:=po.tr t ht
 obtain⟨l1,l2,_,_⟩:=zfN c.ok t ht
 refine⟨l1,l2,tok.ok,fun q hq=>?_⟩
 obtain⟨p,hp,rfl⟩:=qo.mp (tok.ly.mem_iff.mp hq)
 obtain⟨pa,fe,e1,_⟩:=tok.ok p hp
 exact(zQ.mp e1).1
theorem GEs.draw{H H':Hp}{b l:Addr}{n:Int}{es:List GE}(h:GEs K H l es)(ok:∀e∈es,wA e)(nb:l≠b)(B:BoxAt H b n)(S:SameB b H H'):GEs K H' l es:=let ⟨xs,h1,h2⟩:=h;⟨xs,S _ _ h1 nb,h2.keep (SameT.draw B S) (wL ok)⟩
theorem GEs.ev{H:Hp}{l:Addr}{es:List Ev}(h:Evs K H l es):GEs K H l (es.map evG):=let ⟨xs,h1,h2⟩:=h;⟨xs,h1,by rw[wu];exact h2⟩
theorem Jx{H:Hp}{jp l u:Addr}{J:Job}{es:List GE}(rj:Rep K H (xR J) (.ref jp))(hl:GEs K H l es)(hu:H u=some (.lst [.ref jp,.ref l])):Rep K H (yn J es) (.ref u):=by
 obtain⟨xs,h1,h2⟩:=hl
 exact⟨u,_,rfl,SqL.of hu,_,_,rfl,rj,_,_,rfl,⟨l,xs,rfl,SqL.of h1,h2⟩,rfl⟩
theorem OvG.same{H H':Hp}{ov:Addr}{J:Job}{mss:List (List Int)}{ozs:List V}(o:OvG K H ov J mss ozs)(s:Same H H'):OvG K H' ov J mss ozs:=⟨s.seq o.ho,o.ol,fun p ms e=>let ⟨a,h1,h2⟩:=o.rw p ms e;⟨a,h1,s.seq h2⟩,o.am⟩
theorem zgc:zK ["_law_box_here", "_law_job_here", "_law_plan_here", "_law_luck_here", "_law_tries", "_law_events", "_law_over_here", "_law_echo", "_law_some", "_law_step", "_law_kept"] ["_law_box_here"] (zu (topL 42)):=⟨rfl,rfl,rfl,by decide +kernel,rfl,by decide +kernel,by decide +kernel⟩
def ze0{cdv:Value}{f:Addr}{A:Around}{outer:List Env}{s:Shared}{H:Hp}{E:XK}(B:Blt mg)(hr:Room 7 (A.deeper (envOfC "_law_right" (zu (topL 42)) s.heap.objs.size f cdv)))(D_take:Dfn P w K mg base "_law_take" 1 ["_law_box_here", "_law_size"] xg)(D_case:Dfn P w K mg base "_law_case" 5 ["_law_box_here"] (Wb K))(D_run_due:Dfn P w K mg base "_law_run_due" 3 ["_law_job_here", "_law_plan_here", "_law_luck_here", "_law_tries"] (Yw K))(D_over:Dfn P w K mg base "_law_over" 1 ["_law_many", "_law_aheads_here"] (Qa K))(Dlies_right:Dfn P w K mg base "lies_right" 7 ["job", "events"] (Wa K))(D_bent:Dfn P w K mg base "_law_bent" 2 ["_law_box_here", "_law_job_here", "_law_events"] (Wc K))(D_same:Dfn P w K mg base "_law_same" 5 ["_law_found", "_law_due"] (spS K 5))(D_lies:Dfn P w K mg base "_law_lies" 1 ["_law_job_here", "_law_over_here", "_law_events"] (zeT K))(nd:(["_law_box_here", "_law_job_here", "_law_plan_here", "_law_luck_here", "_law_tries", "_law_events", "_law_over_here", "_law_echo", "_law_some", "_law_step", "_law_kept"]:List Str).Nodup):{ t:TS // PSs (VP CX0 P w K mg base ["_law_box_here", "_law_job_here", "_law_plan_here", "_law_luck_here", "_law_tries", "_law_events", "_law_over_here", "_law_echo", "_law_some", "_law_step", "_law_kept"] "_law_right" (zu (topL 42)) f cdv A outer s H E).nox (vb (topL 42)) t }:=
 have hu:=hr.units0
 have hu64:=hr.units
 have hg:=hr.gd
 ⟨_,(zg (j7 (zk D_case (hr.mono (by decide)) rfl (za (pv 0) zd)) (xi rfl (zR (zy (i:=1) nd rfl (Or.inl rfl)) (zR (zy (i:=2) nd rfl (Or.inl rfl)) (zR (zy (i:=3) nd rfl (Or.inl rfl)) (zR (zy (i:=4) nd rfl (Or.inl rfl)) jH))))))
     (zg (vY (i:=5) (j:=6) rfl nd rfl rfl (by decide) rfl rfl (za (zr zM (zk D_run_due (hr.mono (by decide)) rfl (za (pv 1) (za (pv 2) (za (pv 3) (za (pv 4) zd))))) zf (fun _ _=>rfl)) (za (zk D_over (hr.mono (by decide)) rfl (za (zo zw rfl B.len boot_len (za (zr zM (pv 1) zf (fun _ _=>rfl)) zd)) (za (zr zM (pv 1) zf (fun _ _=>rfl)) zd))) zd)) (by rfl))
     (zg (qY (PW.pt (yI (zC YN (zk Dlies_right (hr.mono (by decide)) rfl (za (pv 1) (za (pv 5) zd))) xH (zE _)) (vX (zC YN (zk Dlies_right (hr.mono (by decide)) rfl (za (pv 1) (za (zN zd) zd))) xH (zE _)))))
     (zm (zH xH))
     qK)
     (zg (qO jw rfl (qx rfl B.range (za zf zd)) (zy (i:=7) nd rfl (Or.inl rfl))
     (zg (zD (i:=8) nd rfl (Or.inl rfl) (pv 5))
      (zg (qO jw rfl (qx rfl B.range (za (zk D_take (hr.mono (by decide)) rfl (za (pv 0) (za zf zd))) zd)) (zy (i:=9) nd rfl (Or.inl rfl))
      (zm (zD (i:=8) nd rfl (Or.inl rfl) (xm (zC (yL hu) (pv 8) (zN zd) (zE _)) (zk D_bent (hr.mono (by decide)) rfl (za (pv 0) (za (pv 1) (za (pv 8) zd)))) (pv 8)))))
      (zg (zD (i:=10) nd rfl (Or.inl rfl) (zo (QA hg hu64) rfl B.repr JJ (za (zN (za (pv 1) (za (pv 8) zd))) zd)))
      (zm (qY (PW.pt (yI (Zm (jV (zk D_same (hr.mono (by decide)) rfl (za (zk Dlies_right (hr.mono (by decide)) rfl (za (pv 1) (za (pv 8) zd))) (za (zk D_lies (hr.mono (by decide)) rfl (za (pv 1) (za (pv 6) (za (pv 8) zd)))) zd))))) (vX (zC zbZ (zo (QA hg hu64) rfl B.repr JJ (za (zN (za (pv 1) (za (pv 8) zd))) zd)) (pv 10) (zE _)))))
      (zm (zH xH))
      qK))))))
     (zm (zH xH))))))⟩
inductive Jk(vs:List V)(H:Hp)(Q:VK):Prop
 | mk (b:Addr) (n:Int) (_:vs=[.ref b]) (_:BoxAt H b n) (_:n<1000) (_:∀H',SameB b H H'->Q (.bl true) H'):Jk  vs H Q
def Yn:Sp:=fun vs H Q _=>Jk  vs H Q
def V1(b:_)(jp:_)(pl:_)(lk:_)(m:Nat)(eo:_)(ov:_)(H5:_)(n:_):=fun(i:Nat) (σ:St) (H':Hp)=>(Ex4 fun(v8 v9 v10 v11:Option V)=>An3 (σ=[some (.ref b),some (.ref jp),some (.ref pl),some (.ref lk),some (.int (m:Int)),some (.ref eo),some (.ref ov),v8,v9,v10,v11]) (SameB b H5 H') (BoxAt H' b (n+6000+100*(i:Int))):Prop)
theorem zgw{f:Addr}{fd:FuncData}(F:Fun K "_law_right" "_law_right" (topL 42) f fd)(B:Blt mg)(D_take:Dfn P w K mg base "_law_take" 1 ["_law_box_here", "_law_size"] xg)(D_case:Dfn P w K mg base "_law_case" 5 ["_law_box_here"] (Wb K))(D_run_due:Dfn P w K mg base "_law_run_due" 3 ["_law_job_here", "_law_plan_here", "_law_luck_here", "_law_tries"] (Yw K))(D_over:Dfn P w K mg base "_law_over" 1 ["_law_many", "_law_aheads_here"] (Qa K))(Dlies_right:Dfn P w K mg base "lies_right" 7 ["job", "events"] (Wa K))(D_bent:Dfn P w K mg base "_law_bent" 2 ["_law_box_here", "_law_job_here", "_law_events"] (Wc K))(D_same:Dfn P w K mg base "_law_same" 5 ["_law_found", "_law_due"] (spS K 5))(D_lies:Dfn P w K mg base "_law_lies" 1 ["_law_job_here", "_law_over_here", "_law_events"] (zeT K)):FnOk P w K mg base CX0 8 f fd ["_law_box_here"] Yn:=by
 have nd:=zgc.nd
 refine F.ok zgc (fun vs H Q E h=>?_) (fun cdv A outer s H vs Q E hr h=>?_)
 ·obtain⟨b,n,rfl,_⟩:=h
  rfl
 ·obtain⟨b,n,rfl,B0,hn,k⟩:=h
  have hbig:1000000<sizeLine:=by rw[sizeLine_eq];decide
  have e62:(2:Int)^62=4611686018427387904:=by decide
  refine⟨_,(ze0 B hr D_take D_case D_run_due D_over Dlies_right D_bent D_same D_lies nd).2,?_⟩
  refine⟨_,rfl,b,n,rfl,B0,by omega,fun T0 jp pl lk J ts bs m H1 S1 B1 hT0 c1=>⟨T0,_,rfl,SqT.of hT0,rfl,_,_,rfl,_,_,rfl,_,_,rfl,_,_,rfl,rfl,?_⟩⟩
  refine⟨_,rfl,_,rfl,_,rfl,_,rfl,zcG (E:=E0) c1 fun Td eo ad bd es w ls gs H2 s2 hTd hed had hbd ra fT fe fa fb=>?_⟩
  obtain⟨ord,jo⟩:=c1.jo
  have B2:=B1.same s2
  have rj:=c1.rj.same s2
  have pl60:=jo.pl
  have al:=jo.al
  obtain⟨gg,fs,ps,as,fv,px,qj,rg,qf,rf,qps,rpp,_⟩:=xx rj
  have lpx:=rpp.len
  have lfv:=rf.len
  rw[zp] at lpx lfv
  obtain⟨ta,x0,x1,x2,x3,asx,q0,q4,r4⟩:=yo rj
  refine⟨Td,_,_,_,rfl,rfl,SqT.of hTd,rfl,_,rfl,jp,_,_,_,rfl,rfl,qj,rfl,ps,_,rfl,.inr qps,_,rfl,jp,_,_,_,rfl,rfl,q0,rfl,ta,asx,asI J,px.length,rkO ord,rfl,.inr q4,r4,by rw[y3];omega,by omega,by rw[lpx];exact jo.jsm.as,JZ jo,zbL jo,fun ov mss H3 s3 ov0 ⟨ozs,hoz,rws⟩ lm am=>?_⟩
  have nb:∀{a:Addr},H2 a=none->a∉[b]:=fun h z=>by
   obtain⟨o,e⟩:=B2.some
   rw[qg.mp z,e] at h
   cases h
  have og:OvG K (WX [b] H3) ov J mss ozs:=by
   refine⟨SqL.of (WX.at (nb ov0) hoz),by rw[lm,lpx],fun p ms e=>?_,fun p ms e=>⟨zeC jo (am _ _ e).1 (am _ _ e).2,(am _ _ e).2⟩⟩
   obtain⟨a,e1,e2,e3⟩:=rws.2 p ms e
   exact⟨a,e1,SqL.of (WX.at (nb e2) e3)⟩
  have neo:eo≠b:=fun z=>by
   obtain⟨o,e⟩:=B1.some
   rw[z,e] at fe
   cases fe
  obtain⟨os,pm,ob,po⟩:=c1.po
  have B3:=B2.same s3
  have ev3:=(GEs.ev hed).same s3
  have rj3:=rj.same s3
  have gok:∀e∈es.map evG,wA e:=fun e he=>by
   obtain⟨x,hx,rfl⟩:=qo.mp he
   obtain⟨h1,h2⟩:=ra.run.gd jo.jin x hx
   exact zdS jo h1 h2
  have el:(es.map evG).length<=5000:=by rw[zp];exact ra.el
  have p1:es.map evG≠[]->1<=J.ps.length:=fun h=>by
   obtain⟨x,hx⟩:=List.exists_mem_of_ne_nil _ h
   obtain⟨y,hy,_⟩:=qo.mp hx
   have:=(ra.run.gd jo.jin y hy).1.1
   omega
  have lr:=zbH jo pm ob po ra.run
  generalize es.map evG=gs0 at ev3 gok el p1 lr
  refine⟨_,_,rfl,_,rfl,_,rfl,jp,eo,J,ord,gs0,rfl,rj3,jo,ev3,gok,by omega,fun H4 s4=>?_⟩
  rw[lr]
  refine⟨true,true,rfl,rfl,_,rfl,ifF rfl ?_⟩
  refine⟨_,rfl,le0,fun em hem=>⟨jp,em,J,ord,[],rfl,rj3.same (s4.trans (ze hem)),jo,⟨[],zb,rfl⟩,(fun _ h=>nomatch h),qu _,fun H5 s5=>⟨true,true,rfl,rfl,_,rfl,ifF rfl ?_⟩⟩⟩
  have s35:=(s4.trans (ze (o:=.lst []) hem)).trans s5
  have B5:=B3.same s35
  have ev5:=ev3.same s35
  have rj5:=rj3.same s35
  have og5:=og.same (WX.draw (qg.mpr rfl) (SameB.of s35))
  have S05:SameB b H H5:=S1.trans (.of (s2.trans (s3.trans s35)))
  clear s4 s5 s35 ev3 rj3 og hem
  refine⟨10,rfl,by rw[e62];decide,by rw[e62];decide,jd (V1 b jp pl lk m eo ov H5 n) ⟨_,_,_,_,rfl,SameB.refl b H5,B5.mono (by omega)⟩ ?_ ?_⟩
  ·rintro i σ H6 hi ⟨v8,v9,v10,v11,rfl,S6,B6⟩
   have hi2:i<10:=hi
   refine⟨_,rfl,_,rfl,b,4,_,rfl,B6,by omega,by decide,by decide,fun r H7 r0 r1 B7 S7=>⟨r,rfl,by rw[e62];omega,by rw[e62];omega,?_⟩⟩
   refine jd (fun j σ H'=>Ex3 fun(v10:Option V) (l:Addr) (gs:List GE)=>An8 (σ=[some (.ref b),some (.ref jp),some (.ref pl),some (.ref lk),some (.int (m:Int)),some (.ref eo),some (.ref ov),some (.int (0+(i:Int))),some (.ref l),v10,v11]) (GEs K H' l gs) ((∀e∈gs,wA e)) (gs.length<=5000+j) ((gs≠[]->1<=J.ps.length)) (l≠b) (SameB b H5 H') (BoxAt H' b (n+6000+100*(i:Int)+1+10*(j:Int)))) ⟨_,eo,gs0,rfl,ev5.draw gok neo B5 (S6.trans S7),gok,el,p1,neo,S6.trans S7,B7.mono (by omega)⟩ ?_ ?_
   ·rintro j σ H8 hj ⟨v10,l,gs,rfl,gl,gk,gl5,gp,lb,S8,B8⟩
    obtain⟨xs,hl,rx⟩:=gl
    have gx:=rx.len
    rw[zp] at gx
    refine⟨_,rfl,le0,fun q hq=>⟨l,q,xs,rfl,rfl,SqL.of ((ze hq) _ _ hl),SqL.of zb,_,rfl,?_⟩⟩
    have s9:=ze (H:=H8) (o:=.lst []) hq
    have B9:=B8.new (o:=.lst []) hq
    generalize upd H8 q (.lst [])=H9 at s9 B9 ⊢
    have gl9:GEs K H9 l gs:=⟨xs,s9 _ _ hl,rx.same s9⟩
    have S9:=S8.trans (.of (b:=b) s9)
    refine jD (fun c=>?_) (fun c=>?_)
    ·have gne:gs≠[]:=fun z=>by
      rw[z] at gx
      rw[List.eq_nil_of_length_eq_zero gx] at c
      cases c
     have rj9:=rj5.keep (SameT.draw B5 S9) (jX J)
     refine⟨_,rfl,_,rfl,_,rfl,b,jp,l,_,J,ord,gs,rfl,B9,by omega,rj9,jo,gp gne,jo.f0,gl9,lb,gk,gne,by omega,fun m2 p fs2 H10 l1 l2 B10 S10 hp gl10 gk10 len10=>⟨_,p,fs2,rfl,gl10,gk10,by omega,fun _=>gp gne,fun z=>?_,S9.trans S10,B10.mono (by omega)⟩⟩
     obtain⟨o,e⟩:=B9.some
     rw[z,e] at hp
     cases hp
    ·exact⟨_,rfl,_,l,gs,rfl,gl9,gk,by omega,gp,lb,S9,B9.mono (by omega)⟩
   rintro σ H8 ⟨v10,l,gs,rfl,gl,gk,gl5,gp,lb,S8,B8⟩
   have rj8:=rj5.keep (SameT.draw B5 S8) (jX J)
   have ov8:=og5.same ((WX.draw (qg.mpr rfl) S8).trans WX.le)
   obtain⟨shw,blk,dep⟩:=zcm jo gk (by omega)
   refine⟨_,rfl,_,rfl,le2,fun u hu=>⟨_,yn J gs,rfl,Jx (rj8.same (ze hu)) (gl.same (ze hu)) zb,shw,blk,dep,?_⟩⟩
   generalize hkept:(yn J gs).py.shown=kept
   have s9:=ze (H:=H8) (o:=.lst [.ref jp,.ref l]) hu
   generalize upd H8 u (.lst [.ref jp,.ref l])=H9 at s9 ⊢
   refine⟨_,rfl,_,rfl,jp,l,J,ord,gs,rfl,rj8.same s9,jo,gl.same s9,gk,by omega,fun H10 s10=>?_⟩
   have s910:=s9.trans s10
   refine⟨_,rfl,_,rfl,_,rfl,jp,ov,l,J,ord,mss,ozs,gs,rfl,rj8.same s910,jo,ov8.same s910,gl.same s910,gk,by omega,fun H11 s11=>⟨.bl (ZC J gs),_,_,rfl,rfl,rfl,trivial,fun H12 s12=>?_⟩⟩
   have s912:=s910.trans (s11.trans s12)
   exact⟨_,rfl,ifF rfl ⟨_,rfl,_,rfl,le2,fun u2 hu2=>⟨_,yn J gs,rfl,Jx ((rj8.same s912).same (ze hu2)) ((gl.same s912).same (ze hu2)) zb,shw,blk,dep,_,rfl,rfl,_,rfl,ifF (by rw[hkept,qv rfl];rfl) ⟨_,_,_,_,rfl,S8.trans (SameB.of (s912.trans (ze hu2))),((B8.same s912).new hu2).mono (by omega)⟩⟩⟩⟩
  rintro σ H6 ⟨v8,v9,v10,v11,rfl,S6,B6⟩
  exact k _ (S05.trans S6)
end
inductive Ys(K:PySem.W.Frag)(vs:List V)(H:Hp)(Q:VK):Prop
 | mk (a:Addr) (ns:List Int) (_:vs=[.ref a]) (_:SqL K H a (ns.map V.int)) (_:ns.length<=63) (_:∀H',Q (.bl true) H'):Ys K vs H Q
def spLaw(K:PySem.W.Frag):Sp:=fun vs H Q _=>Ys K vs H Q
section
variable{P:Program}{w:World}{K:PySem.W.Frag}{mg:Str->Option Value}{base:Heap}
theorem zeo:zK ["_law_script", "_law_cells"] ["_law_script"] (zu (topL 43)):=⟨rfl,rfl,rfl,by decide +kernel,rfl,by decide +kernel,by decide +kernel⟩
theorem zfm{f:Addr}{fd:FuncData}(F:Fun K "law" "law" (topL 43) f fd)(B:Blt mg)(D_folded:Dfn P w K mg base "_law_folded" 1 ["_law_script", "_law_size"] (zbs K))(D_box:Dfn P w K mg base "_law_box" 1 ["_law_script", "_law_k"] (zej K))
  (D_right:Dfn P w K mg base "_law_right" 8 ["_law_box_here"] Yn):FnOk P w K mg base CX0 9 f fd ["_law_script"] (spLaw K):=by
 have nd:=zeo.nd
 refine F.ok zeo (fun vs H Q E h=>?_) (fun cdv A outer s H vs Q E hr h=>?_)
 ·obtain⟨a,ns,rfl,_⟩:=h
  rfl
 ·obtain⟨a,ns,rfl,hS,hlen,k⟩:=h
  refine⟨_,(zg (zD (i:=1) nd rfl (Or.inr rfl) (zk D_folded (hr.mono (by decide)) rfl (za (pv 0) (za zf zd))))
   (zm (zH (zo (wQ rfl) rfl B.all boot_all (za (j8 ["_law_cells"] [1] rfl rfl (by kernel_rfl) (qx rfl B.range (za (zo (JH rfl) rfl B.max VT (za zf (za (zo zw rfl B.len boot_len (za (pv 1) zd)) zd))) zd)) (fun _ _ _ _=>jF) (fun _ _ _ _=>(zk D_right (hr.mono (by decide)) rfl (za (zk D_box (hr.mono (by decide)) rfl (za (pv 1) (za (pv 0) zd))) zd)))) zd))))),?_⟩
  refine⟨_,rfl,a,ns,3,rfl,hS,hlen,by decide,by decide,fun p ms H1 s1 hp hm=>?_⟩
  have e62:(2:Int)^62=4611686018427387904:=by decide
  have hl:(ms.map V.int).length<=3:=by rw[zp];exact hm
  refine⟨_,rfl,p,_,rfl,.inl hp,_,_,rfl,_,rfl,(by rw[e62];split<;>omega),(by rw[e62];split<;>omega),?_⟩
  have hN:(if((ms.map V.int).length:Int)>2 then((ms.map V.int).length:Int) else 2).toNat<=8:=by split<;>omega
  have hbig:100<sizeLine:=by rw[sizeLine_eq];decide
  refine yP (fun i zs H2=>zs=List.replicate i (V.bl true)/\Same H1 H2) ⟨rfl,Same.refl _⟩ ?_ ?_
  ·rintro i zs H2 hi ⟨rfl,sm⟩
   rw[Xm]
   refine⟨rfl,?_⟩
   refine⟨_,rfl,_,rfl,p,ms,i,rfl,sm.seq hp,by omega,fun q o hq Bq=>⟨q,0,rfl,Bq,by decide,fun H3 s3=>⟨?_,?_,fun c u e=>?_⟩⟩⟩
   ·rw[ZL];omega
   ·rw[WS]
   ·exact s3 c u ((ze hq) c u (sm c u e)) (zj (sm c u e) hq)
  ·rintro zs H2 ⟨rfl,sm⟩
   refine⟨by rw[ZL];omega,fun D hD=>⟨D,List.replicate (if((ms.map V.int).length:Int)>2 then((ms.map V.int).length:Int) else 2).toNat true,rfl,?_,?_⟩⟩
   ·refine SqL.of ?_
    rw[zb,WN]
   ·have:=k (upd H2 D (.lst (List.replicate (if((ms.map V.int).length:Int)>2 then((ms.map V.int).length:Int) else 2).toNat (V.bl true))))
    simpa using this
end
theorem all_mk{l:PySem.W.OpenLaw}{w:World}{K:PySem.W.Frag}{h:Heap}{mg:Str->Option Value}{fa:Addr}(X:K.In h)(e:zdE WA za4 zay K=zdT WA za4 zay)(G:h.Ns mainGlobals mg)(hfa:mg "law" = some (.ref fa)) :
  ∃fd:FuncData,(∀(s:Shared) (v:Value),BindsTo s fd ⟨[v],[]⟩ [("_law_script",v)])/\∀base:Heap,K.In base->base.Ns mainGlobals mg->FnOk l.prog w K mg base CX0 9 fa fd ["_law_script"] (spLaw K):=by
 have Z0:Tp l.prog w K mg h h WA za4 zay:=⟨X,G,e⟩
 have B:Blt mg:=⟨Z0.bl 0 rfl,Z0.bl 1 rfl,Z0.bl 2 rfl,Z0.bl 3 rfl,Z0.bl 4 rfl,Z0.bl 5 rfl,Z0.bl 6 rfl,Z0.bl 7 rfl,Z0.bl 8 rfl,Z0.bl 9 rfl,Z0.bl 10 rfl,Z0.bl 11 rfl,Z0.bl 12 rfl,Z0.bl 13 rfl,Z0.bl 14 rfl,Z0.bl 15 rfl,Z0.bl 16 rfl,Z0.bl 17 rfl,Z0.bl 18 rfl,Z0.bl 19 rfl⟩
 obtain⟨f,fd,a,F⟩:=Z0.fd 38 rfl
 cases hfa.symm.trans (PySem.W.mg_of X G a)
 refine⟨fd,?_,fun base _ _=>?_⟩
 ·obtain⟨_,_,_,_,_,_,_,_,_,rfl,_,_⟩:=F.ex
  exact fun s v=>.of_eq rfl
 have Z:Tp l.prog w K mg base h WA za4 zay:=⟨X,G,e⟩
 have D_is_number:=Z.dfn 0 rfl fun _ _ F _ _=>zfo F B
 have D_is_number_within:=Z.dfn 1 rfl fun _ _ F _ _=>zgv F B D_is_number
 have D_turned:=Z.dfn 2 rfl fun _ _ F _ _=>zb1 F B
 have D_next_by:=Z.dfn 3 rfl fun _ _ F _ _=>zdv F B
 have D_steps_from:=Z.dfn 4 rfl fun _ _ F _ _=>zb2 F B
 have D_all_from:=Z.dfn 5 rfl fun _ _ F _ _=>zfs F B D_steps_from
 have D_ahead_of:=Z.dfn 6 rfl fun _ _ F _ _=>zb8 F B D_turned D_next_by D_all_from
 have D_are_same:=Z.dfn 7 rfl fun _ _ F _ _=>zdC F B
 have D_is_same:=Z.dfn 8 rfl fun _ _ F _ _=>Wl F B (0) D_are_same
 have D_are_same:=Z.dfn 7 rfl fun _ _ F _ _=>zb7 F B (0) D_is_same
 have D_is_same:=Z.dfn 8 rfl fun _ _ F _ _=>Wl F B (1) D_are_same
 have D_are_same:=Z.dfn 7 rfl fun _ _ F _ _=>zb7 F B (1) D_is_same
 have D_is_same:=Z.dfn 8 rfl fun _ _ F _ _=>Wl F B (2) D_are_same
 have D_events_of:=Z.dfn 9 rfl fun _ _ F _ _=>zfp F B
 have D_is_laid_right:=Z.dfn 10 rfl fun _ _ F _ _=>zgx F B D_is_number_within D_is_same D_ahead_of
 have D_lies_right:=Z.dfn 11 rfl fun _ _ F _ _=>zdx F B D_events_of D_is_laid_right
 have D_law_box:=Z.dfn 12 rfl fun _ _ F _ _=>zfr F B
 have D_law_take:=Z.dfn 13 rfl fun _ _ F _ _=>zdq F B
 have D_law_folded:=Z.dfn 14 rfl fun _ _ F _ _=>zdy F B
 have D_law_same:=Z.dfn 15 rfl fun _ _ F m b=>YQ F B m b 5
 have D_law_spelled:=Z.dfn 16 rfl fun _ _ F _ _=>zb3 F B
 have D_law_name:=Z.dfn 17 rfl fun _ _ F _ _=>zfl F B D_law_take D_law_spelled
 have D_law_names:=Z.dfn 18 rfl fun _ _ F _ _=>zb6 F B D_law_name
 have D_law_place:=Z.dfn 19 rfl fun _ _ F _ _=>zb4 F B D_law_take
 have D_law_places:=Z.dfn 20 rfl fun _ _ F _ _=>zaF F B D_law_place
 have D_law_shuffled:=Z.dfn 21 rfl fun _ _ F _ _=>zdr F B D_law_take
 have D_law_feeders:=Z.dfn 22 rfl fun _ _ F _ _=>zdz F B D_law_take D_law_shuffled D_law_place
 have D_law_aheads:=Z.dfn 23 rfl fun _ _ F _ _=>zaI F B D_law_take D_law_shuffled
 have D_law_job:=Z.dfn 24 rfl fun _ _ F _ _=>zfn F B D_law_take D_law_names D_law_place D_law_places D_law_feeders D_law_aheads
 have D_law_order:=Z.dfn 25 rfl fun _ _ F _ _=>zb5 F B D_law_take
 have D_law_trip:=Z.dfn 26 rfl fun _ _ F _ _=>zdp F B D_law_shuffled
 have D_law_plan:=Z.dfn 27 rfl fun _ _ F _ _=>zds F B D_law_take D_law_order D_law_trip
 have D_law_way:=Z.dfn 28 rfl fun _ _ F _ _=>zdw F B
 have D_law_over:=Z.dfn 29 rfl fun _ _ F _ _=>zdt F B
 have D_law_luck:=Z.dfn 30 rfl fun _ _ F _ _=>zgz F B D_law_take
 have D_law_tried:=Z.dfn 31 rfl fun _ _ F _ _=>zfk F B
 have D_law_trip_run:=Z.dfn 32 rfl fun _ _ F _ _=>zfj F B D_law_tried D_law_way
 have D_law_run_due:=Z.dfn 33 rfl fun _ _ F _ _=>zfq F B D_law_over D_law_trip_run
 have D_law_case:=Z.dfn 34 rfl fun _ _ F _ _=>zdA F B D_law_take D_law_job D_law_plan D_law_luck
 have D_law_lies:=Z.dfn 35 rfl fun _ _ F _ _=>zgy F B
 have D_law_bent:=Z.dfn 36 rfl fun _ _ F _ _=>zdB F B D_law_take
 have D_law_right:=Z.dfn 37 rfl fun _ _ F _ _=>zgw F B D_law_take D_law_case D_law_run_due D_law_over D_lies_right D_law_bent D_law_same D_law_lies
 exact zfm F B D_law_folded D_law_box D_law_right
end L2
open PySem PySem.W PyProof.Rows
set_option maxRecDepth 100000 in
set_option maxHeartbeats 0 in
theorem PySem.Challenge.cw_pickboard_k40_events_that_lie_right_holds : PySem.Challenge.rw_pickboard_k40_events_that_lie_right.Holds := by
 refine L2.ownHead (d:=L2.defRec "law" (L2.topL 43)) 9999 L2.head1 L2.head2 (by kernel_rfl) (by kernel_rfl) (by kernel_rfl) L2.head3 ⟨rfl,rfl,rfl,rfl,rfl,by decide +kernel⟩ (by w_witness2) ?_
 exact L2.walkS (n:=63) (k:=9) (x:= "_law_script") (sp:=L2.spLaw) rfl (by decide) (by kernel_rfl) ⟨rfl,by decide,by decide,rfl⟩ (fun _ _ _ _ _ X e G m=>L2.all_mk X e G m) fun _ _ a ns hl _ hS=>⟨a,ns,rfl,hS,hl,fun _=>rfl⟩
