import PyProof.Rows.All
import Wide.All
import OpenK.AllK
import Wide.FinOn
import Lean
import PyProof.EqAt
import PyProof.EqKinds
import PyProof.TupleCall
import PyProof.NeKinds
import PyProof.ReprRoads
import PyProof.ReprBulk
import PyProof.SumWalk
import PyProof.FString5
import PyProof.StrBlock2
import PyProof.StrBlockI
import PyProof.StrBlockH
import PyProof.StrWalks
import PyProof.StrLawsIn
import PyProof.AutoListH
import PyProof.CompUse
import PyProof.ListRange
import PyProof.CallFns
import PyProof.ListTruth
import PyProof.Rows.Range3
import PyProof.SeqI3
import KE.KRevSl
import PyProof.DictIter
import PyProof.DictWalks
import PyProof.DictCompW
import PyProof.Cells
import OpenK.KOwn
import PyProof.ExcClass3
import PyProof.ExcInit
import PyProof.ExcBaseAll.ValueError
import PyProof.ExcArgsOwn
import PyProof.ExcAttrAll.ValueError
import PyProof.Rows.SortWalk
import PyProof.Rows.SortStr
import PyProof.MeetsDict
import PyProof.DictUpdate
import PyProof.FactsAll.dict_3
import KE.KDictList
import PyProof.FactsAll.dict_4
import KE.KDictSum
import PyProof.IsiH_list
import PyProof.Rows.Exc
import KE.KDictOf
import PyProof.SetKind
import PyProof.Rows.SetFrom
import PyProof.FactsAll.set_1
import PyProof.FactsAll.set_2
import KE.KSortTup
import KE.KItemsList
import PyProof.Rows.SortRev
import PyProof.Rows.StrCase
import PyProof.Rows.StrLen
import KE.KPairComp
import KE.KMinKey
import PyProof.CallStr
import PyProof.StrCalls2
import PyProof.StrLawsTight
import PyProof.FString
import PyProof.StrBlock
import PyProof.Conv_int
import KE.KUnpack
import PyProof.Rows.TupMore
import PyProof.DictItems
import PySem.Challenge.RW_pickboard_k43_mended_right_and_least
set_option Elab.async false
set_option linter.all false
set_option maxRecDepth 100000
def zn:=@List.length_map
def zg:=@PySem.wpAny_bind
def zC:=@List.getElem?_eq_some_iff
def z7:=@PySem.Heap.get?_push_of_some
def zw:=@PySem.wpAny_pure
def qE:=@Option.map_eq_some_iff
def zZ:=@List.getElem?_map
def zP:=@List.map_append
def qD:=@List.mem_singleton
def zJ:=@Nat.le_refl
def zW:=@PySem.Heap.get?_push_size
def zQ:=@List.size_toArray
def qr:=@List.mem_of_getElem?
def qo:=@List.length_append
def zH:=@PySem.Heap.lt_size
def qI:=@List.mem_append_right
def qm:=@List.length_take
def zV:=@decide_eq_true
def qz:=@List.take_length
def zN:=@List.mem_map
def qV:=@List.length_filter_le
def jh:=@List.getElem?_eq_getElem
def zu:=@if_neg
def qe:=@List.mem_cons
def qR:=@Bool.false_ne_true
def zv:=@if_pos
def qG:=@List.mem_filter
def qh:=@Nat.ne_of_lt
def qU:=@List.mem_append
def jm:=@List.mem_cons_self
def qO:=@List.map_cons
def jN:=@List.mem_append_left
def jy:=@of_decide_eq_true
def jd:=@decide_eq_false
def jS:=@List.mem_cons_of_mem
def jq:=@Option.some.inj
def jn:=@List.append_nil
def xL:=@PySem.F.plainAttrs_list
def jR:=@Int.toNat_natCast
def qN:=@PySem.wpAny_mono
def jC:=@PySem.PassesOwn.never
def z9:=@Ne.symm
def xj:=@Nat.lt_of_lt_of_le
def jk:=@Nat.le_trans
def xc:=@PySem.wpAny_newObj_type
def jX:=@List.lookup_cons
def vz:=@Array.getElem?_eq_getElem
def xz:=@Array.length_toList
def xx:=@decide_eq_true_iff
def ji:=@Nat.zero_le
def jV:=@PySem.Heap.size_push
def wC:=@List.getElem?_append_right
def vy:=@List.length_replicate
def xT:=@List.filter_append
def xw:=@Bool.eq_iff_iff
def xP:=@List.length_cons
def xO:=@Bool.and_eq_true
def yc:=@List.getElem?_append_left
def vY:=@PySem.Heap.get?_update_self
def xS:=@PySem.wpAny_call_entry
def w9:=@PySem.F.slot_list_append
def w8:=@PySem.F.type_list_append
def j9:=@List.map_map
def vO:=@List.length_range
def yJ:=@PySem.wpAny_callSpecial?_slot
def xR:=@List.mem_range
def xN:=@PySem.wpAny_holding
def yI:=@PySem.Heap.get?_update_other
def xK:=@Nat.ne_of_gt
def vN:=@List.all_eq_true
def Ze:=@List.take_append_getElem
def vM:=@List.filter_cons
def yH:=@List.mem_iff_getElem?
def wZ:=@PySem.mem_of_lookup
def vX:=@List.getElem_mem
def wB:=@Nat.lt_succ_of_lt
def wY:=@Nat.lt_of_le_of_lt
def xu:=@beq_iff_eq
def Zd:=@Array.getElem?_toList
def vw:=@Nat.lt_irrefl
def QG:=@List.getD_eq_getElem?_getD
def vW:=@PySem.wpAny_seqItems
def Zc:=@PySem.Heap.SameBut.update
def JI:=@PyProof.Rows.callWith_type1
def vm:=@PySem.wpAny_field
def yG:=@List.append_assoc
def vV:=@PySem.wpAny_standAt
def wX:=@List.nodup_cons
def Z4:=@PySem.Around.under_plainId
def yF:=@List.any_eq_true
def yE:=@Nat.lt_succ_self
def yD:=@List.countP_cons
def Zb:=@PySem.wpAny_truthy_bool
def wA:=@List.sum_cons
def yC:=@List.count_cons
def Z3:=@Int.emod_lt_of_pos
def vv:=@PySem.wpAny_rule
def Za:=@PySem.wpAny_isInstance
def QF:=@List.flatMap_append
def QE:=@List.filter_sublist
def wj:=@List.find?_cons
def wT:=@List.mem_flatMap
def x6:=@Sum.inl.inj
def vQ:=@List.any_cons
def wg:=@PySem.wpAny_setField
def J6:=@PySem.F.slot_dict_keyiterator_next
def ZD:=@List.replicate_succ'
def yM:=@List.count_append
def J5:=@Array.getD_eq_getD_getElem?
def wS:=@Int.emod_nonneg
def vP:=@List.map_nil
def vt:=@Nat.le_succ
def ZC:=@PySem.Calls.spliced_cons
def ZB:=@Bool.false_eq_true
def yL:=@List.nil_append
def wf:=@Nat.le_of_eq
def Qu:=@List.mem_of_mem_take
def ZA:=@List.nodup_append
def wR:=@PySem.wpAny_attempt
def J4:=@List.filter_cons_of_pos
def J3:=@List.filter_cons_of_neg
def JZ:=@List.length_eq_zero_iff
def yK:=@PySem.Value.type.inj
def Zz:=@List.not_mem_nil
def Zy:=@PySem.F.plain_min_loop
def Zx:=@List.nodup_range
def JY:=@PySem.Calls.callWith_builtin
def JX:=@List.take_of_length_le
def Qt:=@PySem.wpAny_setField_rec
def zaW:=@PyProof.Rows.F.plain_set_update_loop
def Zw:=@PySem.wpAny_passesOwn
def Zv:=@List.length_nil
def Zu:=@PySem.SeqAt.EqAt.same
def JW:=@List.take_append_drop
def Wn:=@PySem.F.slot_tuple_iterator_next
def Wm:=@Array.getElem?_eq_some_iff
def Qs:=@PySem.wpAny_setState_of
def JV:=@List.mem_iff_getElem
def wQ:=@PySem.wpAny_of_eq
def Qr:=@List.getElem_inj
def Qq:=@List.length_drop
def Qp:=@PySem.wpAny_askSetting
def Wl:=@PySem.F.slot_list_getattribute
def Wj:=@PySem.F.slot_list_extend
def Wi:=@PySem.F.type_list_extend
def JU:=@List.replicate_succ
def zaV:=@PyProof.Rows.slot_tuple_getitem
def Wh:=@PySem.F.plainAttrs_dict
def JT:=@PySem.Obj.data_mapFields
def Qo:=@Option.map_some
def Qn:=@PySem.wpAny_updateSeq
def JS:=@List.map_replicate
def Wg:=@Array.getElem?_eq_none
def Wf:=@List.singleton_sublist
def JR:=@PySem.Calls.spliced_nil
def JQ:=@List.Sublist.refl
def Zt:=@PySem.wpAny_typeOf
def We:=@PySem.F.slot_enumerate_next
def Qm:=@PySem.wpAny_tryCatch
def Wd:=@List.getElem?_eq_none
def Wc:=@List.countP_le_length
def zaU:=@List.idxOf_lt_length_of_mem
def Wb:=@PySem.Calls.evalArgs_plain
def Ql:=@Int.ofNat.inj
def Zs:=@PySem.wpAny_throw
def Zr:=@PySem.wpAny_letGo
def Zq:=@Int.le_refl
def Wa:=@List.filterMap_cons
def V9:=@List.length_pos_iff
def JP:=@Bool.or_eq_true
def zaT:=@PySem.Calls.call_function_entry
def JO:=@List.filter_nil
def JN:=@List.range_succ
def V8:=@List.getElem?_drop
def V7:=@PySem.SeqAt.EqAt.of_refs
def V6:=@List.pairwise_cons
def zfG:=@PyProof.Rows.F.entry_set_update_loop
def zaS:=@List.length_erase_of_mem
def V5:=@List.getElem?_take
def V4:=@List.flatten_cons
def V3:=@List.pairwise_map
def V2:=@List.flatMap_cons
def zaR:=@List.pairwise_lt_range
def zaQ:=@List.length_pos_of_mem
def JM:=@PySem.Paired.length
def JL:=@List.map_take
def zaP:=@PySem.Obj.isFreed_of_fields
def zaO:=@PySem.F.slot_dict_get
def JK:=@Nat.le_of_lt
def V1:=@List.forIn_cons
def V0:=@PySem.F.slot_zip_next
def zfF:=@PySem.F.args_dict_keyiterator_next_1
def zfE:=@List.eq_nil_iff_forall_not_mem
def zfD:=@PySem.F.entry_dict_keyiterator_next
def zaN:=@Nat.add_le_add_left
def zaM:=@List.map_congr_left
def zfC:=@PySem.F.args_tuple_iterator_next_1
def zfB:=@PySem.F.slot_dict_setdefault
def zfA:=@List.countP_eq_length_filter
def zfz:=@PySem.F.entry_tuple_iterator_next
def zaL:=@PySem.SeqAt.RcNeAt.lists
def zaK:=@Option.isSome_some
def zaJ:=@Int.natCast_nonneg
def zfy:=@PySem.Calls.Name_function_global
def zfx:=@Int.fdiv_eq_ediv_of_nonneg
def zfw:=@Int.fmod_eq_emod_of_nonneg
def VZ:=@Bool.false_or
def zaI:=@List.take_sublist
def zaH:=@PySem.Obj.cls_mapFields
def zaG:=@PySem.SeqAt.RcAt.tuples
def zaF:=@Option.some.injEq
def zaE:=@List.getElem?_set
def zaD:=@List.foldl_append
def zfv:=@List.getElem?_zip_eq_some
def JJ:=@PySem.Walks.list
def zfu:=@List.drop_eq_getElem_cons
def zft:=@List.mem_drop_iff_getElem
def zfs:=@PySem.F.plain_extend_loop
def zfr:=@List.count_singleton_self
def VY:=@Bool.or_true
def zaC:=@PySem.SeqAt.RcAt.lists
def zaB:=@PySem.F.entry_min_loop
def zaA:=@List.isEmpty_map
def zaz:=@List.of_mem_zip
def zay:=@List.length_set
def zax:=@PySem.SeqAt.in_listAt
def zaw:=@Nat.not_lt_zero
def zav:=@List.filter_map
def zau:=@List.countP_map
def zat:=@Bool.and_false
def zas:=@List.forIn_nil
def zar:=@List.nodup_nil
namespace L2
open PySem PySem.Spec PyProof.Rows
theorem bG100000:100000<sizeLine:=by rw[sizeLine_eq];decide
theorem bG1000000:1000000<sizeLine:=by rw[sizeLine_eq];decide
theorem bG100:100<sizeLine:=by rw[sizeLine_eq];decide
theorem bGe:(2:Int)^62=4611686018427387904:=by decide
abbrev Key:=Sum Int Str
def Jo:Key->Value->Bool
 | .inl k,v=>Value.isInt k v
 | .inr x,v=>Value.isStrOf x v
def zk7(w:World):Key->Int
 | .inl k=>hashInt k
 | .inr x=>hashStr w x
theorem jw:∀{k:Key} {v:Value},Jo k v=true->(∃i t,k=Sum.inl i/\v=Value.int i t)\/(∃x t,k=Sum.inr x/\v=Value.str x t)
 | .inl i,v,h=>by
  obtain⟨t,e⟩:=Value.isInt_shape (k:=i) (v:=v) h;exact .inl ⟨i,t,rfl,e⟩
 | .inr x,v,h=>by
  obtain⟨t,e⟩:=Value.isStrOf_shape (x:=x) (v:=v) h;exact .inr ⟨x,t,rfl,e⟩
theorem zc6(i:Int)(t:Tok):Jo (.inl i) (.int i t)=true:=by simp[Jo,Value.isInt]
theorem zc5(x:Str)(t:Tok):Jo (.inr x) (.str x t)=true:=by simp[Jo,Value.isStrOf]
theorem ziy(a b:Int):decide ((Sum.inl a:Key)=Sum.inl b)=(a==b):=by
 by_cases e:a=b
 ·subst e;simp
 ·have h:¬(Sum.inl a:Key)=Sum.inl b:=fun q=>e (x6 q)
  rw[jd h];exact(beq_eq_false_iff_ne.mpr e).symm
theorem ziv(a b:Str):decide ((Sum.inr a:Key)=Sum.inr b)=decide (a=b):=by
 by_cases e:a=b
 ·subst e;simp
 ·have h:¬(Sum.inr a:Key)=Sum.inr b:=fun q=>e (Sum.inr.inj q)
  rw[jd h,jd e]
theorem zix(a:Int)(b:Str):decide ((Sum.inl a:Key)=Sum.inr b)=false:=jd (fun q=>nomatch q)
theorem ziw(a:Str)(b:Int):decide ((Sum.inr a:Key)=Sum.inl b)=false:=jd (fun q=>nomatch q)
def zO(c:Program)(w:World):PySem.KeyKind c w Key where
 is:=Jo
 hash:=zk7 w
 inj:=fun v a b f hb=>by
  rcases jw f with ⟨i,t,rfl,rfl⟩ | ⟨x,t,rfl,rfl⟩
  ·rcases jw hb with ⟨j,u,rfl,e⟩ | ⟨y,u,rfl,e⟩
   ·injection e with e1 _;rw[e1]
   ·exact nomatch e
  ·rcases jw hb with ⟨j,u,rfl,e⟩ | ⟨y,u,rfl,e⟩
   ·exact nomatch e
   ·injection e with e1 _;rw[e1]
 byValue:=fun k v h=>by
  rcases jw h with ⟨i,t,rfl,rfl⟩ | ⟨x,t,rfl,rfl⟩<;>rfl
 pyHash:=fun hv h=>by
  rcases jw hv with ⟨i,t,rfl,rfl⟩ | ⟨x,t,rfl,rfl⟩
  ·exact wpAny_pyHash_int h
  ·exact wpAny_pyHash_str h
 eqBool:=fun hu hv h=>by
  rcases jw hu with ⟨i,t,rfl,rfl⟩ | ⟨x,t,rfl,rfl⟩
  ·rcases jw hv with ⟨j,u,rfl,rfl⟩ | ⟨y,u,rfl,rfl⟩
   ·rw[ziy] at h;exact wpAny_eqBool_int h
   ·rw[zix] at h;exact SeqAt.EqAt.int_str i t y u _ _ _ _ h
  ·rcases jw hv with ⟨j,u,rfl,rfl⟩ | ⟨y,u,rfl,rfl⟩
   ·rw[ziw] at h;exact SeqAt.EqAt.str_int x t j u _ _ _ _ h
   ·rw[ziv] at h;exact wpAny_eqBool_str h
 «strs»:=fun k x t v h=>by
  rcases jw h with ⟨i,u,rfl,e⟩ | ⟨y,u,rfl,e⟩
  ·exact nomatch e
  ·injection e with e1 _
   subst e1;cases v<;>rfl
theorem zae(b:Program)(w:World)(k:Key)(v:Value):(zO b w).is k v=Jo k v:=rfl
theorem Yd(b:Program)(w:World)(i:Int)(t:Tok):(zO b w).is (.inl i) (.int i t)=true:=zc6 i t
theorem Yc(b:Program)(w:World)(x:Str)(t:Tok):(zO b w).is (.inr x) (.str x t)=true:=zc5 x t
inductive V where
 | non | bl (b:Bool) | int (i:Int) | str (x:Str) | byt (b:Array UInt8) | flt (b:UInt64) | ref (a:Addr) | ty (n:String)
 deriving DecidableEq
def RelV:V->Value->Prop
 | .non,u=>u=Value.none
 | .bl b,u=>u=Value.bool b
 | .int i,u=>∃t,u=Value.int i t
 | .str x,u=>∃t,u=Value.str x t
 | .byt b,u=>∃t,u=Value.bytes b t
 | .flt b,u=>∃t,u=Value.float b t
 | .ref a,u=>u=Value.ref a
 | .ty n,u=>u=Value.type n
abbrev Vals:List V->List Value->Prop:=Paired RelV
theorem Vals.length{c:List V}{b:List Value}(r:Vals c b):c.length=b.length:=JM r
theorem Vals.get:∀{c:List V} {b:List Value} {i:Nat} {x:V},Vals c b->c[i]? =some x->∃u,b[i]? =some u/\RelV x u
 | _,_,_,_,.nil,e=>by simp at e
 | _,_,0,_,.cons r _,e=>by simp at e;subst e;exact⟨_,rfl,r⟩
 | _,_,i+1,x,.cons _ t,e=>by
  obtain⟨u,h1,h2⟩:=Vals.get (i:=i) (x:=x) t (by simpa using e)
  exact⟨u,by simpa using h1,h2⟩
theorem Vals.set{x:V}{u:Value}(r:RelV x u):∀{c:List V} {b:List Value} (i:Nat),Vals c b->Vals (c.set i x) (b.set i u)
 | _,_,_,.nil=>.nil
 | _,_,0,.cons _ t=>.cons r t
 | _,_,i+1,.cons q t=>.cons q (Vals.set r i t)
theorem Vals.append:∀{f g:List V} {b c:List Value},Vals f b->Vals g c->Vals (f++g) (b++c)
 | _,_,_,_,.nil,s=>s
 | _,_,_,_,.cons r t,s=>.cons r (Vals.append t s)
theorem Vals.take:∀{c:List V} {b:List Value} (n:Nat),Vals c b->Vals (c.take n) (b.take n)
 | _,_,0,_=>.nil
 | _,_,_+1,.nil=>.nil
 | _,_,n+1,.cons r t=>.cons r (Vals.take n t)
theorem Vals.drop:∀{c:List V} {b:List Value} (n:Nat),Vals c b->Vals (c.drop n) (b.drop n)
 | _,_,0,r=>r
 | _,_,_+1,.nil=>.nil
 | _,_,n+1,.cons _ t=>Vals.drop n t
def RelO:Option V->Option Value->Prop
 | some v,some u=>RelV v u
 | none,none=>True
 | _,_=>False
def KV{κ:Type}:List (κ×V)->List (κ×Value)->Prop:=Paired fun(p:κ×V) (q:κ×Value)=>p.1=q.1/\RelV p.2 q.2
def kV:Key->V
 | .inl i=>.int i
 | .inr x=>.str x
inductive HO where
  | lst (c:List V)
  | tup (c:List V)
  | dK (b:List (Key×V)) | dT (b:List (List Key×V))
  | set (S:Int->Bool) (n:Nat)
  | ins (C g:Addr) (fs:List (Str×V))
  | own (x:Addr)
  | xd (fs:List (Str×V))
  | met (f x:Addr)
  | rng (lo l:Int)
  | frz (o:Obj) (u:HO)
  | tbl (s:Array Value)
  | ext (φ:Heap->Prop)
abbrev Hp:=Addr->Option HO
def upd(H:Hp)(a:Addr)(o:HO):Hp:=fun b=>if b=a then some o else H b
theorem zd{H:Hp}{a:Addr}{o:HO}:upd H a o a=some o:=by unfold upd;rw[zv rfl]
theorem zp{H:Hp}{a b:Addr}{o:HO}(h:b≠a):upd H a o b=H b:=by unfold upd;rw[zu h]
theorem zbH{H:Hp}{a b:Addr}{o u:HO}(h:H a=some o)(c:H b=some u)(d:o≠u):a≠b:=by
 intro e;subst e;rw[h] at c;exact d (jq c)
theorem zm{H:Hp}{a b:Addr}{o:HO}(h:H a=some o)(c:H b=none):a≠b:=by
 intro e;subst e;rw[h] at c;cases c
section
variable(P:Program)(w:World)
def TupX(h:Heap)(a:Addr)(b:Array Value):Prop:=IsTup h a b/\∃o,h.get? a=some o/\o.dict=none
theorem TupX.by{h:Heap}{a:Addr}{b:Array Value}{n:Nat}(e:h.get? a=some { cls:=.type "tuple",data:=.seq b n }):TupX h a b:=⟨⟨_,e,rfl,n,rfl⟩,_,e,rfl⟩
def ObjOk(H:Hp)(h:Heap)(a:Addr):HO->Prop
 | .lst g=>g.length<=sizeLine/\∃(b:List Value) (n:Nat),Vals g b/\h.get? a=some { cls:=.type "list",data:=.seq b.toArray n }
 | .tup g=>g.length<=sizeLine/\∃b:List Value,Vals g b/\TupX h a b.toArray
 | .dK c=>c.length<=sizeLine/\(a==sysModules)=false/\∃B,KV c B/\h.DictOf (zO P w) a B
 | .dT c=>c.length<=sizeLine/\(a==sysModules)=false/\∃g:List (List Key×Addr×Value),
   Paired (fun(p:List Key×V) (q:List Key×Addr×Value)=>p.1=q.1/\H q.2.1=some (.tup (p.1.map kV))/\RelV p.2 q.2.2) c g /\
   ∃o A D,h.get? a=some o/\o.ExactDict/\o.data=.dict A D/\A.toList=g.map (entryOfKey (tupleKind (zO P w)))/\(g.map (·.1)).Nodup
 | .set S n=>h.SetOf (intKind P w) a S n
 | .ins C s fs=>H s=some (.own a)/\fs.length<=1000/\s≠a/\h.get? a=some (PySem.W.instObj C s) /\
   ∃l,h.Ns1 s l/\(∀f,RelO (fs.lookup f) (l f))/\PySem.Within l (fs.map (·.1))
 | .own _=>∃o,h.get? a=some o
 | .xd fs=>∃l,h.Ns1 a l/\∀f,RelO (fs.lookup f) (l f)
 | .rng lo E=>∃t u v,h.get? a=some { cls:=.type "range",data:=.fields #[.int lo t,.int E u,.int 1 v] }
 | .frz o u=>h.get? a=some o/\ObjOk H h a u
 | .tbl G=>h.get? a=some { cls:=.none,data:=.fields G }
 | .met f x=>h.get? a=some (PySem.W.methodObj (.ref f) (.ref x))
 | .ext φ=>φ h/\(∃o,h.get? a=some o)/\∀h1 h2:Heap,φ h1->(∀o,h1.get? a=some o->h2.get? a=some o)->φ h2
def HOk(H:Hp)(h:Heap):Prop:=∀a o,H a=some o->ObjOk P w H h a o
end
section
variable{P:Program}{w:World}{H g:Hp}{h h':Heap}{a:Addr}{o:HO}
theorem ObjOk.lt(x:ObjOk P w H h a o):a<h.objs.size:=by
 cases o with
 | lst c=>obtain⟨_,_,_,_,e⟩:=x;exact zH e
 | tup c=>obtain⟨_,_,_,p⟩:=x;exact p.1.lt
 | dK b=>obtain⟨_,_,_,_,o,_,_,e,_⟩:=x;exact zH e
 | dT b=>obtain⟨_,_,_,_,o,_,_,e,_⟩:=x;exact zH e
 | set S n=>obtain⟨o,_,_,_,e,_⟩:=x;exact zH e
 | ins C l fs=>obtain⟨_,_,_,e,_⟩:=x;exact zH e
 | own y=>obtain⟨_,e⟩:=x;exact zH e
 | xd fs=>obtain⟨_,⟨_,_,_,e,_⟩,_⟩:=x;exact zH e
 | rng lo s=>obtain⟨_,_,_,e⟩:=x;exact zH e
 | frz A u=>obtain⟨e,_⟩:=x;exact zH e
 | tbl B=>exact zH (show h.get? a=some _ from x)
 | met f y=>exact zH (show h.get? a=some _ from x)
 | ext φ=>obtain⟨_,⟨_,e⟩,_⟩:=x;exact zH e
theorem Paired.mapP{α β:Type}{F G:α->β->Prop}:∀{c:List α} {l:List β},Paired F c l->(∀a b,F a b->G a b)->Paired G c l
 | _,_,.nil,_=>.nil
 | _,_,.cons r t,f=>.cons (f _ _ r) (Paired.mapP t f)
theorem ObjOk.stay(x:ObjOk P w H h a o)(k:∀b u,(b=a\/H b=some (.own a))->h.get? b=some u->h'.get? b=some u)
  (M:∀b,H b=some (.own a)->g b=some (.own a)) (N:∀b D,H b=some (.tup D)->g b=some (.tup D)):ObjOk P w g h' a o:=by
 induction o with
 | lst D=>obtain⟨z,B,n,r,e⟩:=x;exact⟨z,B,n,r,k _ _ (.inl rfl) e⟩
 | tup D=>obtain⟨z,B,r,⟨l,e,c⟩,Q,e2,L⟩:=x;exact⟨z,B,r,⟨l,k _ _ (.inl rfl) e,c⟩,Q,k _ _ (.inl rfl) e2,L⟩
 | dK E=>obtain⟨z,y,T,r,l,A,s,e,c⟩:=x;exact⟨z,y,T,r,l,A,s,k _ _ (.inl rfl) e,c⟩
 | dT E=>
  obtain⟨z,y,D,r,l,A,s,e,c⟩:=x;exact⟨z,y,D,Paired.mapP r fun p q z=>⟨z.1,N _ _ z.2.1,z.2.2⟩,l,A,s,k _ _ (.inl rfl) e,c⟩
 | set S n=>obtain⟨l,A,s,t,e,c⟩:=x;exact⟨l,A,s,t,k _ _ (.inl rfl) e,c⟩
 | ins C U fs=>
  obtain⟨d,z,ne,e,G,⟨I,A,s,e2,c⟩,r⟩:=x;exact⟨M _ d,z,ne,k _ _ (.inl rfl) e,G,⟨I,A,s,k _ _ (.inr d) e2,c⟩,r⟩
 | own y=>obtain⟨l,e⟩:=x;exact⟨l,k _ _ (.inl rfl) e⟩
 | xd fs=>obtain⟨G,⟨I,A,s,e,c⟩,r⟩:=x;exact⟨G,⟨I,A,s,k _ _ (.inl rfl) e,c⟩,r⟩
 | rng lo Y=>obtain⟨t,u,v,e⟩:=x;exact⟨t,u,v,k _ _ (.inl rfl) e⟩
 | frz l u O=>obtain⟨e,q⟩:=x;exact⟨k _ _ (.inl rfl) e,O q⟩
 | tbl J=>
  have e:h.get? a=some { cls:=.none,data:=.fields J }:=x;show h'.get? a=some { cls:=.none,data:=.fields J };exact k a _ (.inl rfl) e
 | met f y=>
  have e:h.get? a=some (PySem.W.methodObj (.ref f) (.ref y)):=x;show h'.get? a=some (PySem.W.methodObj (.ref f) (.ref y));exact k a _ (.inl rfl) e
 | ext φ=>obtain⟨p,⟨o,e⟩,st⟩:=x;exact⟨st _ _ p fun o q=>k _ _ (.inl rfl) q,⟨o,k _ _ (.inl rfl) e⟩,st⟩
theorem HOk.lt(x:HOk P w H h)(e:H a=some o):a<h.objs.size:=(x a o e).lt
theorem HOk.fresh(x:HOk P w H h)(e:h.objs.size<=a):H a=none:=by
 cases q:H a with
 | none=>rfl
 | some u=>exact absurd (xj (x.lt q) e) (vw _)
theorem HOk.kept(x:HOk P w H h)(k:∀b u,h.get? b=some u->h'.get? b=some u):HOk P w H h':=fun a o e=>
 (x a o e).stay (fun b u _ q=>k b u q) (fun _ q=>q) fun _ _ q=>q
theorem HOk.laid(x:HOk P w H h)(k:∀b u,h.get? b=some u->h'.get? b=some u)(s:h.objs.size<=a)(f:ObjOk P w (upd H a o) h' a o):HOk P w (upd H a o) h':=fun b u e=>by
 have l:=x.fresh s;by_cases hb:b=a
 ·subst hb;rw[zd] at e;cases e;exact f
 ·rw[zp hb] at e
  exact(x b u e).stay (fun c v _ q=>k c v q) (fun c q=>by rw[zp (zm q l)];exact q) fun c A q=>by rw[zp (zm q l)];exact q
end
def Rd(H:Hp)(a:Addr)(u:HO):Prop:=H a=some u\/∃o,H a=some (.frz o u)
theorem Rd.ok{P:Program}{w:World}{H:Hp}{h:Heap}{a:Addr}{u:HO}(r:Rd H a u)(x:HOk P w H h):ObjOk P w H h a u:=by
 rcases r with r | ⟨o,r⟩
 ·exact x a u r
 ·obtain⟨_,q⟩:=x a _ r
  exact q
def Mut:Option HO->Prop
 | some (.lst _)=>True
 | some (.dK _)=>True
 | some (.dT _)=>True
 | some (.set _ _)=>True
 | some (.ins _ _ _)=>True
 | some (.ext _)=>True
 | _=>False
section
variable{P:Program}{w:World}{H:Hp}{h h':Heap}{x e:Addr}{f:HO}
theorem HOk.write(ok:HOk P w H h)(A:Mut (H x))(E:e=x\/H e=some (.own x))(k:∀b u,b≠e->h.get? b=some u->h'.get? b=some u)(C:∃u,h'.get? e=some u)
  (D:ObjOk P w (upd H x f) h' x f):HOk P w (upd H x f) h':=fun b u q=>by
 have l:∀c y,H c=some (.own y)->c≠x:=fun c y r z=>by subst z;rw[r] at A;exact A
 have s:∀c B,H c=some (.tup B)->c≠x:=fun c B r z=>by subst z;rw[r] at A;exact A
 by_cases hb:b=x
 ·subst hb;rw[zd] at q;cases q;exact D
 ·rw[zp hb] at q
  by_cases g:b=e
  ·have G:H b=some (.own x):=by
    rcases E with z | z
    ·exact absurd (g.trans z) hb
    ·rw[g];exact z
   rw[q] at G;cases G
   obtain⟨v,hv⟩:=C;exact⟨v,by rw[g];exact hv⟩
  ·refine(ok b u q).stay (fun c v hc r=>k c v ?_ r) (fun c r=>by rw[zp (l c b r)];exact r) fun c B r=>by rw[zp (s c B r)];exact r
   rcases hc with rfl | hc
   ·exact g
   ·rintro rfl
    rcases E with z | z
    ·exact l c b hc z
    ·rw[hc] at z;cases z;exact hb rfl
end
structure Un(fs ex:List Addr)(H H':Hp)(h h':Heap):Prop where
 keep:∀b o,h.get? b=some o->H b=none->b∉fs->b∉ex->h'.get? b=some o
 slot:∀b o,h.get? b=some o->H b=none->b∈fs->b∉ex->∃sl,h'.get? b=some { o with slots:=sl }
 free:∀b o,h.get? b=some o->H b=none->b∉ex->H' b=none
 there:∀b o,h.get? b=some o->b∉ex->∃o',h'.get? b=some o'
 tups:∀b xs,H b=some (.tup xs)->H' b=some (.tup xs)
 frzs:∀b o u,H b=some (.frz o u)->H' b=some (.frz o u)
 tbls:∀b ps,H b=some (.tbl ps)->∃more,H' b=some (.tbl (ps++more))
section
variable{fs l c g:List Addr}{H f s:Hp}{h h1 h2 h':Heap}{a x e:Addr}{o:HO}
theorem Un.any(u:Un fs c H f h h1){b:Addr}{w:Obj}(q:h.get? b=some w)(n:H b=none)(hx:b∉c):∃A,h1.get? b=some { w with slots:=A }:=by
 by_cases hb:b∈fs
 ·exact u.slot b w q n hb hx
 ·exact⟨w.slots,u.keep b w q n hb hx⟩
theorem Un.kept(k:∀b u,h.get? b=some u->h'.get? b=some u):Un fs c H H h h':=
 ⟨fun b w q _ _ _=>k b w q,fun b w q _ _ _=>⟨w.slots,k b w q⟩,fun _ _ _ n _=>n,fun b w q _=>⟨w,k b w q⟩,fun _ _ q=>q,fun _ _ _ q=>q,fun _ A q=>⟨#[],by rw[q];simp⟩⟩
theorem Un.refl:Un fs c H H h h:=Un.kept fun _ _ q=>q
theorem Un.laid(k:∀b u,h.get? b=some u->h'.get? b=some u)(A:h.objs.size<=a)(w:H a=none):Un fs c H (upd H a o) h h' where
 keep:=fun b u q _ _ _=>k b u q
 slot:=fun b u q _ _ _=>⟨u.slots,k b u q⟩
 free:=fun b u q n _=>by rw[zp (qh (xj (zH q) A))];exact n
 there:=fun b u q _=>⟨u,k b u q⟩
 tups:=fun b B q=>by rw[zp (zm q w)];exact q
 frzs:=fun b u B q=>by rw[zp (zm q w)];exact q
 tbls:=fun b C q=>⟨#[],by rw[zp (zm q w),q];simp⟩
theorem Un.write(A:Mut (H x))(D:e=x\/H e=some (.own x))(k:∀b u,b≠e->h.get? b=some u->h'.get? b=some u)(B:∃u,h'.get? e=some u):Un fs c H (upd H x o) h h':=by
 have hx:∀b,H b=none->b≠x:=fun b n z=>by subst z;rw[n] at A;exact A
 have hb:∀b,H b=none->b≠e:=fun b n z=>by
  subst z;rcases D with r | r
  ·exact hx b n r
  ·rw[n] at r;cases r
 have C:∀b u,H b=some u->¬Mut (some u)->b≠x:=fun b u q E z=>by subst z;rw[q] at A;exact E A
 refine⟨fun b u q n _ _=>k b u (hb b n) q,fun b u q n _ _=>⟨u.slots,k b u (hb b n) q⟩,fun b u q n _=>by rw[zp (hx b n)];exact n,fun b u q _=>?_,
  fun b G q=>by rw[zp (C b _ q fun z=>z)];exact q,fun b u G q=>by rw[zp (C b _ q fun z=>z)];exact q,fun b I q=>⟨#[],by rw[zp (C b _ q fun z=>z),q];simp⟩⟩
 by_cases w:b=e
 ·subst w;exact B
 ·exact⟨u,k b u w q⟩
end
def trk(h:Heap)(H:Hp):List Addr:=(List.range h.objs.size).filter fun a=>(H a).isSome
def VJ(h:Heap)(H:Hp):Heap:=PySem.W.hideAll h (trk h H)
theorem zc9(h:Heap)(H:Hp):(VJ h H).objs.size=h.objs.size:=PySem.W.hideAll_size _ _
theorem zfa{h:Heap}{H:Hp}{b:Addr}{o:Obj}(e:h.get? b=some o)(n:H b=none):(VJ h H).get? b=some o:=
 PySem.W.hideAll_get _ e fun c=>by
  have q:(H b).isSome=true:=(qG.mp c).2;rw[n] at q;simp at q
theorem zgr{h:Heap}{H:Hp}{b:Addr}{o:Obj}(e:(VJ h H).get? b=some o):h.get? b=some o/\H b=none:=by
 have c:h.get? b=some o:=PySem.W.of_hideAll (trk h H) e;refine⟨c,?_⟩
 cases q:H b with
 | none=>rfl
 | some x=>
  have f:b∈trk h H:=qG.mpr ⟨xR.mpr (zH c),by simp[q]⟩
  have z:(VJ h H).get? b=none:=PySem.W.hideAll_none (trk h H) f;rw[z] at e;cases e
def zgQ(g h:Heap)(L:Addr):List (Addr×Obj):=(List.range h.objs.size).filterMap fun a=>if a=L\/(g.get? a).isSome=true then none else(h.get? a).map fun o=>(a,o)
def rest(g h:Heap)(L d:Addr):List (Addr×Obj):=(zgQ g h L).filter fun p=>decide (p.1≠d)
structure Mod(K:W.Frag)(mg:Str->Option Value)(base:Heap):Prop where
 kin:K.In base
 glob:base.Ns mainGlobals mg
 blt:∃mb,base.Ns builtinsNs mb/\∀x:Str,x ≠ "__name__" -> mb x=bootBuiltins x
 nolimit:base.NoLimit
structure Cx where
 prog:Program
 w:World
 K:PySem.W.Frag
 mg:Str->Option Value
 base:Heap
 A:Around
 N:List Str
 s₀:Shared
 H₀:Hp
 env:Env
 outer:List Env
 stack:List Env
 ex:List Addr
 fn:Str->Bool
 calm:Bool
 pn:List (Addr×Obj)
 xe:Value->Shared->Prop
def frs(l:List Env):List Addr:=l.filterMap (·.frame)
abbrev Cx.fs(X:Cx):List Addr:=frs X.outer
def Vis(b:Scope)(x:Str):Prop:=b.names.lookup x=some .local\/b.names.lookup x=some .cell\/b.names.lookup x=some .free
def Loc(b:Scope)(x:Str):Prop:=b.names.lookup x=some .local\/b.names.lookup x=some .cell
def zlb(b:Env)(h:Heap)(m:Str->Option Value)(x:Str)(u:Value):Prop:=
 (b.kindOf x=some .local/\m x=some u)\/((b.kindOf x=some .cell\/b.kindOf x=some .free)/\∃c,b.cells.lookup x=some c/\h.IsCell c (some u))
structure Cx.Ok(X:Cx):Prop where
 mod:Mod X.K X.mg X.base
 kind:X.env.scope.kind=.function
 glob:X.env.globals=mainGlobals
 blt:X.env.builtins=builtinsNs
 above:X.s₀.heap.objs.size<=X.env.locals
 inj:∀x y c,X.env.cells.lookup x=some c->X.env.cells.lookup y=some c->x=y
 has:∀x,(X.env.kindOf x=some .cell\/X.env.kindOf x=some .free)->∃c,X.env.cells.lookup x=some c
 cab:∀x c,X.fn x=true->X.env.cells.lookup x=some c->X.s₀.heap.objs.size<=c
 hd:X.calm=true->X.A.handled=none
 frames:X.A.frames=some X.stack
 stk:X.stack=X.outer\/(X.stack=X.env::X.outer/\X.env.frame=some X.env.locals)
 exf:∀b∈X.ex,b≠X.env.locals/\∀x c,X.env.cells.lookup x=some c->c≠b
 bs:∀b o,X.base.get? b=some o->X.s₀.heap.get? b=some o/\X.H₀ b=none
 bsz:X.base.objs.size<=X.s₀.heap.objs.size
 noex:∀b o,X.base.get? b=some o->b∉X.ex
 exfs:∀b∈X.ex,b∉X.fs
 funs:X.s₀.heap.FunFrames X.base X.outer
 frf:∀b∈X.fs,X.H₀ b=none
structure Inv(X:Cx)(pins:List (Addr×Obj))(σ:List (Option V))(H:Hp)(s:Shared):Prop where
 ok:X.Ok
 os:s.os=X.s₀.os
 bare:AllBare s.gens
 base:Un X.fs X.ex X.H₀ H X.s₀.heap s.heap
 loc:∃m,s.heap.Ns X.env.locals m/\∀(i:Nat) (x:Str) (v:V),X.N[i]? =some x->σ[i]? =some (some v)->Vis X.env.scope x->∃u,RelV v u/\zlb X.env s.heap m x u
 cell:∀x c,X.env.cells.lookup x=some c->∃v,s.heap.IsCell c v
 free:H X.env.locals=none
 freeC:∀x c,X.env.cells.lookup x=some c->H c=none
 pin:∀p∈X.pn++pins,s.heap.get? p.1=some p.2/\H p.1=none/\p.1≠X.env.locals/\p.1∉X.fs/\∀v,p.2.data≠.cell v
 hok:HOk X.prog X.w H s.heap
 len:σ.length=X.N.length
section
variable{X:Cx}{f:List (Addr×Obj)}{σ:List (Option V)}{H g:Hp}{s:Shared}{h':Heap}
theorem Cx.Ok.nofr(ok:X.Ok){b:Addr}{o:Obj}(e:X.base.get? b=some o):b∉X.fs:=fun hb=>by
 have:=(ok.funs.mem hb).1;rw[e] at this;cases this
theorem Inv.bs(I:Inv X f σ H s):∀b o,X.base.get? b=some o->s.heap.get? b=some o/\H b=none:=fun b o e=>
 ⟨I.base.keep b o (I.ok.bs b o e).1 (I.ok.bs b o e).2 (I.ok.nofr e) (I.ok.noex b o e),I.base.free b o (I.ok.bs b o e).1 (I.ok.bs b o e).2 (I.ok.noex b o e)⟩
theorem Inv.bk(I:Inv X f σ H s):∀b o,X.base.get? b=some o->s.heap.get? b=some o:=fun b o e=>(I.bs b o e).1
theorem Inv.mod(I:Inv X f σ H s):Mod X.K X.mg X.base:=I.ok.mod
theorem Inv.kIn(I:Inv X f σ H s):X.K.In s.heap:=I.ok.mod.kin.keeps I.bk
theorem Inv.lt(I:Inv X f σ H s):X.env.locals<s.heap.objs.size:=let ⟨_,b,_⟩:=I.loc;b.lt
theorem Inv.sz(I:Inv X f σ H s):X.s₀.heap.objs.size<=s.heap.objs.size:=jk I.ok.above (JK I.lt)
theorem Inv.nofs(I:Inv X f σ H s){a:Addr}(h:s.heap.objs.size<=a):a∉X.fs:=fun hb=>by
 obtain⟨_,o,b,_⟩:=I.ok.funs.mem hb;exact absurd (xj (zH b) (jk I.sz h)) (vw _)
theorem Inv.cne(I:Inv X f σ H s):∀x c,X.env.cells.lookup x=some c->c≠X.env.locals:=fun x c e z=>by
 obtain⟨v,o,A,w⟩:=I.cell x c e;obtain⟨m,⟨D,C,B,l,b,_⟩,_⟩:=I.loc;rw[z,l] at A;cases A;rw[b] at w;cases w
theorem Inv.funs(I:Inv X f σ H s):s.heap.FunFrames X.base X.outer:=by
 have all:∀(l:List Env),(∀b∈frs l,b∈X.fs)->X.s₀.heap.FunFrames X.base l->s.heap.FunFrames X.base l:=by
  intro l;induction l with
  | nil=>intro _ _;trivial
  | cons A r J=>
   intro hs C;obtain⟨hk,⟨L,o,w,D,E,B⟩,G⟩:=C;have c:L∈X.fs:=hs L (by unfold frs;rw[Wa,w];exact jm)
   obtain⟨M,e⟩:=I.base.slot L o E (I.ok.frf L c) c fun z=>I.ok.exfs L z c
   exact⟨hk,⟨L,_,w,D,e,B⟩,J (fun b hb=>hs b (by unfold frs;rw[Wa,w];exact jS _ hb)) G⟩
 exact all X.outer (fun _ hb=>hb) I.ok.funs
theorem Inv.stack(I:Inv X f σ H s):s.heap.FunFrames X.base X.stack:=by
 rcases I.ok.stk with e | ⟨e,b⟩
 ·rw[e];exact I.funs
 ·rw[e]
  obtain⟨m,c,_⟩:=I.loc;refine .cons (by rw[I.ok.kind];decide) b c ?_ I.funs
  exact Heap.get?_none_of_le (jk I.ok.bsz I.ok.above)
theorem Inv.stkSub(I:Inv X f σ H s):∀b∈frs X.stack,b∈X.env.locals::X.fs:=fun b hb=>by
 rcases I.ok.stk with e | ⟨e,c⟩
 ·rw[e] at hb;exact jS _ hb
 ·rw[e] at hb
  unfold frs at hb;rw[Wa,c] at hb;exact hb
theorem Inv.stkFree(I:Inv X f σ H s):∀b∈frs X.stack,H b=none:=fun b hb=>by
 rcases qe.mp (I.stkSub b hb) with e | hb
 ·rw[e];exact I.free
 ·obtain⟨_,o,c,_⟩:=I.ok.funs.mem hb
  exact I.base.free b o c (I.ok.frf b hb) fun z=>I.ok.exfs b z hb
theorem Inv.step{g':Array GenState}{t':Nat}{d':Drawn}{ch:List Addr}(I:Inv X f σ H s)
  (B:∀b∈ch,(b∈X.ex\/X.s₀.heap.objs.size<=b)/\b≠X.env.locals/\(∀x c,X.env.cells.lookup x=some c->c≠b)/\∀p∈X.pn++f,p.1≠b)
  (C:∀b o,b≠X.env.locals->b∉X.fs->b∉ch->s.heap.get? b=some o->H b=none->h'.get? b=some o)
  (G:∀b o,b≠X.env.locals->b∈X.fs->b∉ch->s.heap.get? b=some o->H b=none->∃sl,h'.get? b=some { o with slots:=sl }) (w:∀b o,b∉ch->s.heap.get? b=some o->H b=none->g b=none)
  (L:∀b o,b∉ch->s.heap.get? b=some o->∃T,h'.get? b=some T)
  (Y:∀b J,H b=some (.tup J)->g b=some (.tup J)) (N:∀b o u,H b=some (.frz o u)->g b=some (.frz o u)) (U:∀b ps,H b=some (.tbl ps)->∃O,g b=some (.tbl (ps++O)))
  (ns:∀m,s.heap.Ns X.env.locals m->h'.Ns X.env.locals m) (a0:HOk X.prog X.w g h') (hg:AllBare g') :
  Inv X f σ g { s with heap:=h',gens:=g',drawn:=d',toks:=t' }:=by
 have Q:∀b o,X.s₀.heap.get? b=some o->b≠X.env.locals:=fun b o e=>qh (xj (zH e) I.ok.above)
 have E:∀b o,X.s₀.heap.get? b=some o->b∉X.ex->b∉ch:=fun b o e hx hb=>by
  rcases(B b hb).1 with z | z
  ·exact hx z
  ·exact absurd (xj (zH e) z) (vw _)
 have A:∀x c,X.env.cells.lookup x=some c->∀v,s.heap.IsCell c v->h'.IsCell c v:=fun x c e v ⟨o,M,hd⟩=>by
  have D:c∉ch:=fun z=>(B c z).2.2.1 x c e rfl
  by_cases hc:c∈X.fs
  ·obtain⟨sl,q⟩:=G c o (I.cne x c e) hc D M (I.freeC x c e)
   exact⟨_,q,hd⟩
  ·exact⟨o,C c o (I.cne x c e) hc D M (I.freeC x c e),hd⟩
 refine⟨I.ok,I.os,hg,⟨fun b o e n hb hx=>?_,fun b o e n hb hx=>?_,fun b o e n hx=>?_,fun b o e hx=>?_,fun b J e=>Y b J (I.base.tups b J e),fun b o J e=>N b o J (I.base.frzs b o J e),fun b ps e=>?_⟩,?_,fun x c e=>?_,?_,fun x c e=>?_,fun p hp=>?_,a0,I.len⟩
 ·exact C b o (Q b o e) hb (E b o e hx) (I.base.keep b o e n hb hx) (I.base.free b o e n hx)
 ·obtain⟨sl,e1⟩:=I.base.slot b o e n hb hx
  obtain⟨aa,e2⟩:=G b _ (Q b o e) hb (E b o e hx) e1 (I.base.free b o e n hx);exact⟨aa,e2⟩
 ·obtain⟨T,e1⟩:=I.base.there b o e hx
  exact w b T (E b o e hx) e1 (I.base.free b o e n hx)
 ·obtain⟨T,e1⟩:=I.base.there b o e hx
  exact L b T (E b o e hx) e1
 ·obtain⟨m1,e1⟩:=I.base.tbls b ps e
  obtain⟨m2,e2⟩:=U b _ e1;exact⟨m1++m2,by rw[e2,Array.append_assoc]⟩
 ·obtain⟨m,hn,hl⟩:=I.loc
  refine⟨m,ns m hn,fun i x v e1 e2 e3=>?_⟩
  obtain⟨u,r,l⟩:=hl i x v e1 e2 e3;refine⟨u,r,?_⟩
  rcases l with l | ⟨k,c,e,z⟩
  ·exact .inl l
  ·exact .inr ⟨k,c,e,A x c e _ z⟩
 ·obtain⟨v,z⟩:=I.cell x c e
  exact⟨v,A x c e v z⟩
 ·obtain⟨m,⟨o,_,_,M,_⟩,_⟩:=I.loc
  exact w _ o (fun z=>(B _ z).2.1 rfl) M I.free
 ·obtain⟨v,o,M,hd⟩:=I.cell x c e
  exact w c o (fun z=>(B c z).2.2.1 x c e rfl) M (I.freeC x c e)
 ·obtain⟨e,n,ne,nf,d⟩:=I.pin p hp
  have D:p.1∉ch:=fun z=>(B p.1 z).2.2.2 p hp rfl
  exact⟨C p.1 p.2 ne nf D e n,w p.1 p.2 D e n,ne,nf,d⟩
theorem Inv.un{t':Nat}(I:Inv X f σ H s)(u:Un X.fs [] H g s.heap h')(A:HOk X.prog X.w g h'):Inv X f σ g { s with heap:=h',toks:=t' }:=by
 obtain⟨m,⟨o,M,L,B,r⟩,_⟩:=id I.loc;obtain⟨T,C⟩:=u.any B I.free (by simp)
 exact I.step (g':=s.gens) (d':=s.drawn) (ch:=[]) (fun _ z=>nomatch z) (fun b o _ hb _ e n=>u.keep b o e n hb (by simp)) (fun b o _ hb _ e n=>u.slot b o e n hb (by simp)) (fun b o _ e n=>u.free b o e n (by simp)) (fun b o _ e=>u.there b o e (by simp)) u.tups u.frzs u.tbls (fun O D=>by
  obtain⟨Q,w,l,c,E⟩:=D;rw[B] at c;cases c
  exact⟨_,w,l,C,E⟩) A I.bare
theorem Inv.call{g':Array GenState}{t':Nat}{d':Drawn}{ch:List Addr}(I:Inv X f σ H s)(u:Un (frs X.stack) ch H g s.heap h')(D:HOk X.prog X.w g h')(G:AllBare g')
  (l:∀b∈ch,(b∈X.ex\/X.s₀.heap.objs.size<=b)/\b≠X.env.locals/\(∀x c,X.env.cells.lookup x=some c->c≠b)/\∀p∈X.pn++f,p.1≠b) :
  Inv X f σ g { s with heap:=h',gens:=g',drawn:=d',toks:=t' }:=by
 obtain⟨m,⟨o,N,M,E,r⟩,_⟩:=id I.loc;obtain⟨T,C⟩:=u.any E I.free fun z=>(l _ z).2.1 rfl
 exact I.step (ch:=ch) l (fun b o C hb hc e n=>u.keep b o e n (fun z=>(qe.mp (I.stkSub b z)).elim C hb) hc) (fun b o _ _ hc e n=>u.any e n hc) (fun b o hc e n=>u.free b o e n hc) (fun b o hc e=>u.there b o e hc) u.tups u.frzs u.tbls (fun O J=>by
  obtain⟨Q,B,A,w,L⟩:=J;rw[E] at w;cases w
  exact⟨_,B,A,C,L⟩) D G
theorem Inv.turned{t':Nat}{it:Addr}(I:Inv X f σ H s)(k:∀b o,b≠it->s.heap.get? b=some o->h'.get? b=some o)(E:H it=none)(w:it≠X.env.locals)
  (h1:it∈X.ex\/X.s₀.heap.objs.size<=it) (h2:∀x c,X.env.cells.lookup x=some c->c≠it) (C:∀p∈X.pn++f,p.1≠it):Inv X f σ H { s with heap:=h',toks:=t' }:=by
 have l:∀b u,H b=some u->b≠it:=fun b u e z=>by rw[z,E] at e;cases e
 refine I.step (g':=s.gens) (d':=s.drawn) (ch:=[it]) (fun b hb=>?_) (fun b o _ _ hc e _=>k b o (fun z=>hc (by simp[z])) e) (fun b o _ _ hc e _=>⟨o.slots,k b o (fun z=>hc (by simp[z])) e⟩) (fun _ _ _ _ n=>n)
  (fun b o hc e=>⟨o,k b o (fun z=>hc (by simp[z])) e⟩) (fun _ _ e=>e) (fun _ _ _ e=>e) (fun b N e=>⟨#[],by rw[e];simp⟩) (fun m D=>?_) (fun b u e=>?_) I.bare
 ·have e:b=it:=by simpa using hb
  subst e;exact⟨h1,w,h2,C⟩
 ·obtain⟨o,B,A,G,r⟩:=D
  exact⟨o,B,A,k _ o (z9 w) G,r⟩
 ·refine(I.hok b u e).stay (fun c v hc q=>k c v ?_ q) (fun _ q=>q) fun _ _ q=>q
  rcases hc with z | z
  ·rw[z];exact l b u e
  ·exact l c _ z
theorem Inv.tok(I:Inv X f σ H s)(t:Nat):Inv X f σ H { s with toks:=t }:=I.un (h':=s.heap) (t':=t) Un.refl I.hok
theorem Inv.kept{t':Nat}(I:Inv X f σ H s)(k:∀b u,s.heap.get? b=some u->h'.get? b=some u):Inv X f σ H { s with heap:=h',toks:=t' }:=I.un (Un.kept k) (I.hok.kept k)
theorem Inv.laid{a:Addr}{o:HO}{t':Nat}(I:Inv X f σ H s)(k:∀b u,s.heap.get? b=some u->h'.get? b=some u)(c:s.heap.objs.size<=a)(l:ObjOk X.prog X.w (upd H a o) h' a o) :
  Inv X f σ (upd H a o) { s with heap:=h',toks:=t' }:=I.un (Un.laid k c (I.hok.fresh c)) (I.hok.laid k c l)
theorem Inv.write{x e:Addr}{o:HO}{t':Nat}(I:Inv X f σ H s)(A:Mut (H x))(w:e=x\/H e=some (.own x))(k:∀b u,b≠e->s.heap.get? b=some u->h'.get? b=some u)(c:∃u,h'.get? e=some u)
  (l:ObjOk X.prog X.w (upd H x o) h' x o):Inv X f σ (upd H x o) { s with heap:=h',toks:=t' }:=I.un (Un.write A w k c) (I.hok.write A w k c l)
theorem Inv.weak{c:List (Option V)}(I:Inv X f σ H s)(A:c.length=σ.length)(w:∀(i:Nat) v,c[i]? =some (some v)->σ[i]? =some (some v)):Inv X f c H s:=
 ⟨I.ok,I.os,I.bare,I.base,let ⟨m,B,b⟩:=I.loc;⟨m,B,fun i x v e1 e2 l=>b i x v e1 (w i v e2) l⟩,I.cell,I.free,I.freeC,I.pin,I.hok,A.trans I.len⟩
theorem Inv.pins_of{b:List (Addr×Obj)}(I:Inv X f σ H s)(h:∀p∈b,s.heap.get? p.1=some p.2/\H p.1=none/\p.1≠X.env.locals/\p.1∉X.fs/\∀v,p.2.data≠.cell v):Inv X b σ H s:=
 ⟨I.ok,I.os,I.bare,I.base,I.loc,I.cell,I.free,I.freeC,fun p c=>(qU.mp c).elim (fun z=>I.pin p (jN _ z)) (h p),I.hok,I.len⟩
theorem W7{N:List Str}(c:N.Nodup){i j:Nat}{x:Str}(a:N[i]? =some x)(b:N[j]? =some x):i=j:=by
 obtain⟨h1,e1⟩:=zC.mp a;obtain⟨h2,e2⟩:=zC.mp b;exact(Qr c).mp (e1.trans e2.symm)
theorem zcI{M:Model}{A:Around}{E:Value->Shared->Prop}{i:Nat}{x:Str}{v:V}{u:Value}{Q:Unit->Shared->Prop}(I:Inv X f σ H s)(hN:X.N.Nodup)(N:X.N[i]? =some x)(hx:Loc X.env.scope x)(r:RelV v u)
  (h:∀s',Inv X f (σ.set i (some v)) H s'->(∃a,Heap.SameBut a s.heap s'.heap/\(a=X.env.locals\/X.env.cells.lookup x=some a))->Q () s') (hf:X.fn x=true\/X.env.scope.names.lookup x=some .local:=by first| exact .inl rfl | exact .inr rfl | assumption):wpAny M A (storeName X.env x u) Q E s:=by
 obtain⟨m,hn,hl⟩:=id I.loc;have L:(X.env.scope.kind==.class||(X.env.scope.kind==.module&&X.env.locals != X.env.globals))=false:=by rw[I.ok.kind];rfl
 have O:i<σ.length:=by rw[I.len];exact(zC.mp N).1
 have B:=I.cne;have l:∀{a:Addr} {h':Heap},(∃o,s.heap.get? a=some o/\H a=none)->Heap.SameBut a s.heap h'->HOk X.prog X.w H h':=fun {a h'} ha hs b ob e=>by
  obtain⟨_,_,w⟩:=ha;refine(I.hok b ob e).stay (fun c w' hc q=>(hs.2 c ?_).trans q) (fun _ q=>q) fun _ _ q=>q
  rintro rfl;rcases hc with rfl | hc
  ·rw[w] at e;cases e
  ·rw[w] at hc;cases hc
 rcases hx with hk | hk
 ·refine wpAny_storeName_local hk hn (fun h' a0 hs=>?_) L
  obtain⟨oL,_,_,aa,_⟩:=id hn;refine h _ ⟨I.ok,I.os,I.bare,⟨fun b o e n hb hx=>?_,fun b o e n hb hx=>?_,I.base.free,fun b o e hx=>?_,I.base.tups,I.base.frzs,I.base.tbls⟩,⟨_,a0,fun j y v' e1 e2 e3=>?_⟩,fun y c e=>?_,I.free,I.freeC,fun p hp=>?_,l ⟨oL,aa,I.free⟩ hs,by simpa using I.len⟩ ⟨_,hs,.inl rfl⟩
  ·exact(hs.2 b (qh (xj (zH e) I.ok.above))).trans (I.base.keep b o e n hb hx)
  ·obtain⟨sl,e1⟩:=I.base.slot b o e n hb hx
   exact⟨sl,(hs.2 b (qh (xj (zH e) I.ok.above))).trans e1⟩
  ·obtain⟨o',e1⟩:=I.base.there b o e hx
   exact⟨o',(hs.2 b (qh (xj (zH e) I.ok.above))).trans e1⟩
  ·by_cases D:j=i
   ·subst D
    rw[N] at e1;cases e1
    rw[List.getElem?_set_self O] at e2
    cases e2;exact⟨u,r,.inl ⟨hk,by simp⟩⟩
   ·rw[List.getElem?_set_ne (z9 D)] at e2
    obtain⟨u',r',q⟩:=hl j y v' e1 e2 e3;refine⟨u',r',?_⟩
    rcases q with ⟨k,e⟩ | ⟨k,c,e,z⟩
    ·refine .inl ⟨k,?_⟩
     have:y≠x:=fun e=>D (W7 hN e1 (e▸N))
     simp[this,e]
    ·exact .inr ⟨k,c,e,z.sameBut hs (B y c e)⟩
  ·obtain⟨w',z⟩:=I.cell y c e
   exact⟨w',z.sameBut hs (B y c e)⟩
  ·obtain⟨e,n,ne,nf,d⟩:=I.pin p hp
   exact⟨(hs.2 p.1 ne).trans e,n,ne,nf,d⟩
 ·have C:X.fn x=true:=by
   rcases hf with z | z
   ·exact z
   ·rw[z] at hk;cases hk
  obtain⟨c,hc⟩:=I.ok.has x (.inl hk);obtain⟨w',z⟩:=I.cell x c hc;refine wpAny_storeName_cell I.ok.kind hk hc z (fun h' G hs=>?_)
  obtain⟨oc,T,U⟩:=id z;refine h { s with heap:=h' } ⟨I.ok,I.os,I.bare,⟨fun b o e n hb hx=>?_,fun b o e n hb hx=>?_,I.base.free,fun b o e hx=>?_,I.base.tups,I.base.frzs,I.base.tbls⟩,⟨m,hn.sameBut hs (z9 (B x c hc)),fun j y v' e1 e2 e3=>?_⟩,fun y Y e=>?_,I.free,I.freeC,fun p hp=>?_,l ⟨oc,T,I.freeC x c hc⟩ hs,by simpa using I.len⟩ ⟨c,hs,.inr hc⟩
  ·exact(hs.2 b (qh (xj (zH e) (I.ok.cab x c C hc)))).trans (I.base.keep b o e n hb hx)
  ·obtain⟨sl,e1⟩:=I.base.slot b o e n hb hx
   exact⟨sl,(hs.2 b (qh (xj (zH e) (I.ok.cab x c C hc)))).trans e1⟩
  ·obtain⟨o',e1⟩:=I.base.there b o e hx
   exact⟨o',(hs.2 b (qh (xj (zH e) (I.ok.cab x c C hc)))).trans e1⟩
  ·by_cases D:j=i
   ·subst D
    rw[N] at e1;cases e1
    rw[List.getElem?_set_self O] at e2
    cases e2;exact⟨u,r,.inr ⟨.inl hk,c,hc,G⟩⟩
   ·rw[List.getElem?_set_ne (z9 D)] at e2
    obtain⟨u',r',q⟩:=hl j y v' e1 e2 e3;refine⟨u',r',?_⟩
    rcases q with q | ⟨k,Y,e,z'⟩
    ·exact .inl q
    ·refine .inr ⟨k,Y,e,z'.sameBut hs ?_⟩
     rintro rfl;exact D (W7 hN e1 (I.ok.inj _ _ _ e hc▸N))
  ·by_cases J:Y=c
   ·subst J;exact⟨_,G⟩
   ·obtain⟨w2,z2⟩:=I.cell y Y e
    exact⟨w2,z2.sameBut hs J⟩
  ·obtain⟨e,n,ne,nf,d⟩:=I.pin p hp
   refine⟨(hs.2 p.1 ?_).trans e,n,ne,nf,d⟩
   intro q;rw[q,T] at e;have q':oc=p.2:=jq e;exact d w' (by rw[<- q'];exact U)
theorem ZH{M:Model}{A:Around}{E:Value->Shared->Prop}{i:Nat}{x:Str}{v:V}{u:Value}{Q:Unit->Shared->Prop}(I:Inv X f σ H s)(l:X.N.Nodup)(B:X.N[i]? =some x)(hx:Loc X.env.scope x)(r:RelV v u)
  (h:∀b,Inv X f (σ.set i (some v)) H b->Q () b) (w:X.fn x=true\/X.env.scope.names.lookup x=some .local:=by first| exact .inl rfl | exact .inr rfl | assumption):wpAny M A (storeName X.env x u) Q E s:=
 zcI I l B hx r (fun b c _=>h b c) w
theorem Inv.call'{s':Shared}{ch:List Addr}(I:Inv X f σ H s)(E:s'.os=s.os)(u:Un (frs X.stack) ch H g s.heap s'.heap)(w:HOk X.prog X.w g s'.heap)(D:AllBare s'.gens)
  (l:∀b∈ch,(b∈X.ex\/X.s₀.heap.objs.size<=b)/\b≠X.env.locals/\(∀x c,X.env.cells.lookup x=some c->c≠b)/\∀p∈X.pn++f,p.1≠b):Inv X f σ g s':=by
 obtain⟨h',B,A,C,G⟩:=s';have e:G=s.os:=E;subst e;exact I.call (g':=B) (t':=C) (d':=A) u w D l
end
abbrev XK:=Value->Option Addr->Hp->Prop
abbrev St:=List (Option V)
abbrev VK:=V->Hp->Prop
abbrev TE:=St->Hp->VK->Prop
abbrev TT:=St->Hp->(Bool->Hp->Prop)->Prop
abbrev TA:=St->Hp->(List V->Hp->Prop)->Prop
structure Xr where
 nx:St->Hp->Prop
 rt:VK
 bk:St->Hp->Prop:=fun _ _=>False
 ct:St->Hp->Prop:=fun _ _=>False
abbrev TS:=Xr->St->Hp->Prop
def EP(X:Cx)(b:List (Addr×Obj))(σ:St)(Q:VK)(u:Value)(f:Shared):Prop:=∃v c,Inv X b σ c f/\RelV v u/\Q v c
def TP(X:Cx)(c:List (Addr×Obj))(σ:St)(Q:Bool->Hp->Prop)(b:Bool)(g:Shared):Prop:=∃f,Inv X c σ f g/\Q b f
def AP(X:Cx)(b:List (Addr×Obj))(σ:St)(Q:List V->Hp->Prop)(l:List Value)(g:Shared):Prop:=∃f c,Inv X b σ c g/\Vals f l/\Q f c
def SP(X:Cx)(b:List (Addr×Obj))(D:Xr)(f:Flow)(l:Shared):Prop:=
 match f with
 | .next=>∃g c,Inv X b g c l/\D.nx g c
 | .brk=>∃g c,Inv X b g c l/\D.bk g c
 | .cont=>∃g c,Inv X b g c l/\D.ct g c
 | .ret u=>∃v g c,Inv X b g c l/\RelV v u/\D.rt v c
def PE(X:Cx)(e:Expr)(t:TE):Prop:=
 ∀(b:List (Addr×Obj)) (s:Shared) (σ:St) (H:Hp) (Q:VK),Inv X b σ H s->t σ H Q->wpAny (model X.prog X.w) X.A (eval e X.env) (EP X b σ Q) X.xe s
def PT(X:Cx)(e:Expr)(t:TT):Prop:=
 ∀(b:List (Addr×Obj)) (s:Shared) (σ:St) (H:Hp) (Q:Bool->Hp->Prop),Inv X b σ H s->t σ H Q->wpAny (model X.prog X.w) X.A (isTrue e X.env (eval e X.env)) (TP X b σ Q) X.xe s
def PW(X:Cx)(e:Expr)(t:TT):Prop:=
 ∀(c:Sem Value) (b:List (Addr×Obj)) (s:Shared) (σ:St) (H:Hp) (Q:Bool->Hp->Prop),Inv X b σ H s->t σ H Q->wpAny (model X.prog X.w) X.A (isTrue e X.env c) (TP X b σ Q) X.xe s
theorem PW.pt{X:Cx}{e:Expr}{t:TT}(h:PW X e t):PT X e t:=h _
def PA(X:Cx)(f:List Expr)(t:TA):Prop:=
 ∀(c:Pos) (b:List (Addr×Obj)) (s:Shared) (σ:St) (H:Hp) (Q:List V->Hp->Prop),Inv X b σ H s->t σ H Q->wpAny (model X.prog X.w) X.A (spliced (backTo c (starEach f X.env))) (AP X b σ Q) X.xe s
def PS(X:Cx)(st:Stmt)(t:TS):Prop:=
 ∀(b:List (Addr×Obj)) (s:Shared) (σ:St) (H:Hp) (D:Xr),Inv X b σ H s->t D σ H->wpAny (model X.prog X.w) X.A (exec st X.env) (SP X b D) X.xe s
def PSs(X:Cx)(st:List Stmt)(t:TS):Prop:=
 ∀(b:List (Addr×Obj)) (s:Shared) (σ:St) (H:Hp) (D:Xr),Inv X b σ H s->t D σ H->wpAny (model X.prog X.w) X.A (execs st X.env) (SP X b D) X.xe s
theorem thn{α:Type}{t:Sem α}{Q b:α->Shared->Prop}{M:Model}{A:Around}{E:Value->Shared->Prop}{s:Shared}(h:wpAny M A t Q E s)(c:∀a s,Q a s->b a s):wpAny M A t b E s:=qN h c fun _ _ x=>x
section
variable{X:Cx}
inductive IsB(x:V)(H:Hp)(Q:Bool->Hp->Prop):Prop
 | mk (c:Bool) (h:x=.bl c) (q:Q c H):IsB x H Q
inductive IsI(x:V)(H:Hp)(Q:Int->Hp->Prop):Prop
 | mk (i:Int) (h:x=.int i) (q:Q i H):IsI x H Q
inductive zkL(c:List V)(H:Hp)(Q:V->V->Hp->Prop):Prop
 | mk (v w:V) (h:c=[v,w]) (q:Q v w H):zkL c H Q
inductive zhB(i:Nat)(σ:St)(H:Hp)(Q:VK):Prop
 | mk (v:_) (_:σ[i]? =some (some v)) (_:Q v H):zhB i σ H Q
def tC(v:V):TE:=fun _ H Q=>Q v H
theorem zh5{i:Nat}{x:Str}{f:Pos}(L:X.N[i]? =some x)(hv:Vis X.env.scope x)(J:(x==("__debug__":Str))=false:=by decide)(G:(x==("__classdict__":Str))=false:=by decide):PE X (.Name x f) (zhB i):=by
 intro E s σ H Q I h;obtain⟨v,e,h⟩:=h;obtain⟨m,O,M⟩:=I.loc;obtain⟨u,r,l⟩:=M i x v L e hv;have D:EP X E σ Q u s:=⟨v,H,I,r,h⟩;rcases l with ⟨hk,N⟩ | ⟨hk,c,hc,w⟩
 ·exact wpAny_Name (wpAny_loadName_local I.ok.kind hk O N D) J
 ·rcases hk with hk | hk
  ·exact wpAny_Name (wpAny_loadName_cell I.ok.kind hk hc w D) J
  ·exact wpAny_Name (wpAny_loadName_free I.ok.kind hk hc w D G) J
theorem zi{i j f}:PE X (.Constant (.int i) j f) (tC (.int i)):=fun _ _ _ H _ I h=>wpAny_Constant_int ⟨.int i,H,I.tok _,⟨_,rfl⟩,h⟩
theorem vd{b j f}:PE X (.Constant (.bool b) j f) (tC (.bl b)):=fun _ _ _ H _ I h=>Constant_bool ⟨.bl b,H,I,rfl,h⟩
theorem wb{j f}:PE X (.Constant .none j f) (tC .non):=fun _ _ _ H _ I h=>Constant_none ⟨.non,H,I,rfl,h⟩
theorem Qc{x j f}:PE X (.Constant (.str x) j f) (tC (.str x)):=fun _ _ _ H _ I h=>Calls.Constant_str ⟨.str x,H,I.tok _,⟨_,rfl⟩,h⟩
def Gl(X:Cx)(x:Str):Prop:=X.env.kindOf x=some .globalImplicit
theorem zgv{E:Value->Shared->Prop}{c:List (Addr×Obj)}{s:Shared}{σ:St}{H:Hp}{x:Str}{u:Value}{f:Pos}{Q:Value->Shared->Prop}(I:Inv X c σ H s)(w:Gl X x)(D:X.mg x=some u)(h:Q u s)
  (l:(x==("__debug__":Str))=false:=by decide):wpAny (model X.prog X.w) X.A (eval (.Name x f) X.env) Q E s:=
 zfy I.ok.kind w (Calls.loadGlobal_global (by rw[I.ok.glob];exact I.mod.glob.keeps I.bk) D h) l
theorem wc{E:Value->Shared->Prop}{c:List (Addr×Obj)}{s:Shared}{σ:St}{H:Hp}{x:Str}{u:Value}{f:Pos}{Q:Value->Shared->Prop}(I:Inv X c σ H s)(w:Gl X x)(D:X.mg x=none)(hv:bootBuiltins x=some u)(h:Q u s)
  (G:x ≠ "__name__" :=by decide) (l:(x==("__debug__":Str))=false:=by decide):wpAny (model X.prog X.w) X.A (eval (.Name x f) X.env) Q E s:=by
 obtain⟨J,h1,h2⟩:=I.mod.blt;exact zfy I.ok.kind w (Calls.loadGlobal_builtin (by rw[I.ok.glob];exact I.mod.glob.keeps I.bk) D (by rw[I.ok.blt];exact h1.keeps I.bk) ((h2 x G).trans hv) h) l
theorem ZQ{x:Str}{v:V}{u:Value}{f:Pos}(l:Gl X x)(s:X.mg x=none)(hv:bootBuiltins x=some u)(r:RelV v u)(w:x ≠ "__name__" :=by decide)(c:(x==("__debug__":Str))=false:=by decide):PE X (.Name x f) (tC v):=
 fun _ _ _ H _ I h=>wc I l s hv ⟨v,H,I,r,h⟩ w c
variable{a b:Expr}{g B:TE}{f:Pos}
def PC(X:Cx)(l:CmpOp)(a b:Expr)(t:TE):Prop:=
 ∀(c:List (Addr×Obj)) (s:Shared) (σ:St) (H:Hp) (Q:VK),Inv X c σ H s->t σ H Q ->
  wpAny (model X.prog X.w) X.A (eval a X.env) (fun v w=>wpAny (model X.prog X.w) X.A (eval b X.env) (fun u D=>wpAny (model X.prog X.w) X.A (compareOp l v u) (EP X c σ Q) X.xe D) X.xe w) X.xe s
theorem zeP(b:Expr){c:CmpOp}(h:c≠.In)(h2:c≠.NotIn):behindInMarks c b=false:=by
 have e1:(c==CmpOp.In)=false:=by cases c<;>first| rfl | exact absurd rfl h
 have e2:(c==CmpOp.NotIn)=false:=by cases c<;>first| rfl | exact absurd rfl h2
 cases b<;>simp[behindInMarks,e1,e2]
def tB(t:TE):TT:=fun σ H Q=>t σ H fun x c=>IsB x c Q
theorem zel{w:CmpOp}{t:TE}(h:PC X w a b t)(h1:behindInMarks w b=false:=by first| exact zeP _ (by decide) (by decide) | rfl):PT X (.Compare a [w] [b] f) (tB t):=by
 intro l s σ H Q I G;refine wpAny_isTrue_Compare1 (thn (h l s σ H _ I G) fun v s1 h1=>thn h1 fun u s2 h2=>thn h2 fun c M ⟨x,D,E,L,J⟩=>?_) h1
 obtain⟨d,rfl,q⟩:=J;cases L;exact Zb ⟨D,E,q⟩
theorem xf{e:Expr}{t:TE}(h:PE X e t)(E:∀c,isTrue e X.env c=(do let v<-c;standAt e.pos;holding [v] (truthy v)):=by intro _;rfl):PT X e (tB t):=by
 intro l s σ H Q I G;refine isTrue_plain (thn (h l s σ H _ I G) fun v s1 ⟨x,w,D,L,J⟩=>?_) (E _)
 obtain⟨d,rfl,q⟩:=J;cases L;exact Zb ⟨w,D,q⟩
variable{A C:TT}{rest:List Expr}
def zk5(t u:TT):TT:=fun σ H Q=>t σ H fun c l=>if c=true then u σ l Q else Q false l
def tOr(t u:TT):TT:=fun σ H Q=>t σ H fun c l=>if c=true then Q true l else u σ l Q
def zkY(t:TT):TT:=fun σ H Q=>t σ H fun c l=>Q (!c) l
theorem QR(w:PT X a A):PW X (.BoolOp .And [a] f) A:=by
 intro D l s σ H Q I h;refine isTrue_and (thn (w l s σ H Q I h) fun c s1 e=>?_)
 cases c with
 | true=>exact isTrue_and_nil e
 | false=>exact e
theorem Jb(w:PT X a A):PW X (.BoolOp .Or [a] f) A:=by
 intro D l s σ H Q I h;refine isTrue_or (thn (w l s σ H Q I h) fun c s1 e=>?_)
 cases c with
 | false=>exact isTrue_or_nil e
 | true=>exact e
theorem Vq(G:PT X a A)(hb:PW X (.BoolOp .And (b::rest) f) C):PW X (.BoolOp .And (a::b::rest) f) (zk5 A C):=by
 intro J l s σ H Q I h;refine isTrue_and (thn (G l s σ H _ I h) fun c s1 ⟨w,D,E⟩=>?_)
 cases c with
 | true=>exact hb J l s1 σ w Q D E
 | false=>exact⟨w,D,E⟩
theorem W0(G:PT X a A)(hb:PW X (.BoolOp .Or (b::rest) f) C):PW X (.BoolOp .Or (a::b::rest) f) (tOr A C):=by
 intro J l s σ H Q I h;refine isTrue_or (thn (G l s σ H _ I h) fun c s1 ⟨w,D,E⟩=>?_)
 cases c with
 | true=>exact⟨w,D,E⟩
 | false=>exact hb J l s1 σ w Q D E
theorem vn(D:PT X a A):PT X (.UnaryOp .Not a f) (zkY A):=by
 intro l s σ H Q I h;exact isTrue_not (D l s σ H (fun c w=>Q (!c) w) I h)
def zjb(g B:TE):TE:=fun σ H Q=>g σ H fun x l=>IsB x l fun c l=>if c=true then B σ l Q else Q (.bl false) l
def zkX(g B:TE):TE:=fun σ H Q=>g σ H fun x l=>IsB x l fun c l=>if c=true then Q (.bl true) l else B σ l Q
def zi3(g:TE):TE:=fun σ H Q=>g σ H fun x l=>IsB x l fun c l=>Q (.bl (!c)) l
theorem wa{w}{t:TE}(h:PE X a t):PE X (.BoolOp w [a] f) t:=fun c s σ H Q I l=>BoolOp_one (h c s σ H Q I l)
theorem yo(G:PE X a g)(hb:PE X (.BoolOp .And (b::rest) f) B):PE X (.BoolOp .And (a::b::rest) f) (zjb g B):=by
 intro l s σ H Q I h;refine BoolOp_and (thn (G l s σ H _ I h) fun v s1 ⟨x,D,E,J,w⟩=>?_)
 obtain⟨c,rfl,w⟩:=w;cases J;refine Zb ?_
 cases c with
 | true=>exact hb l s1 σ D Q E w
 | false=>exact⟨.bl false,D,E,rfl,w⟩
theorem zhn(G:PE X a g)(hb:PE X (.BoolOp .Or (b::rest) f) B):PE X (.BoolOp .Or (a::b::rest) f) (zkX g B):=by
 intro l s σ H Q I h;refine BoolOp_or (thn (G l s σ H _ I h) fun v s1 ⟨x,D,E,J,w⟩=>?_)
 obtain⟨c,rfl,w⟩:=w;cases J;refine Zb ?_
 cases c with
 | false=>exact hb l s1 σ D Q E w
 | true=>exact⟨.bl true,D,E,rfl,w⟩
theorem zh7(G:PE X a g):PE X (.UnaryOp .Not a f) (zi3 g):=by
 intro l s σ H Q I h;refine UnaryOp_ (thn (G l s σ H _ I h) fun v s1 ⟨x,D,E,J,w⟩=>?_)
 obtain⟨c,rfl,w⟩:=w;cases J;exact not_of (Zb ⟨.bl (!c),D,E,rfl,w⟩)
def tIf(t:TT)(g B:TE):TE:=fun σ H Q=>t σ H fun c l=>if c=true then g σ l Q else B σ l Q
theorem wv{c:Expr}(hc:PT X c A)(G:PE X a g)(hb:PE X b B):PE X (.IfExp c a b f) (tIf A g B):=by
 intro l s σ H Q I h;refine wpAny_IfExp (thn (hc l s σ H _ I h) fun d s1 ⟨w,D,E⟩=>?_)
 cases d with
 | true=>exact G l s1 σ w Q D E
 | false=>exact hb l s1 σ w Q D E
end
def SqL(K:W.Frag)(H:Hp)(a:Addr)(c:List V):Prop:=
 Rd H a (.lst c) \/
  ∃(o:Obj) (b:Array Value) (n:Nat),K.lookup a=some o/\o.cls=.type "list" /\ o.dict=none/\o.data=.seq b n/\b.size<=sizeLine/\Vals c b.toList
def SqT(K:W.Frag)(H:Hp)(a:Addr)(c:List V):Prop:=
 Rd H a (.tup c) \/
  ∃(o:Obj) (b:Array Value) (n:Nat),K.lookup a=some o/\o.cls=.type "tuple" /\ o.data=.seq b n/\b.size<=sizeLine/\Vals c b.toList
def zla:Value->Option V
 | .none=>some .non
 | .bool b=>some (.bl b)
 | .int i _=>some (.int i)
 | .str x _=>some (.str x)
 | .bytes b _=>some (.byt b)
 | .float b _=>some (.flt b)
 | .ref a=>some (.ref a)
 | .type n=>some (.ty n)
 | _=>none
theorem RelV.abs{x:V}{u:Value}(r:RelV x u):zla u=some x:=by
 cases x with
 | non=>cases r;rfl
 | bl _=>cases r;rfl
 | int _=>obtain⟨t,rfl⟩:=r;rfl
 | str _=>obtain⟨t,rfl⟩:=r;rfl
 | byt _=>obtain⟨t,rfl⟩:=r;rfl
 | flt _=>obtain⟨t,rfl⟩:=r;rfl
 | ref _=>cases r;rfl
 | ty _=>cases r;rfl
theorem RelV.inj{x y:V}{u:Value}(r:RelV x u)(q:RelV y u):x=y:=jq (r.abs.symm.trans q.abs)
theorem Vals.inj:∀{c f:List V} {b:List Value},Vals c b->Vals f b->c=f
 | _,_,_,.nil,.nil=>rfl
 | _,_,_,.cons r t,.cons g l=>by rw[r.inj g,Vals.inj t l]
section
variable{X:Cx}{b:List (Addr×Obj)}{σ:St}{H:Hp}{s:Shared}{a:Addr}{c f:List V}
theorem SqL.of{K:W.Frag}(h:H a=some (.lst c)):SqL K H a c:=.inl (.inl h)
def u4:=@SqL.of
theorem SqT.of{K:W.Frag}(h:H a=some (.tup c)):SqT K H a c:=.inl (.inl h)
def u6:=@SqT.of
theorem Inv.list(I:Inv X b σ H s)(h:SqL X.K H a c):∃g:List Value,Vals c g/\PlainL s.heap a g.toArray/\c.length<=sizeLine:=by
 rcases h with h | ⟨o,g,n,hk,hc,l,hs,hz,r⟩
 ·obtain⟨z,g,n,r,e⟩:=h.ok I.hok
  exact⟨g,r,⟨_,n,e,rfl,rfl,rfl⟩,z⟩
 ·refine⟨g.toList,r,⟨o,n,I.kIn a o hk,hc,l,by simpa using hs⟩,?_⟩
  have e:=r.length;simp only[xz] at e;omega
theorem Inv.tuple(I:Inv X b σ H s)(h:SqT X.K H a c):∃g:List Value,Vals c g/\IsTup s.heap a g.toArray/\c.length<=sizeLine:=by
 rcases h with h | ⟨o,g,n,hk,hc,hs,hz,r⟩
 ·obtain⟨z,g,r,p⟩:=h.ok I.hok
  exact⟨g,r,p.1,z⟩
 ·refine⟨g.toList,r,⟨o,I.kIn a o hk,hc,n,by simpa using hs⟩,?_⟩
  have e:=r.length;simp only[xz] at e;omega
theorem Inv.list_inj(I:Inv X b σ H s)(h:SqL X.K H a c)(C:SqL X.K H a f):c=f:=by
 obtain⟨l,r,⟨o,n,e,_,_,d⟩,_⟩:=I.list h;obtain⟨g,D,⟨G,E,A,_,_,w⟩,_⟩:=I.list C;rw[e] at A;cases A
 rw[d] at w;injection w with B _;have:l=g:=by simpa using congrArg Array.toList B
 subst this;exact r.inj D
theorem Inv.tuple_inj(I:Inv X b σ H s)(h:SqT X.K H a c)(C:SqT X.K H a f):c=f:=by
 obtain⟨l,r,⟨o,e,_,n,d⟩,_⟩:=I.tuple h;obtain⟨g,D,⟨G,A,_,E,w⟩,_⟩:=I.tuple C;rw[e] at A;cases A
 rw[d] at w;injection w with B _;have:l=g:=by simpa using congrArg Array.toList B
 subst this;exact r.inj D
end
abbrev Cx.wish(X:Cx)(E:Value->Shared->Prop):Cx:={ X with xe:=E }
abbrev Cx.nox(X:Cx):Cx:=X.wish fun _ _=>False
theorem Cx.Ok.wish{X:Cx}(ok:X.Ok)(E:Value->Shared->Prop):(X.wish E).Ok:=
 ⟨ok.mod,ok.kind,ok.glob,ok.blt,ok.above,ok.inj,ok.has,ok.cab,ok.hd,ok.frames,ok.stk,ok.exf,ok.bs,ok.bsz,ok.noex,ok.exfs,ok.funs,ok.frf⟩
theorem Cx.Ok.unwish{X:Cx}{E:Value->Shared->Prop}(ok:(X.wish E).Ok):X.Ok:=
 ⟨ok.mod,ok.kind,ok.glob,ok.blt,ok.above,ok.inj,ok.has,ok.cab,ok.hd,ok.frames,ok.stk,ok.exf,ok.bs,ok.bsz,ok.noex,ok.exfs,ok.funs,ok.frf⟩
section
variable{X:Cx}{b:List (Addr×Obj)}{σ:St}{H:Hp}{s:Shared}{E:Value->Shared->Prop}
theorem Inv.wish(I:Inv X b σ H s)(E:Value->Shared->Prop):Inv (X.wish E) b σ H s:=⟨I.ok.wish E,I.os,I.bare,I.base,I.loc,I.cell,I.free,I.freeC,I.pin,I.hok,I.len⟩
theorem Inv.unwish(I:Inv (X.wish E) b σ H s):Inv X b σ H s:=⟨I.ok.unwish,I.os,I.bare,I.base,I.loc,I.cell,I.free,I.freeC,I.pin,I.hok,I.len⟩
theorem SP.unwish{D:Xr}{f:Flow}{l:Shared}(h:SP (X.wish E) b D f l):SP X b D f l:=by
 cases f with
 | next=>obtain⟨g,c,I,q⟩:=h;exact⟨g,c,I.unwish,q⟩
 | brk=>obtain⟨g,c,I,q⟩:=h;exact⟨g,c,I.unwish,q⟩
 | cont=>obtain⟨g,c,I,q⟩:=h;exact⟨g,c,I.unwish,q⟩
 | ret u=>obtain⟨v,g,c,I,r,q⟩:=h;exact⟨v,g,c,I.unwish,r,q⟩
theorem PSs.nox{st:List Stmt}{t:TS}(h:PSs X.nox st t):PSs X st t:=fun b s σ H D I c=>
 qN (h b s σ H D (I.wish _) c) (fun _ _ q=>q.unwish) fun _ _ z=>False.elim z
end
section
variable{X:Cx}{st:Stmt}{rest:List Stmt}{t u:TS}{e:Expr}{l:TE}{g:Pos}
def zi4:TS:=fun D σ H=>D.nx σ H
def zkU(t u:TS):TS:=fun D σ H=>t { D with nx:=u D } σ H
theorem qF:PSs X [] zi4:=fun _ _ σ H _ I h=>wpAny_execs_nil ⟨σ,H,I,h⟩
theorem zf(h1:PS X st t)(h2:PSs X rest u):PSs X (st::rest) (zkU t u):=by
 intro b s σ H D I h;refine wpAny_execs_cons (thn (h1 b s σ H { D with nx:=u D } I h) fun f s1 q=>?_)
 cases f with
 | next=>
  obtain⟨A,c,w,q⟩:=q;exact h2 b s1 A c D w q
 | ret v=>exact q
 | brk=>exact q
 | cont=>exact q
theorem zo(h1:PS X st t):PSs X [st] t:=by
 intro b s σ H D I h;refine wpAny_execs_cons (thn (h1 b s σ H D I h) fun f s1 q=>?_)
 cases f with
 | next=>exact wpAny_execs_nil q
 | ret v=>exact q
 | brk=>exact q
 | cont=>exact q
theorem Inv.quiet{b:List (Addr×Obj)}{σ:St}{H:Hp}{s:Shared}(I:Inv X b σ H s):interactive X.env=false:=by simp[interactive,I.ok.kind]
def zi6(l:TE):TS:=fun D σ H=>l σ H fun _ b=>D.nx σ b
theorem jt(w:PE X e l)(hs:swapsWith e none g.line X.env=pure false:=by rfl):PS X (.Expr e g) (zi6 l):=by
 intro b s σ H D I h;exact wpAny_Expr_any (thn (w b s σ H _ I h) fun v s1 ⟨x,c,f,B,A⟩=>⟨σ,c,f,A⟩) I.quiet hs
def zkV(l:TE):TS:=fun D σ H=>l σ H D.rt
theorem zB(w:PE X e l):PS X (.Return (some e) g) (zkV l):=by
 intro b s σ H D I h;exact wpAny_Return_some (thn (w b s σ H _ I h) fun v s1 ⟨x,c,f,B,A⟩=>⟨x,σ,c,f,B,A⟩)
def zk0(c:TT)(t u:TS):TS:=fun D σ H=>c σ H fun b f=>if b=true then t D σ f else u D σ f
theorem jB{c:Expr}{a b:List Stmt}{C:TT}(hc:PT X c C)(E:PSs X a t)(hb:PSs X b u):PS X (.If c a b g) (zk0 C t u):=by
 intro f s σ H D I h;refine wpAny_If (thn (hc f s σ H _ I h) fun d s1 ⟨w,A,B⟩=>?_)
 cases d with
 | true=>exact E f s1 σ w D A B
 | false=>exact hb f s1 σ w D A B
end
abbrev TG:=V->St->Hp->(St->Hp->Prop)->Prop
abbrev TGs:=List V->St->Hp->(St->Hp->Prop)->Prop
def PG(X:Cx)(b:Expr)(t:TG):Prop:=
 ∀(c:List (Addr×Obj)) (s:Shared) (σ:St) (H:Hp) (v:V) (u:Value) (Q:St->Hp->Prop),Inv X c σ H s->RelV v u->t v σ H Q ->
  wpAny (model X.prog X.w) X.A (assign b X.env u) (fun _ l=>∃g f,Inv X c g f l/\Q g f) X.xe s
def PGs(X:Cx)(A:List Expr)(t:TGs):Prop:=
 ∀(b:List (Addr×Obj)) (s:Shared) (σ:St) (H:Hp) (g:List V) (f:List Value) (Q:St->Hp->Prop),Inv X b σ H s->Vals g f->t g σ H Q ->
  wpAny (model X.prog X.w) X.A (assignInOrder ((assignEach A X.env).map (·.2)) f) (fun _ w=>∃l c,Inv X b l c w/\Q l c) X.xe s
abbrev zfH:=V->V->V->Hp->(Hp->Prop)->Prop
def ziU(X:Cx)(t:zfH):Prop:=
 ∀(b:List (Addr×Obj)) (s:Shared) (σ:St) (H:Hp) (o i v:V) (g f u:Value) (Q:Hp->Prop),Inv X b σ H s->RelV o g->RelV i f->RelV v u->t o i v H Q ->
  wpAny (model X.prog X.w) X.A (setItem g f u) (fun _ l=>∃c,Inv X b σ c l/\Q c) X.xe s
abbrev TIp:=V->V->Hp->VK->Prop
def PIp(X:Cx)(c:Operator)(t:TIp):Prop:=
 ∀(b:List (Addr×Obj)) (s:Shared) (σ:St) (H:Hp) (x y:V) (v u:Value) (Q:VK),Inv X b σ H s->RelV x v->RelV y u->t x y H Q ->
  wpAny (model X.prog X.w) X.A (inplaceOp c v u) (EP X b σ Q) X.xe s
section
variable{X:Cx}{l:Pos}
def xt(i:Nat):TG:=fun v σ H Q=>Q (σ.set i (some v)) H
theorem zq{i:Nat}{x:Str}(f:X.N.Nodup)(w:X.N[i]? =some x)(hx:Loc X.env.scope x)(g:X.fn x=true\/X.env.scope.names.lookup x=some .local:=by first| exact .inl rfl | exact .inr rfl | assumption):PG X (.Name x l) (xt i):=by
 intro b s σ H v u Q I r h;exact wpAny_assign_Name (ZH I f w hx r (fun A c=>⟨_,H,c,h⟩) g)
def Ys:TGs:=fun b σ H Q=>b=[]/\Q σ H
inductive vk(t:TG)(u:TGs)(b:List V)(σ:St)(H:Hp)(Q:St->Hp->Prop):Prop
 | mk (v r:_) (_:b=v::r) (_:t v σ H fun f c=>u r f c Q):vk t u b σ H Q
theorem qk:PGs X [] Ys:=by
 intro b s σ H f c Q I r h;obtain⟨e,h⟩:=h;subst e;cases r;exact assignInOrder_nil ⟨σ,H,I,h⟩
theorem zr{e:Expr}{c:List Expr}{t:TG}{u:TGs}(h1:PG X e t)(h2:PGs X c u)
  (hs:(assignEach (e::c) X.env).map (·.2)=assign e X.env::(assignEach c X.env).map (·.2):=by rfl):PGs X (e::c) (vk t u):=by
 intro b s σ H E C Q I r h;obtain⟨v,D,e1,h⟩:=h;subst e1;cases r with
 | cons r A=>
  rw[hs];refine assignInOrder_cons (thn (h1 b s σ H _ _ _ I r h) fun _ s1 ⟨B,f,g,w⟩=>?_)
  exact h2 b s1 B f _ _ Q g A w
inductive VL(K:W.Frag)(n:Nat)(t:TGs)(v:V)(σ:St)(H:Hp)(Q:St->Hp->Prop):Prop
 | mk (a b:_) (_:v=.ref a) (_:SqT K H a b) (_:b.length=n) (_:t b σ H Q):VL K n t v σ H Q
theorem qL{f:List Expr}{k:Nat}{t:TGs}{n:Nat}(hc:X.calm=true)(h:PGs X f t)
  (E:(assignEach f X.env).length=n:=by rfl) (g:(assignEach f X.env).findIdx? (·.1)=none:=by rfl):PG X (.Tuple f k l) (VL X.K n t):=by
 intro c s σ H v u Q I r w;obtain⟨a,L,e1,hq,D,w⟩:=w;subst e1;cases r;obtain⟨J,A,G,hz⟩:=I.tuple hq;refine assign_Tuple_tuple (I.ok.hd hc) G (by simp[E,<- D,A.length]) g fun C hx=>?_
 have B:Inv X c σ H { s with heap:=C }:=I.kept (t':=s.toks) fun b o e=>hx b o (qh (zH e)) e
 exact h c _ σ H L _ Q B (by simpa using A) w
def zk9(to g:TE)(t:zfH):TG:=fun v σ H Q=>to σ H fun o b=>g σ b fun i c=>t o i v c fun f=>Q σ f
theorem Vv{o i:Expr}{to g:TE}{t:zfH}(L:PE X o to)(J:PE X i g)(hs:ziU X t)
  (G:∀v,assign (.Subscript o i l) X.env v=(do
   let c<-holding [v] (eval o X.env)
   let f<-holding [v,c] (eval i X.env)
   standAt l
   holding [v,c,f] (setItem c f v)
   release [v,c,f] []):=by intro _;rfl):PG X (.Subscript o i l) (zk9 to g t):=by
 intro b s σ H v u Q I r h;rw[G];refine zg (xN (thn (L b s σ H _ I h) fun c s1 ⟨x,w,C,T,M⟩=>?_))
 refine zg (xN (thn (J b s1 σ w _ C M) fun f s2 ⟨y,A,D,U,N⟩=>?_))
 refine zg (vV (zg (xN (thn (hs b s2 σ A x y v c f u _ D T U r N) fun _ Y ⟨B,E,O⟩=>?_))))
 exact wpAny_release ⟨σ,B,E,O⟩
def WB(c:TE)(g:TG):TS:=fun D σ H=>c σ H fun x b=>g x σ b D.nx
theorem jQ{c e:Expr}{f:TE}{g:TG}(B:PE X e f)(C:PG X c g)(hs:swapsWithSole [c] e l.line X.env=pure false:=by rfl)(E:swappedStores [c] e X.env=pure none:=by rfl)
  (h1:(assignEach [c] X.env).map (·.2)=[assign c X.env]:=by rfl):PS X (.Assign [c] e l) (WB f g):=by
 intro b s σ H D I h;refine wpAny_Assign_stores (thn (B b s σ H _ I h) fun v s1 ⟨x,w,A,J,G⟩=>?_) hs E
 rw[h1];exact thn (C b s1 σ w x v _ A J G) fun _ s2 q=>q
theorem zE{i:Nat}{x:Str}{e:Expr}{f:TE}{b:Pos}(B:X.N.Nodup)(G:X.N[i]? =some x)(hx:Loc X.env.scope x)(C:PE X e f)(hs:swapsWith e (some (.Name x b)) l.line X.env=pure false:=by rfl)(E:X.fn x=true\/X.env.scope.names.lookup x=some .local:=by first| exact .inl rfl | exact .inr rfl | assumption) :
  PS X (.Assign [.Name x b] e l) (WB f (xt i)):=by
 intro c s σ H D I h;refine wpAny_Assign_Name (thn (C c s σ H _ I h) fun v s1 ⟨y,g,w,L,J⟩=>?_) hs
 exact ZH w B G hx L (fun s2 A=>⟨_,g,A,J⟩) E
def zkW(i j:Nat)(c:TA):TS:=fun D σ H=>c σ H fun f b=>zkL f b fun v w b=>D.nx ((σ.set i (some v)).set j (some w)) b
theorem zem{i j:Nat}{x y:Str}{a b:Expr}{ta:TA}{M N L:Pos}{J G g}(hc:X.calm=true)(hN:X.N.Nodup)(hi:X.N[i]? =some x)(hj:X.N[j]? =some y)(C:i≠j)
  (hx:X.env.scope.names.lookup x=some .local) (hy:X.env.scope.names.lookup y=some .local) (ha:PA X [a,b] ta)
  (hw:swappedStores [.Tuple [.Name x M,.Name y N] J L] (.Tuple [a,b] G g) X.env=pure (some [x,y]))
  (hs:swapsWithSole [.Tuple [.Name x M,.Name y N] J L] (.Tuple [a,b] G g) l.line X.env=pure false:=by rfl) :
  PS X (.Assign [.Tuple [.Name x M,.Name y N] J L] (.Tuple [a,b] G g) l) (zkW i j ta):=by
 intro f s σ H D I h;rw[exec_Assign_arm];refine zg (vV ?_)
 rw[hs];refine zg (zw ?_)
 rw[zu (by decide)]
 refine zg (Tuple_ (thn (ha _ f s σ H _ I h) fun us s1 ⟨vs,T,I1,r1,O⟩=>?_))
 obtain⟨v,w,e1,O⟩:=O;subst e1;obtain⟨A,B,rfl,rv,Q⟩:∃A B,us=[A,B]/\RelV v A/\RelV w B:=by
  cases r1 with
  | cons p q=>
   cases q with
   | cons p' q'=>
    cases q';exact⟨_,_,rfl,p,p'⟩
 refine xc ?_ (by show 2<=sizeLine;decide)
 have I2:Inv X f σ T { s1 with heap:=s1.heap.push { cls:=.type "tuple",data:=.seq [A,B].toArray } }:=I1.kept (t':=s1.toks) fun b o e=>z7 _ e
 rw[hw];refine zg (zw ?_)
 show wpAny (model X.prog X.w) X.A (do rule "assign.swapped-stores";let c<-unpackItems (.ref s1.heap.objs.size) 2 none;assignInOrder [fun v=>bindName X.env y v,fun v=>bindName X.env x v] c.reverse;pure Flow.next) _ _ _
 refine zg (vv (zg (unpackItems_tuple (items:=#[A,B]) (I.ok.hd hc) (IsTup.new s1.heap _) fun Y E=>?_)))
 have I3:=I2.kept (h':=Y) (t':=s1.toks) fun b o e=>E b o (qh (zH e)) e
 show wpAny _ _ (assignInOrder [fun v=>bindName X.env y v,fun v=>bindName X.env x v] [B,A] >>= fun _=>pure Flow.next) _ _ _
 refine zg (assignInOrder_cons (wpAny_bindName (ZH I3 hN hj (.inl hy) Q (fun s2 I4=>?_) (.inr hy))))
 refine assignInOrder_cons (wpAny_bindName (ZH I4 hN hi (.inl hx) rv (fun s3 U=>assignInOrder_nil (zw ?_)) (.inr hx)))
 rw[List.set_comm _ _ (z9 C)] at U;exact⟨_,T,U,O⟩
def zja(to G E:TE)(b:V->V->Hp->VK->Prop)(f:TIp)(c:zfH):TS:=fun D σ H=>to σ H fun o g=>G σ g fun i s=>b o i s fun x w=>E σ w fun y A=>f x y A fun z B=>c o i z B fun C=>D.nx σ C
def zkD(X:Cx)(t:V->V->Hp->VK->Prop):Prop:=
 ∀(b:List (Addr×Obj)) (s:Shared) (σ:St) (H:Hp) (o i:V) (f c:Value) (Q:VK),Inv X b σ H s->RelV o f->RelV i c->t o i H Q ->
  wpAny (model X.prog X.w) X.A (getItem f c) (EP X b σ Q) X.xe s
theorem zf1{o i e:Expr}{to N M:TE}{f:V->V->Hp->VK->Prop}{B:TIp}{g:zfH}{G:Operator}{C:Pos}(ho:PE X o to)(hi:PE X i N)(hg:zkD X f)(he:PE X e M)(hp:PIp X G B)(hs:ziU X g)
  (ha:∀A w c,augStore i A w c=(do holding [c,A,w] (setItem A w c);release [c,A,w] [];pure .next):=by intros;rfl):PS X (.AugAssign (.Subscript o i C) G e l) (zja to N M f B g):=by
 intro b s σ H D I h;refine wpAny_AugAssign_SubscriptAny (thn (ho b s σ H _ I h) fun A s1 ⟨O,T,I1,J,q1⟩=>?_) ha
 refine thn (hi b s1 σ T _ I1 q1) fun w s2 ⟨Q,U,I2,L,q2⟩=>?_
 refine thn (hg b s2 σ U O Q A w _ I2 J L q2) fun E s3 ⟨x3,Y,I3,r3,q3⟩=>?_
 refine thn (he b s3 σ Y _ I3 q3) fun v s4 ⟨x4,H4,I4,r4,q4⟩=>?_
 refine thn (hp b s4 σ H4 x3 x4 E v _ I4 r3 r4 q4) fun c s5 ⟨x5,H5,I5,r5,q5⟩=>?_
 exact thn (hs b s5 σ H5 O Q x5 A w c _ I5 J L r5 q5) fun _ s6 ⟨H6,I6,q6⟩=>⟨σ,H6,I6,q6⟩
inductive ipI(f:Int->Int->Int)(x:V)(y:V)(H:Hp)(Q:VK):Prop
 | mk (i j:_) (_:x=.int i) (_:y=.int j) (_:Q (.int (f i j)) H):ipI f x y H Q
theorem ziA:PIp X .Add (ipI fun i j=>i+j):=by
 intro b s σ H x y v u Q I c f h;obtain⟨i,j,e1,e2,q⟩:=h;subst e1;subst e2
 obtain⟨t,rfl⟩:=c;obtain⟨g,rfl⟩:=f;exact iadd_int ⟨.int _,H,I.tok _,⟨_,rfl⟩,q⟩
def zhA(c:TT)(A:TS):TS:=fun D σ H=>∃W:Nat->St->Hp->Prop,(∃m,W m σ H)/\∀m σ H,W m σ H ->
 c σ H fun b g=>if b=true then ∃N:St->Hp->Prop,(∀w f,N w f->∃s,s<m/\W s w f)/\A { D with nx:=N,ct:=N,bk:=D.nx } σ g else D.nx σ g
theorem W1{c:Expr}{body:List Stmt}{tc:TT}{tb:TS}(hp:PassesOwn (model X.prog X.w) X.A X.env X.xe)(hc:PT X c tc)(hb:PSs X body tb):PS X (.While c body [] l) (zhA tc tb):=by
 intro g s σ H D I h;obtain⟨W,⟨m0,w0⟩,A⟩:=h;refine wpAny_While (codeAny_whileLoop (fun n s'=>∃σ' T,Inv X g σ' T s'/\W n σ' T) ?_ m0 ⟨σ,H,I,w0⟩)
 rintro n s1 ⟨G,U,I1,w1⟩;refine Zw hp (thn (hc g s1 G U _ I1 (A n G U w1)) fun b s2 ⟨Y,I2,C⟩=>?_)
 cases b with
 | true=>
  obtain⟨N,hN,C⟩:=C;rw[zv rfl];refine Zw hp (thn (hb g s2 G Y _ I2 C) fun f s3 E=>?_)
  cases f with
  | next=>
   obtain⟨B,w,J,O⟩:=E;obtain⟨M,L,Q⟩:=hN B w O;exact⟨M,L,B,w,J,Q⟩
  | cont=>
   obtain⟨B,w,J,O⟩:=E;obtain⟨M,L,Q⟩:=hN B w O;exact⟨M,L,B,w,J,Q⟩
  | brk=>exact E
  | ret v=>exact E
 | false=>
  rw[zu qR];exact wpAny_execs_nil ⟨G,Y,I2,C⟩
end
structure It where
 go:Nat->Hp->Prop
 yld:Nat->Hp->V->Hp->Prop
 stop:Nat->Hp->Prop
def xo(X:Cx)(f:List (Addr×Obj))(H:Hp)(b:Addr):Prop:=
 H b=none/\b≠X.env.locals/\b∉X.fs/\(b∈X.ex\/X.s₀.heap.objs.size<=b)/\(∀x c,X.env.cells.lookup x=some c->c≠b)/\∀p∈X.pn++f,p.1≠b
theorem Inv.fpOk{X:Cx}{f:List (Addr×Obj)}{σ:St}{H g:Hp}{s:Shared}{b:Addr}(I:Inv X f σ H s)(hb:s.heap.objs.size<=b)(l:g b=none):xo X f g b:=by
 refine⟨l,xK (xj I.lt hb),I.nofs hb,.inr (jk I.sz hb),fun x c e z=>?_,fun p w z=>?_⟩
 ·obtain⟨v,q⟩:=I.cell x c e
  exact absurd (xj q.lt (by rw[z];exact hb)) (vw _)
 ·exact absurd (xj (zH (I.pin p w).1) (by rw[z];exact hb)) (vw _)
structure ZE(P:Program)(w:World)(K:W.Frag)(tg:Expr)(J:It)(fp:List Addr)(it:Addr)(tn:Nat->Heap->Prop):Prop where
 mem:it∈fp
 obj:∀i h,tn i h->∀b∈fp,∃o,h.get? b=some o/\∀v,o.data≠.cell v
 keep:∀i h h',tn i h->(∀b∈fp,∀o,h.get? b=some o->h'.get? b=some o)->tn i h'
 item:∀(X:Cx),X.prog=P->X.w=w->X.K=K->X.calm=true->∀(i:Nat) (pins:List (Addr×Obj)) (s:Shared) (σ:St) (H:Hp) (E:Value->Shared->Prop),Inv X pins σ H s->(∀b∈fp,xo X pins H b)->tn i s.heap->J.go i H ->
  wpAny (model P w) X.A (pyNext (.ref it)) (fun r s1=>∃u,r=some u /\
   wpAny (model P w) X.A (letOwnedTupleGo tg (.ref it) u) (fun _ s2=>∃x H',Inv X pins σ H' s2/\RelV x u/\J.yld i H x H'/\tn (i+1) s2.heap/\∀b∈fp,H' b=none) E s1) E s
 done:∀(X:Cx),X.prog=P->X.w=w->X.K=K->X.calm=true->∀(i:Nat) (pins:List (Addr×Obj)) (s:Shared) (σ:St) (H:Hp) (E:Value->Shared->Prop),Inv X pins σ H s->(∀b∈fp,xo X pins H b)->tn i s.heap->J.stop i H ->
  wpAny (model P w) X.A (pyNext (.ref it)) (fun r s1=>r=none/\Inv X pins σ H s1) E s
 self:∀(A:Around) (i:Nat) (s:Shared) (Q:Value->Shared->Prop) (E:Value->Shared->Prop),tn i s.heap->Q (.ref it) s->wpAny (model P w) A (pyIter (.ref it)) Q E s
abbrev TI:=St->Hp->(It->Hp->Prop)->Prop
def PIE(X:Cx)(c:List (Addr×Obj))(σ:St)(A:Expr)(R:It->Hp->Prop)(g:Value)(s2:Shared):Prop:=
 ∃(s:Addr) (l:List Addr) (w:Nat->Heap->Prop) (J:It) (f:Hp),g=.ref s/\Inv X c σ f s2/\ZE X.prog X.w X.K A J l s w/\w 0 s2.heap/\(∀b∈l,xo X c f b)/\R J f
def PI(X:Cx)(f c:Expr)(g:TI):Prop:=
 ∀(b:List (Addr×Obj)) (s:Shared) (σ:St) (H:Hp) (R:It->Hp->Prop),Inv X b σ H s->g σ H R ->
  wpAny (model X.prog X.w) X.A (eval c X.env) (fun v s1=>wpAny (model X.prog X.w) X.A (pyIter v) (PIE X b σ f R) X.xe s1) X.xe s
theorem zbR{M:Model}{A:Around}{E:Value->Shared->Prop}{s:Shared}{f:Expr}{c:Addr}{u:Value}{o:Obj}{n:String}{g:Array Value}{Q:Unit->Shared->Prop}(B:s.heap.get? c=some o)(hc:o.cls=.type n)(l:o.data=.fields g)
  (w:["enumerate", "zip", "dict_itemiterator", "dict_reverseitemiterator", "odict_iterator", "itertools.zip_longest", "itertools.pairwise"].contains n=false) (b:Q () s):wpAny M A (letOwnedTupleGo f (.ref c) u) Q E s:=by
 unfold letOwnedTupleGo;cases f<;>first
  | exact zw b
  | (cases u<;>first
    | exact zw b
    | (refine zg (wpAny_load B ?_)
       rw[hc,l];show wpAny M A (if(["enumerate", "zip", "dict_itemiterator", "dict_reverseitemiterator", "odict_iterator", "itertools.zip_longest", "itertools.pairwise"].contains n&&g[0]? ==some (rawInt _))=true then _ else _) Q E s
       rw[zu (by intro h;rw[w,Bool.false_and] at h;cases h)]
       exact zw b))
def Itl(K:W.Frag)(a:Addr):It:=
 ⟨fun i H=>∃b x,SqL K H a b/\b[i]? =some x,fun i H x c=>c=H/\∀b,SqL K H a b->b[i]? =some x,fun i H=>∃b,SqL K H a b/\b.length<=i⟩
def Itt(K:W.Frag)(a:Addr):It:=
 ⟨fun i H=>∃b x,SqT K H a b/\b[i]? =some x,fun i H x c=>c=H/\∀b,SqT K H a b->b[i]? =some x,fun i H=>∃b,SqT K H a b/\b.length<=i⟩
def Itr(lo:Int)(n:Nat):It:=⟨fun i _=>i<n,fun i H x b=>b=H/\x=.int (lo+i),fun i _=>n<=i⟩
theorem Xy{P:Program}{w:World}{K:W.Frag}{tg:Expr}(a g:Addr):ZE P w K tg (Itl K a) [g] g (fun i h=>h.IsListIter g a i) where
 mem:=by simp
 obj:=fun i h st b hb=>by
  have e:b=g:=by simpa using hb
  subst e;obtain⟨o,e,c,d⟩:=st;exact⟨o,e,fun v z=>by rw[d] at z;cases z⟩
 keep:=fun i h A st k=>st.at fun o e=>k g (by simp) o e
 item:=by
  intro X N Q M hc i f s σ H E I B st O;subst N Q M;obtain⟨xs,x,hq,hx⟩:=O;obtain⟨T,U,p,hz⟩:=I.list hq;obtain⟨u,hu,ru⟩:=U.get hx;obtain⟨C,D,f2,G,J,L⟩:=B g (by simp)
  refine wpAny_pyNext_list_item st p.isList (x:=u) (by simpa using hu) fun A l sb=>?_
  have Y:Inv X f σ H { s with heap:=A }:=I.turned (t':=s.toks) (fun b o hb e=>(sb.2 b hb).trans e) C D G J L
  obtain⟨o,e,c,d⟩:=id l;exact⟨u,rfl,zbR (s:={ s with heap:=A }) e c d (by decide) ⟨x,H,Y,ru,⟨rfl,fun ys hy=>by rw[I.list_inj hy hq];exact hx⟩,l,fun b hb=>(B b hb).1⟩⟩
 done:=by
  intro X N Q M hc i f s σ H E I B st O;subst N Q M;obtain⟨xs,hq,hx⟩:=O;obtain⟨T,U,p,hz⟩:=I.list hq;obtain⟨C,D,f2,G,J,L⟩:=B g (by simp)
  have hl:=U.length;exact wpAny_pyNext_list_end (I.ok.hd hc) st p.isList (by simp;omega) fun A eb=>⟨rfl,I.turned (t':=s.toks) (fun b o hb e=>eb b o hb e) C D G J L⟩
 self:=fun _ _ _ _ _ st h=>wpAny_pyIter_listiter st h
theorem Q4{P:Program}{w:World}{K:W.Frag}{tg:Expr}(a g:Addr):ZE P w K tg (Itt K a) [g] g (fun i h=>h.IsTupleIter g a i) where
 mem:=by simp
 obj:=fun i h st b hb=>by
  have e:b=g:=by simpa using hb
  subst e;obtain⟨o,e,c,d⟩:=st;exact⟨o,e,fun v z=>by rw[d] at z;cases z⟩
 keep:=fun i h B st k=>st.at fun o e=>k g (by simp) o e
 item:=by
  intro X O T N hc i f s σ H E I C st Q;subst O T N;obtain⟨xs,x,hq,hx⟩:=Q;obtain⟨l,U,p,hz⟩:=I.tuple hq;obtain⟨u,hu,ru⟩:=U.get hx;obtain⟨D,G,f2,J,L,M⟩:=C g (by simp)
  refine wpAny_pyNext_tuple_item st (show s.heap.IsTuple a l.toArray from p) (x:=u) (by simpa using hu) fun B A sb=>?_
  have Y:Inv X f σ H { s with heap:=B }:=I.turned (t':=s.toks) (fun b o hb e=>(sb.2 b hb).trans e) D G J L M
  obtain⟨o,e,c,d⟩:=id A;exact⟨u,rfl,zbR (s:={ s with heap:=B }) e c d (by decide) ⟨x,H,Y,ru,⟨rfl,fun ys hy=>by rw[I.tuple_inj hy hq];exact hx⟩,A,fun b hb=>(C b hb).1⟩⟩
 done:=by
  intro X O T N hc i f s σ H E I C st Q;subst O T N;obtain⟨xs,hq,hx⟩:=Q;obtain⟨l,U,p,hz⟩:=I.tuple hq;obtain⟨D,G,f2,J,L,M⟩:=C g (by simp)
  have hl:=U.length;exact wpAny_pyNext_tuple_end (I.ok.hd hc) st (show s.heap.IsTuple a l.toArray from p) (by simp;omega) fun B eb=>⟨rfl,I.turned (t':=s.toks) (fun b o hb e=>eb b o hb e) D G J L M⟩
 self:=fun _ _ _ _ _ st h=>wpAny_pyIter_tupleiter st h
theorem YY{P:Program}{w:World}{K:W.Frag}{tg:Expr}(c:Addr)(lo:Int)(n:Nat):ZE P w K tg (Itr lo n) [c] c (fun i h=>IsRangeIter h c (lo+(i:Nat)*1) ((n:Int)-(i:Nat)) 1) where
 mem:=by simp
 obj:=fun i h st b hb=>by
  have e:b=c:=by simpa using hb
  subst e;exact⟨_,st,fun v z=>by
   have z':Data.fields _=Data.cell v:=z;cases z'⟩
 keep:=fun i h l st k=>k c (by simp) _ st
 item:=by
  intro X M O L hc i f s σ H E I A st N;subst M O L;obtain⟨B,C,f2,D,G,J⟩:=A c (by simp)
  have W:=Walks.range (prog:=X.prog) (w:=X.w) (I.ok.hd hc) c lo 1 n;refine W.item i s _ _ N st fun v l T hv g kk=>?_
  obtain⟨t,rfl⟩:=hv;have U:Inv X f σ H { s with heap:=l,toks:=T }:=I.turned (fun b o hb e=>kk b o (by simpa using hb) e) B C D G J
  refine⟨_,rfl,zbR (s:={ s with heap:=l,toks:=T }) (n:= "range_iterator") g rfl rfl (by decide) ⟨.int (lo+i),H,U,⟨t,?_⟩,⟨rfl,rfl⟩,g,fun b hb=>(A b hb).1⟩⟩
  rw[Int.mul_one]
 done:=by
  intro X M O L hc i f s σ H E I A st N;subst M O L;obtain⟨B,C,f2,D,G,J⟩:=A c (by simp)
  exact wpAny_pyNext_range_end (I.ok.hd hc) st (by have:n<=i:=N;omega) fun l Y=>⟨rfl,I.turned (t':=s.toks) (fun b o hb e=>Y b o hb e) B C D G J⟩
 self:=fun _ _ _ _ _ st h=>wpAny_pyIter_rangeiter st h
section
variable{X:Cx}{c:Expr}
inductive InL(K:W.Frag)(x:V)(H:Hp)(R:It->Hp->Prop):Prop
 | mk (a:Addr) (h:x=.ref a) (e:∃b,SqL K H a b) (r:R (Itl K a) H):InL K x H R
inductive InT(K:W.Frag)(x:V)(H:Hp)(R:It->Hp->Prop):Prop
 | mk (a:Addr) (h:x=.ref a) (e:∃b,SqT K H a b) (r:R (Itt K a) H):InT K x H R
def zht(K:W.Frag)(f:TE):TI:=fun σ H R=>f σ H fun x b=>InL K x b R
def zkr(K:W.Frag)(f:TE):TI:=fun σ H R=>f σ H fun x b=>InT K x b R
theorem qg{l:Expr}{w:TE}(B:PE X l w):PI X c l (zht X.K w):=by
 intro f s σ H R I h;refine thn (B f s σ H _ I h) fun v s1 ⟨x,A,g,E,D⟩=>?_
 obtain⟨a,e,⟨L,hq⟩,q⟩:=D;subst e;cases E;obtain⟨C,G,p,hz⟩:=g.list hq;refine wpAny_pyIter_list p.isList ?_
 refine⟨s1.heap.objs.size,[s1.heap.objs.size],_,_,A,rfl,g.kept (t':=s1.toks) fun b o e=>z7 _ e,Xy a _,⟨_,zW _ rfl,rfl,rfl⟩,fun b hb=>?_,q⟩
 have e:b=s1.heap.objs.size:=by simpa using hb
 subst e;exact g.fpOk (zJ _) (g.hok.fresh (zJ _))
theorem xg{l:Expr}{A:TE}(C:PE X l A):PI X c l (zkr X.K A):=by
 intro f s σ H R I h;refine thn (C f s σ H _ I h) fun v s1 ⟨x,B,g,E,D⟩=>?_
 obtain⟨a,e,⟨L,hq⟩,q⟩:=D;subst e;cases E;obtain⟨w,G,p,hz⟩:=g.tuple hq;refine wpAny_pyIter_tuple (show s1.heap.IsTuple a w.toArray from p) ?_
 refine⟨s1.heap.objs.size,[s1.heap.objs.size],_,_,B,rfl,g.kept (t':=s1.toks) fun b o e=>z7 _ e,Q4 a _,⟨_,zW _ rfl,rfl,rfl⟩,fun b hb=>?_,q⟩
 have e:b=s1.heap.objs.size:=by simpa using hb
 subst e;exact g.fpOk (zJ _) (g.hok.fresh (zJ _))
theorem zek{g:List (Addr×Obj)}{σ:St}{H:Hp}{s:Shared}{R:It->Hp->Prop}{E:Value->Shared->Prop}{lo f:Int}{t u v:Tok}{w:Nat}(I:Inv X g σ H s)(h1:-(2^62)<=lo)(h2:lo<2^62)(A:-(2^62)<=f)(B:f<2^62)
  (q:R (Itr lo (f-lo).toNat) H):wpAny (model X.prog X.w) X.A (pyIter (.ref s.heap.objs.size)) (PIE X g σ c R) E { s with heap:=s.heap.push { cls:=.type "range",data:=.fields #[.int lo t,.int f u,.int 1 v] },toks:=w }:=by
 refine wpAny_pyIter_range (IsRange.new ..) (small_one h1 h2 A B) ?_
 have l:Inv X g σ H { s with heap:=s.heap.push { cls:=.type "range",data:=.fields #[.int lo t,.int f u,.int 1 v] },toks:=w }:=I.kept fun b o e=>z7 _ e
 refine⟨(s.heap.push { cls:=.type "range",data:=.fields #[.int lo t,.int f u,.int 1 v] }).objs.size,[(s.heap.push { cls:=.type "range",data:=.fields #[.int lo t,.int f u,.int 1 v] }).objs.size],_,_,H,rfl,
  l.kept (t':=w) fun b o e=>z7 _ e,YY _ lo (f-lo).toNat,?_,fun b hb=>?_,q⟩
 ·have e1:lo+((0:Nat):Int)*1=lo:=by simp
  have e2:(((f-lo).toNat:Nat):Int)-((0:Nat):Int)=Builtin.Range.rangeSize lo f 1:=by rw[rangeSize_one];split<;>omega
  show IsRangeIter _ _ (lo+((0:Nat):Int)*1) ((((f-lo).toNat:Nat):Int)-((0:Nat):Int)) 1;rw[e1,e2];exact zW _ rfl
 ·have e:b=(s.heap.push { cls:=.type "range",data:=.fields #[.int lo t,.int f u,.int 1 v] }).objs.size:=by simpa using hb
  subst e;exact l.fpOk (zJ _) (l.hok.fresh (zJ _))
inductive zkM(b:List V)(H:Hp)(R:It->Hp->Prop):Prop
 | mk (j:Int) (h:b=[.int j]) (h1:-(2^62)<=j) (h2:j<2^62) (r:R (Itr 0 j.toNat) H):zkM b H R
def zkt(f:TA):TI:=fun σ H R=>f σ H fun g b=>zkM g b R
theorem jz{a:Expr}{l:TA}{p f:Pos}(B:Gl X "range")(C:X.mg "range" = none)(A:PA X [a] l)(hs:starEach [a] X.env=[(false,eval a X.env)]:=by rfl):PI X c (.Call (.Name "range" p) [a] [] f) (zkt l):=by
 intro b s σ H R I h;refine Call_ (wc I B C boot_range (JI (thn (A f b s σ H _ I h) fun L s1 ⟨M,J,w,E,g⟩=>?_) hs rfl))
 obtain⟨j,e,g,D,q⟩:=g;subst e;cases E with
 | cons r G=>
  cases G;obtain⟨t,rfl⟩:=r;exact call_range_1 (zek w (by omega) (by omega) g D (by simpa using q))
def zk2(B:TI)(g:TG)(A:TS):TS:=fun D σ H=>B σ H fun J s=>∃W:Nat->Nat->St->Hp->Prop,(∃m,W 0 m σ s)/\∀i m σ H,W i m σ H ->
 (J.stop i H/\D.nx σ H)\/(J.go i H/\∃N:St->Hp->Prop,(∀l b,N l b->∃f,f<m/\W (i+1) f l b)/\∀x b,J.yld i H x b->g x σ b fun C w=>A { D with nx:=N,ct:=N,bk:=D.nx } C w)
def qB(f:List Addr)(h:Heap):List (Addr×Obj):=f.filterMap fun b=>(h.get? b).map fun o=>(b,o)
theorem jb{f:List Addr}{h:Heap}{b:Addr}{o:Obj}(hb:b∈f)(e:h.get? b=some o):(b,o)∈qB f h:=List.mem_filterMap.mpr ⟨b,hb,by rw[e];rfl⟩
theorem vD{f:List Addr}{h:Heap}{p:Addr×Obj}(l:p∈qB f h):p.1∈f/\h.get? p.1=some p.2:=by
 obtain⟨b,hb,e⟩:=List.mem_filterMap.mp l;cases q:h.get? b with
 | none=>rw[q] at e;cases e
 | some o=>
  rw[q] at e;have g:(b,o)=p:=jq e;subst g;exact⟨hb,q⟩
theorem Inv.pinned{f:List (Addr×Obj)}{σ:St}{H:Hp}{s:Shared}{fp:List Addr}(I:Inv X f σ H s)(B:∀b∈fp,xo X f H b)(C:∀b∈fp,∃o,s.heap.get? b=some o/\∀v,o.data≠.cell v):Inv X (f++qB fp s.heap) σ H s:=
 I.pins_of fun p D=>(qU.mp D).elim (fun z=>I.pin p (qI _ z)) fun z=>by
  obtain⟨hb,e⟩:=vD z;obtain⟨l,w,A,_⟩:=B p.1 hb;obtain⟨o,g,d⟩:=C p.1 hb;rw[e] at g;cases g
  exact⟨e,l,w,A,d⟩
theorem Inv.unpinned{b g:List (Addr×Obj)}{σ:St}{H:Hp}{s:Shared}(I:Inv X (b++g) σ H s):Inv X b σ H s:=I.pins_of fun p f=>I.pin p (qI _ (jN _ f))
theorem qZ{B:Expr}{body:List Stmt}{wi:TI}{g:TG}{tb:TS}{ae:Pos}(U:PassesOwn (model X.prog X.w) X.A X.env X.xe)(hc:X.calm=true)(hi:PI X c B wi)(hg:PG X c g)(hb:PSs X body tb)
  (hs:∀x,foldedSetIterable B X.env x=pure x:=by intro _;rfl):PS X (.For c B body [] ae) (zk2 wi g tb):=by
 intro l s σ H D I h;refine wpAny_For (thn (hi l s σ H _ I h) fun v s1 h1=>thn h1 fun ag s2 h2=>?_) hs
 obtain⟨it,O,tn,J,H2,e,I2,T,af,f2,W,⟨m0,w0⟩,aa⟩:=h2;subst e;have C:∀{G:Hp},(∀b∈O,G b=none)->∀b∈O,xo X l G b:=fun hn b hb=>⟨hn b hb,(f2 b hb).2⟩
 refine codeAny_forLoop_any (fun n s'=>∃i σ' G,Inv X l σ' G s'/\tn i s'.heap/\(∀b∈O,G b=none)/\W i n σ' G) ?_ m0 ⟨0,σ,H2,I2,af,fun b hb=>(f2 b hb).1,w0⟩
 rintro n s3 ⟨i,σ3,H3,I3,a0,Q,w3⟩;rcases aa i n σ3 H3 w3 with ⟨stop,qn⟩ | ⟨go,N,hN,step⟩
 ·refine Zw U (thn (T.done X rfl rfl rfl hc i l s3 σ3 H3 X.xe I3 (C Q) a0 stop) fun r s4 ⟨hr,I4⟩=>?_)
  subst hr;exact wpAny_execs_nil ⟨σ3,H3,I4,qn⟩
 ·refine Zw U (thn (T.item X rfl rfl rfl hc i l s3 σ3 H3 X.xe I3 (C Q) a0 go) fun r s4 ⟨u,hr,h4⟩=>?_)
  subst hr;refine Zw U (thn h4 fun _ s5 ⟨x,H5,I5,r5,y5,M,ac⟩=>?_)
  have ab:=I5.pinned (C ac) (T.obj _ _ M);refine Zw U (thn (hg _ s5 σ3 H5 x u _ ab r5 (step x H5 y5)) fun _ s6 ⟨σ6,H6,I6,q6⟩=>?_)
  refine Zw U (thn (hb _ s6 σ6 H6 _ I6 q6) fun f s7 L=>?_)
  have again:∀{E:St} {w:Hp},Inv X (l++qB O s5.heap) E w s7->N E w->∃m,m<n/\∃i σ' G,Inv X l σ' G s7/\tn i s7.heap/\(∀b∈O,G b=none)/\W i m σ' G:=fun {E w} A Y=>by
   obtain⟨m',hm,w7⟩:=hN E w Y;refine⟨m',hm,i+1,E,w,A.unpinned,T.keep _ _ _ M fun b hb o e=>(A.pin (b,o) (qI _ (qI _ (jb hb e)))).1,fun b hb=>?_,w7⟩
   obtain⟨o,e,d⟩:=T.obj _ _ M b hb;exact(A.pin (b,o) (qI _ (qI _ (jb hb e)))).2.1
  cases f with
  | next=>obtain⟨E,w,A,Y⟩:=L;exact again A Y
  | cont=>obtain⟨E,w,A,Y⟩:=L;exact again A Y
  | brk=>obtain⟨E,w,A,L⟩:=L;exact⟨E,w,A.unpinned,L⟩
  | ret v=>obtain⟨x7,E,w,A,r7,L⟩:=L;exact⟨x7,E,w,A.unpinned,r7,L⟩
end
theorem jW{K:W.Frag}{a:Addr}{xs:List V}{g:TG}{A:TS}{D:Xr}{σ:St}{H:Hp}(Pv:Nat->St->Hp->Prop)(h0:Pv 0 σ H)(E:∀i σ H,i<=xs.length->Pv i σ H->SqL K H a xs)
  (hs:∀i x σ H,xs[i]? =some x->Pv i σ H->g x σ H fun s f=>A { D with nx:=Pv (i+1),ct:=Pv (i+1),bk:=D.nx } s f) (B:∀σ H,Pv xs.length σ H->D.nx σ H) :
  ∃W:Nat->Nat->St->Hp->Prop,(∃m,W 0 m σ H)/\∀i m σ H,W i m σ H ->
   ((Itl K a).stop i H/\D.nx σ H)\/((Itl K a).go i H/\∃N:St->Hp->Prop,(∀l b,N l b->∃w,w<m/\W (i+1) w l b)/\∀x b,(Itl K a).yld i H x b->g x σ b fun s f=>A { D with nx:=N,ct:=N,bk:=D.nx } s f):=by
 refine⟨fun i m σ H=>m=xs.length-i/\i<=xs.length/\Pv i σ H,⟨xs.length,by simp,ji _,h0⟩,?_⟩
 rintro i m σ H ⟨rfl,C,p⟩;have q:=E i σ H C p;by_cases c:i<xs.length
 ·refine .inr ⟨⟨xs,xs[i],q,by simp[c]⟩,Pv (i+1),fun l b G=>⟨xs.length-(i+1),by omega,rfl,c,G⟩,fun x b y=>?_⟩
  obtain⟨e,y⟩:=y;subst e;exact hs i x σ _ (y xs q) p
 ·have e:i=xs.length:=by omega
  subst e;exact .inl ⟨⟨xs,q,zJ _⟩,B σ H p⟩
theorem zbS{K:W.Frag}{a:Addr}{xs:List V}{g:TG}{A:TS}{D:Xr}{σ:St}{H:Hp}(Pv:Nat->St->Hp->Prop)(h0:Pv 0 σ H)(E:∀i σ H,i<=xs.length->Pv i σ H->SqT K H a xs)
  (hs:∀i x σ H,xs[i]? =some x->Pv i σ H->g x σ H fun s f=>A { D with nx:=Pv (i+1),ct:=Pv (i+1),bk:=D.nx } s f) (B:∀σ H,Pv xs.length σ H->D.nx σ H) :
  ∃W:Nat->Nat->St->Hp->Prop,(∃m,W 0 m σ H)/\∀i m σ H,W i m σ H ->
   ((Itt K a).stop i H/\D.nx σ H)\/((Itt K a).go i H/\∃N:St->Hp->Prop,(∀l b,N l b->∃w,w<m/\W (i+1) w l b)/\∀x b,(Itt K a).yld i H x b->g x σ b fun s f=>A { D with nx:=N,ct:=N,bk:=D.nx } s f):=by
 refine⟨fun i m σ H=>m=xs.length-i/\i<=xs.length/\Pv i σ H,⟨xs.length,by simp,ji _,h0⟩,?_⟩
 rintro i m σ H ⟨rfl,C,p⟩;have q:=E i σ H C p;by_cases c:i<xs.length
 ·refine .inr ⟨⟨xs,xs[i],q,by simp[c]⟩,Pv (i+1),fun l b G=>⟨xs.length-(i+1),by omega,rfl,c,G⟩,fun x b y=>?_⟩
  obtain⟨e,y⟩:=y;subst e;exact hs i x σ _ (y xs q) p
 ·have e:i=xs.length:=by omega
  subst e;exact .inl ⟨⟨xs,q,zJ _⟩,B σ H p⟩
theorem j5{lo:Int}{n:Nat}{g:TG}{A:TS}{D:Xr}{σ:St}{H:Hp}(Pv:Nat->St->Hp->Prop)(h0:Pv 0 σ H)
  (hs:∀i σ H,i<n->Pv i σ H->g (.int (lo+i)) σ H fun s f=>A { D with nx:=Pv (i+1),ct:=Pv (i+1),bk:=D.nx } s f) (B:∀σ H,Pv n σ H->D.nx σ H) :
  ∃W:Nat->Nat->St->Hp->Prop,(∃m,W 0 m σ H)/\∀i m σ H,W i m σ H ->
   ((Itr lo n).stop i H/\D.nx σ H)\/((Itr lo n).go i H/\∃N:St->Hp->Prop,(∀l b,N l b->∃w,w<m/\W (i+1) w l b)/\∀x b,(Itr lo n).yld i H x b->g x σ b fun s f=>A { D with nx:=N,ct:=N,bk:=D.nx } s f):=by
 refine⟨fun i m σ H=>m=n-i/\i<=n/\Pv i σ H,⟨n,by simp,ji _,h0⟩,?_⟩
 rintro i m σ H ⟨rfl,E,p⟩;by_cases c:i<n
 ·refine .inr ⟨c,Pv (i+1),fun l b C=>⟨n-(i+1),by omega,rfl,c,C⟩,fun x b y=>?_⟩
  obtain⟨e,y⟩:=y;subst e y;exact hs i σ _ c p
 ·have e:i=n:=by omega
  subst e;exact .inl ⟨zJ _,B σ H p⟩
abbrev R2:=V->V->Hp->VK->Prop
def OpR(X:Cx)(f:Value->Value->Sem Value)(r:R2):Prop:=
 ∀(b:List (Addr×Obj)) (s:Shared) (σ:St) (H:Hp) (x y:V) (v u:Value) (Q:VK),Inv X b σ H s->RelV x v->RelV y u->r x y H Q ->
  wpAny (model X.prog X.w) X.A (f v u) (EP X b σ Q) X.xe s
def UnR(X:Cx)(f:Value->Sem Value)(r:V->Hp->VK->Prop):Prop:=
 ∀(b:List (Addr×Obj)) (s:Shared) (σ:St) (H:Hp) (x:V) (v:Value) (Q:VK),Inv X b σ H s->RelV x v->r x H Q ->
  wpAny (model X.prog X.w) X.A (f v) (EP X b σ Q) X.xe s
def jY(X:Cx)(f:Value)(r:List V->Hp->VK->Prop):Prop:=
 ∀(b:List (Addr×Obj)) (s:Shared) (σ:St) (H:Hp) (g:List V) (c:List Value) (Q:VK),Inv X b σ H s->Vals g c->r g H Q ->
  wpAny (model X.prog X.w) X.A (call f c) (EP X b σ Q) X.xe s
def tOp(r:R2)(f g:TE):TE:=fun σ H Q=>f σ H fun x b=>g σ b fun y c=>r x y c Q
def tUn(r:V->Hp->VK->Prop)(c:TE):TE:=fun σ H Q=>c σ H fun x b=>r x b Q
inductive rI(C:Int->Int->Prop)(g:Int->Int->V)(x:V)(y:V)(H:Hp)(Q:VK):Prop
 | mk (i j:_) (_:x=.int i) (_:y=.int j) (_:C i j) (_:Q (g i j) H):rI C g x y H Q
inductive rI0(g:Int->Int->V)(x:V)(y:V)(H:Hp)(Q:VK):Prop
 | mk (i j:_) (_:x=.int i) (_:y=.int j) (_:Q (g i j) H):rI0 g x y H Q
inductive rU(g:Int->V)(x:V)(H:Hp)(Q:VK):Prop
 | mk (i:_) (_:x=.int i) (_:Q (g i) H):rU g x H Q
section
variable{X:Cx}{a b c:Expr}{l A B:TE}{w:Pos}
theorem ziP(J:PE X a l)(hb:PE X b A){g:List (Addr×Obj)}{s:Shared}{σ:St}{H:Hp}{R:V->V->Hp->Prop}(I:Inv X g σ H s)
  (h:l σ H fun x D=>A σ D fun y C=>R x y C) {Q:Value->Shared->Prop} {f:Value->Value->Sem Value}
  (L:∀v u s2 x y C,Inv X g σ C s2->RelV x v->RelV y u->R x y C->wpAny (model X.prog X.w) X.A (f v u) Q X.xe s2) :
  wpAny (model X.prog X.w) X.A (eval a X.env) (fun v U=>wpAny (model X.prog X.w) X.A (eval b X.env) (fun u Y=>wpAny (model X.prog X.w) X.A (f v u) Q X.xe Y) X.xe U) X.xe s:=by
 refine thn (J g s σ H _ I h) fun v s1 ⟨x,D,E,O,M⟩=>?_
 refine thn (hb g s1 σ D _ E M) fun u s2 ⟨y,C,G,T,N⟩=>?_
 exact L v u s2 x y C G O T N
theorem zM{g:Operator}{r:R2}(G:OpR X (binaryOp g) r)(E:PE X a l)(hb:PE X b A):PE X (.BinOp a g b w) (tOp r l A):=by
 intro f s σ H Q I h;exact wpAny_BinOp (ziP E hb I h fun v u s2 x y C D J L q=>G f s2 σ C x y v u Q D J L q)
theorem zjR{g:UnaryOp}{r:V->Hp->VK->Prop}(G:UnR X (unaryOp g) r)(E:PE X a l):PE X (.UnaryOp g a w) (tUn r l):=by
 intro f s σ H Q I h;exact UnaryOp_ (thn (E f s σ H _ I h) fun v s1 ⟨x,C,D,L,J⟩=>G f s1 σ C x v Q D L J)
theorem opI{f:Value->Value->Sem Value}{C:Int->Int->Prop}{g:Int->Int->Int}
  (rule:∀(i j:Int) (t u:Tok) (s:Shared) (Q:Value->Shared->Prop) (E:Value->Shared->Prop),C i j->Q (.int (g i j) s.toks) { s with toks:=s.toks+1 }->wpAny (model X.prog X.w) X.A (f (.int i t) (.int j u)) Q E s) :
  OpR X f (rI C fun i j=>.int (g i j)):=by
 intro D s σ H x y v u Q I G J h;obtain⟨i,j,rfl,rfl,hc,q⟩:=h;obtain⟨t,rfl⟩:=G;obtain⟨L,rfl⟩:=J;exact rule i j t L s _ _ hc ⟨.int (g i j),H,I.tok _,⟨_,rfl⟩,q⟩
theorem zjU{f:Value->Value->Sem Value}{g:Int->Int->Int}
  (rule:∀(i j:Int) (t u:Tok) (s:Shared) (Q:Value->Shared->Prop) (E:Value->Shared->Prop),Q (.int (g i j) s.toks) { s with toks:=s.toks+1 }->wpAny (model X.prog X.w) X.A (f (.int i t) (.int j u)) Q E s) :
  OpR X f (rI0 fun i j=>.int (g i j)):=by
 intro C s σ H x y v u Q I D G h;obtain⟨i,j,rfl,rfl,q⟩:=h;obtain⟨t,rfl⟩:=D;obtain⟨J,rfl⟩:=G;exact rule i j t J s _ _ ⟨.int (g i j),H,I.tok _,⟨_,rfl⟩,q⟩
theorem zgf{f:Value->Value->Sem Value}{g:Int->Int->Bool}
  (rule:∀(i j:Int) (t u:Tok) (s:Shared) (Q:Value->Shared->Prop) (E:Value->Shared->Prop),Q (.bool (g i j)) s->wpAny (model X.prog X.w) X.A (f (.int i t) (.int j u)) Q E s) :
  OpR X f (rI0 fun i j=>.bl (g i j)):=by
 intro C s σ H x y v u Q I D G h;obtain⟨i,j,rfl,rfl,q⟩:=h;obtain⟨t,rfl⟩:=D;obtain⟨J,rfl⟩:=G;exact rule i j t J s _ _ ⟨.bl (g i j),H,I,rfl,q⟩
def zkP(i j:Int):Prop:=0<j/\j<1073741824
def zlc(i j:Int):Prop:=0<=j/\j<=1000000/\i.natAbs<2^64
def CMul(i j:Int):Prop:=(-(2^64)<i/\i<2^64)\/(-(2^64)<j/\j<2^64)
theorem CMul.ok{i j:Int}(h:CMul i j):IntMulOk i j:=by
 rcases h with ⟨h1,h2⟩ | ⟨h1,h2⟩
 ·exact .of_left (intBits_le_64 h1 h2)
 ·exact .of_right (intBits_le_64 h1 h2)
theorem ja:OpR X (binaryOp .Add) (rI0 fun i j=>.int (i+j)):=zjU fun _ _ _ _ _ _ _ q=>add_int q
theorem vJ:OpR X (binaryOp .Sub) (rI0 fun i j=>.int (i-j)):=zjU fun _ _ _ _ _ _ _ q=>sub_int q
theorem vK:OpR X (binaryOp .Mult) (rI CMul fun i j=>.int (i*j)):=opI fun _ _ _ _ _ _ _ hc q=>mul_int q hc.ok
theorem zbG:OpR X (binaryOp .FloorDiv) (rI zkP fun i j=>.int (i/j)):=opI fun i j _ _ _ _ _ hc q=>by
 have h1:(0:Int)<j:=hc.1;have h2:j<1073741824:=hc.2;exact floordiv_int (by omega) (by rw[zfx i (by omega)];exact q) (.inl (PyProof.noPylong_small (by omega)))
theorem vp:OpR X (binaryOp .Mod) (rI (fun _ j=>0<j) fun i j=>.int (i % j)):=opI fun i j _ _ _ _ _ hc q=>by
 have h1:(0:Int)<j:=hc;exact mod_int' (by omega) (by rw[zfw i (by omega)];exact q)
theorem zie:OpR X (binaryOp .Pow) (rI zlc fun i j=>.int (i^j.toNat)):=opI fun _ _ _ _ _ _ _ hc q=>pow_int_small hc.1 hc.2.1 hc.2.2 q
theorem unI{f:Value->Sem Value}{g:Int->Int}
  (rule:∀(i:Int) (t:Tok) (s:Shared) (Q:Value->Shared->Prop) (E:Value->Shared->Prop),Q (.int (g i) s.toks) { s with toks:=s.toks+1 }->wpAny (model X.prog X.w) X.A (f (.int i t)) Q E s) :
  UnR X f (rU fun i=>.int (g i)):=by
 intro C s σ H x v Q I D h;obtain⟨i,rfl,q⟩:=h;obtain⟨t,rfl⟩:=D;exact rule i t s _ _ ⟨.int (g i),H,I.tok _,⟨_,rfl⟩,q⟩
theorem zhx:UnR X (unaryOp .USub) (rU fun i=>.int (-i)):=unI fun _ _ _ _ _ q=>neg_int q
end
def zjn:V->V->Bool
 | .non,.non=>true | .non,.int _=>true | .int _,.non=>true | .non,.bl _=>true | .bl _,.non=>true | .non,.str _=>true | .str _,.non=>true
 | .int _,.int _=>true | .bl _,.bl _=>true | .str _,.str _=>true | .byt _,.byt _=>true
 | .int _,.str _=>true | .str _,.int _=>true | .bl _,.str _=>true | .str _,.bl _=>true
 | _,_=>false
def rEq:R2:=fun x y H Q=>zjn x y=true/\Q (.bl (decide (x=y))) H
def rNe:R2:=fun x y H Q=>zjn x y=true/\Q (.bl (!decide (x=y))) H
theorem zbY{i j:Int}:decide (V.int i=V.int j)=(i==j):=by
 rw[xw];simp
theorem zfg{i j:Bool}:decide (V.bl i=V.bl j)=(i==j):=by
 rw[xw];simp
theorem zbX{i j:Str}:decide (V.str i=V.str j)=(i==j):=by
 rw[xw];simp
theorem zbZ{i j:Array UInt8}:decide (V.byt i=V.byt j)=(i.toList==j.toList):=by
 rw[xw];cases i;cases j;simp
section
variable{X:Cx}{a b c:Expr}{f g w:TE}{l:Pos}
theorem qP{A:List (Addr×Obj)}{σ:St}{H:Hp}{s:Shared}{Q:VK}{k B:Bool}(I:Inv X A σ H s)(q:Q (.bl k) H)(e:k=B):EP X A σ Q (.bool B) s:=by
 subst e;exact⟨.bl k,H,I,rfl,q⟩
theorem j8:OpR X (compareOp .Eq) rEq:=by
 intro D s σ H x y v u Q I C A h;obtain⟨hs,q⟩:=h;cases x with
 | non=>
  cases C;cases y with
  | non=>cases A;exact PySem.EqNone.eq_none_none (qP I q (by simp))
  | bl j=>cases A;exact PySem.EqNone.eq_none_bool (qP I q (by simp))
  | int j=>obtain⟨B,rfl⟩:=A;exact PySem.EqNone.eq_none_int (qP I q (by simp))
  | str j=>obtain⟨B,rfl⟩:=A;exact PySem.EqNone.eq_none_str (qP I q (by simp))
  | _=>exact absurd (show false=true from hs) qR
 | bl i=>
  cases C;cases y with
  | non=>cases A;exact PySem.EqNone.eq_bool_none (qP I q (by simp))
  | bl j=>cases A;exact eq_bool (qP I q zfg)
  | str j=>obtain⟨B,rfl⟩:=A;exact PySem.EqMixed.eq_bool_str (qP I q (by simp))
  | _=>exact absurd (show false=true from hs) qR
 | int i=>
  obtain⟨t,rfl⟩:=C;cases y with
  | non=>cases A;exact PySem.EqNone.eq_int_none (qP I q (by simp))
  | int j=>obtain⟨B,rfl⟩:=A;exact eq_int (qP I q zbY)
  | str j=>obtain⟨B,rfl⟩:=A;exact PySem.EqMixed.eq_int_str (qP I q (by simp))
  | _=>exact absurd (show false=true from hs) qR
 | str i=>
  obtain⟨t,rfl⟩:=C;cases y with
  | non=>cases A;exact PySem.EqNone.eq_str_none (qP I q (by simp))
  | bl j=>cases A;exact PySem.EqMixed.eq_str_bool (qP I q (by simp))
  | int j=>obtain⟨B,rfl⟩:=A;exact PySem.EqMixed.eq_str_int (qP I q (by simp))
  | str j=>obtain⟨B,rfl⟩:=A;exact eq_str (qP I q zbX)
  | _=>exact absurd (show false=true from hs) qR
 | byt i=>
  obtain⟨t,rfl⟩:=C;cases y with
  | byt j=>obtain⟨B,rfl⟩:=A;exact PySem.W.eq_bytes (qP I q zbZ)
  | _=>exact absurd (show false=true from hs) qR
 | _=>cases y<;>exact absurd (show false=true from hs) qR
theorem zeF:OpR X (compareOp .NotEq) rNe:=by
 intro D s σ H x y v u Q I C A h;obtain⟨hs,q⟩:=h;cases x with
 | non=>
  cases C;cases y with
  | non=>cases A;exact PySem.EqNone.ne_none_none (qP I q (by simp))
  | bl j=>cases A;exact PySem.EqNone.ne_none_bool (qP I q (by simp))
  | int j=>obtain⟨B,rfl⟩:=A;exact PySem.EqNone.ne_none_int (qP I q (by simp))
  | str j=>obtain⟨B,rfl⟩:=A;exact PySem.EqNone.ne_none_str (qP I q (by simp))
  | _=>exact absurd (show false=true from hs) qR
 | bl i=>
  cases C;cases y with
  | non=>cases A;exact PySem.EqNone.ne_bool_none (qP I q (by simp))
  | bl j=>cases A;exact ne_bool (qP I q (congrArg not zfg))
  | str j=>obtain⟨B,rfl⟩:=A;exact PySem.EqMixed.ne_bool_str (qP I q (by simp))
  | _=>exact absurd (show false=true from hs) qR
 | int i=>
  obtain⟨t,rfl⟩:=C;cases y with
  | non=>cases A;exact PySem.EqNone.ne_int_none (qP I q (by simp))
  | int j=>obtain⟨B,rfl⟩:=A;exact ne_int (qP I q (congrArg not zbY))
  | str j=>obtain⟨B,rfl⟩:=A;exact PySem.EqMixed.ne_int_str (qP I q (by simp))
  | _=>exact absurd (show false=true from hs) qR
 | str i=>
  obtain⟨t,rfl⟩:=C;cases y with
  | non=>cases A;exact PySem.EqNone.ne_str_none (qP I q (by simp))
  | bl j=>cases A;exact PySem.EqMixed.ne_str_bool (qP I q (by simp))
  | int j=>obtain⟨B,rfl⟩:=A;exact PySem.EqMixed.ne_str_int (qP I q (by simp))
  | str j=>obtain⟨B,rfl⟩:=A;exact ne_str (qP I q (congrArg not zbX))
  | _=>exact absurd (show false=true from hs) qR
 | byt i=>
  obtain⟨t,rfl⟩:=C;cases y with
  | byt j=>obtain⟨B,rfl⟩:=A;exact PySem.W.ne_bytes (qP I q (congrArg not zbZ))
  | _=>exact absurd (show false=true from hs) qR
 | _=>cases y<;>exact absurd (show false=true from hs) qR
theorem W4:OpR X (compareOp .Lt) (rI0 fun i j=>.bl (decide (i<j))):=zgf fun _ _ _ _ _ _ _ q=>lt_int q
theorem zbE:OpR X (compareOp .LtE) (rI0 fun i j=>.bl (decide (i<=j))):=zgf fun _ _ _ _ _ _ _ q=>le_int q
theorem zbF:OpR X (compareOp .Gt) (rI0 fun i j=>.bl (decide (j<i))):=zgf fun _ _ _ _ _ _ _ q=>gt_int q
theorem zhp:OpR X (compareOp .GtE) (rI0 fun i j=>.bl (decide (j<=i))):=zgf fun _ _ _ _ _ _ _ q=>ge_int q
theorem zeG:OpR X (compareOp .Is) (fun x y H Q=>y=.non/\Q (.bl (decide (x=.non))) H):=by
 intro A s σ H x y v u Q I B C h;obtain⟨rfl,q⟩:=h;cases C;refine is_none_gen (qP I q ?_)
 cases x<;>first
  | (cases B;rfl)
  | (obtain⟨t,rfl⟩:=B;rfl)
theorem Vy:OpR X (compareOp .IsNot) (fun x y H Q=>y=.non/\Q (.bl (!decide (x=.non))) H):=by
 intro A s σ H x y v u Q I B C h;obtain⟨rfl,q⟩:=h;cases C;refine isnot_none_gen (qP I q ?_)
 cases x<;>first
  | (cases B;rfl)
  | (obtain⟨t,rfl⟩:=B;rfl)
theorem zL(b:Expr){s:CmpOp}(h:s≠.In:=by decide)(h2:s≠.NotIn:=by decide):behindInMarks s b=false:=by
 have e1:(s==CmpOp.In)=false:=by cases s<;>first| rfl | exact absurd rfl h
 have e2:(s==CmpOp.NotIn)=false:=by cases s<;>first| rfl | exact absurd rfl h2
 cases b<;>simp[behindInMarks,e1,e2]
theorem qW{B:CmpOp}{r:R2}(J:OpR X (compareOp B) r)(E:PE X a f)(hb:PE X b g)(G:behindInMarks B b=false):PE X (.Compare a [B] [b] l) (tOp r f g):=by
 intro A s σ H Q I h;exact wpAny_Compare1 (ziP E hb I h fun v u s2 x y C D L M q=>J A s2 σ C x y v u Q D L M q) G
def zi1(t:TE):TT:=fun σ H Q=>t σ H fun x s=>IsB x s Q
theorem zG{B:CmpOp}{r:R2}(O:OpR X (compareOp B) r)(M:PE X a f)(hb:PE X b g)(N:behindInMarks B b=false):PT X (.Compare a [B] [b] l) (zi1 (tOp r f g)):=by
 intro A s σ H Q I h;refine wpAny_isTrue_Compare1 (thn (M A s σ H _ I h) fun v s1 ⟨x,C,G,r1,T⟩=>thn (hb A s1 σ C _ G T) fun u s2 ⟨y,D,J,r2,U⟩=>
  thn (O A s2 σ D x y v u _ J r1 r2 U) fun c s3 ⟨z,E,L,r3,k,e,Y⟩=>?_) N
 subst e;cases r3;exact Zb ⟨E,L,Y⟩
def zhF(r D:R2)(f g w:TE):TE:=fun σ H Q=>f σ H fun x A=>g σ A fun y B=>r x y B fun z s=>∃k,z=.bl k /\
 (if k=true then w σ s fun E C=>D y E C Q else Q (.bl false) s)
theorem zex{D B:CmpOp}{r L:R2}(ho:OpR X (compareOp D) r)(C:OpR X (compareOp B) L)(ha:PE X a f)(hb:PE X b g)(hc:PE X c w)
  (hm:lastMarks [D,B] [b,c]=false:=by with_unfolding_all rfl):PE X (.Compare a [D,B] [b,c] l) (zhF r L f g w):=by
 intro A s σ H Q I h;refine Compare_chain (thn (ha A s σ H _ I h) fun v s1 ⟨x,N,U,r1,q1⟩=>chain_link (thn (hb A s1 σ N _ U q1) fun u s2 ⟨y,O,Y,M,q2⟩=>
  thn (ho A s2 σ O x y v u _ Y r1 M q2) fun d s3 ⟨z,E,G,r3,k,e,J⟩=>?_)) hm
 subst e;cases r3;refine Zb ?_
 cases k with
 | false=>exact ite_ff ⟨.bl false,E,G,rfl,J⟩
 | true=>exact ite_tt (chain_last (thn (hc A s3 σ E _ G J) fun w' s4 ⟨z',T,I4,r4,q4⟩=>C A s4 σ T y z' u w' Q I4 M r4 q4))
theorem Qe:(sizeLine:Nat)<2^63:=by rw[sizeLine_eq];decide
inductive Z6(x:V)(y:V)(H:Hp)(Q:VK):Prop
 | mk (i j:_) (_:x=.str i) (_:y=.str j) (_:i.length+j.length<=sizeLine) (_:Q (.str (i++j)) H):Z6 x y H Q
theorem Y9:OpR X (binaryOp .Add) (Z6):=by
 intro A s σ H x y v u Q I B C h;obtain⟨i,j,rfl,rfl,hz,q⟩:=h;obtain⟨t,rfl⟩:=B;obtain⟨D,rfl⟩:=C;exact add_str (fun D E=>⟨.str (i++j),H,I.tok _,⟨_,rfl⟩,q⟩) hz
theorem wU{x:V}{s:List Value}(r:Vals [x] s):∃u,s=[u]/\RelV x u:=by
 cases r with
 | cons A B=>cases B;exact⟨_,rfl,A⟩
theorem Ww{x y:V}{s:List Value}(r:Vals [x,y] s):∃u A,s=[u,A]/\RelV x u/\RelV y A:=by
 cases r with
 | cons B C=>
  cases C with
  | cons D E=>cases E;exact⟨_,_,rfl,B,D⟩
inductive Xd(s:List V)(H:Hp)(Q:VK):Prop
 | mk (i:_) (_:s=[.int i]) (_:Q (.int (if i<0 then -i else i)) H):Xd s H Q
theorem YE:jY X (.builtin "abs") (Xd):=by
 intro A s σ H D C Q I r h;obtain⟨i,rfl,q⟩:=h;obtain⟨u,rfl,t,rfl⟩:=wU r;exact call_abs_int fun u B=>⟨.int (if i<0 then -i else i),H,I.tok _,⟨_,rfl⟩,q⟩
inductive QJ(s:List V)(H:Hp)(Q:VK):Prop
 | mk (i j:_) (_:s=[.int i,.int j]) (_:Q (.int (if j>i then j else i)) H):QJ s H Q
theorem Qj(hc:X.calm=true):jY X (.builtin "max") (QJ):=by
 intro B s σ H L G Q I r h;obtain⟨i,j,rfl,q⟩:=h;obtain⟨u,J,rfl,⟨t,rfl⟩,⟨D,rfl⟩⟩:=Ww r;refine max_two_ints (I.ok.hd hc) fun C E k=>⟨_,H,I.kept k,?_,q⟩
 by_cases A:j>i
 ·rw[zv A,zv A];exact⟨_,rfl⟩
 ·rw[zu A,zu A];exact⟨_,rfl⟩
theorem yY:jY X (.type "int") (fun A H Q=>(∃i,A=[.int i]/\Q (.int i) H)\/∃k,A=[.bl k]/\Q (.int (if k then 1 else 0)) H):=by
 intro B s σ H A D Q I r h;rcases h with ⟨i,rfl,q⟩ | ⟨k,rfl,q⟩
 ·obtain⟨u,rfl,t,rfl⟩:=wU r
  exact call_int_int ⟨.int i,H,I,⟨_,rfl⟩,q⟩
 ·obtain⟨u,rfl,C⟩:=wU r
  cases C;exact call_int_bool ⟨.int (if k then 1 else 0),H,I.tok _,⟨_,rfl⟩,q⟩
inductive Zg(s:List V)(H:Hp)(Q:VK):Prop
 | mk (i j:_) (_:s=[.int i,.int j]) (_:zkP i j) (_:∀p,H p=none->Q (.ref p) (upd H p (.tup [.int (i/j),.int (i % j)]))):Zg s H Q
theorem YD:jY X (.builtin "divmod") (Zg):=by
 intro A s σ H G D Q I r h;obtain⟨i,j,rfl,⟨h1,h2⟩,q⟩:=h;obtain⟨u,E,rfl,⟨t,rfl⟩,⟨C,rfl⟩⟩:=Ww r;refine divmod_int (by omega) ?_ (.inl (PyProof.noPylong_small (by omega)))
 rw[zfx i (by omega),zfw i (by omega)]
 have B:H s.heap.objs.size=none:=I.hok.fresh (zJ _);refine⟨.ref s.heap.objs.size,_,?_,rfl,q _ B⟩
 refine I.laid (fun b o e=>z7 _ e) (zJ _) ⟨by simp only[xP,Zv];rw[sizeLine_eq];decide,[.int (i/j) s.toks,.int (i % j) (s.toks+1)],.cons ⟨_,rfl⟩ (.cons ⟨_,rfl⟩ .nil),?_⟩
 exact⟨⟨_,zW s.heap rfl,rfl,0,rfl⟩,_,zW s.heap rfl,rfl⟩
end
structure ObjM(h:Heap)(x dx C:Addr)(mA:Str->Option Value):Prop where
 obj:h.get? x=some (PySem.W.instObj C dx)
 ns:h.Ns1 dx mA
 ne:dx≠x
section
variable{c:Program}{w:World}{A:Around}{E:Value->Shared->Prop}{s:Shared}{K:W.Frag}{x g C f:Addr}{l:Str->Option Value}{b:Str}{v:Value}
end
def putF(f:Str)(v:V):List (Str×V)->List (Str×V)
 | []=>[(f,v)]
 | (g,x)::r=>if g=f then(g,v)::r else(g,x)::putF f v r
theorem RelO.some_of{v:V}{o:Option Value}(r:RelO (some v) o):∃u,o=some u/\RelV v u:=by
 cases o with
 | none=>exact(show False from r).elim
 | some u=>exact⟨u,rfl,r⟩
section
variable{P:Program}{w:World}{H c:Hp}{h g:Heap}{a C f:Addr}{fs b:List (Str×V)}
end
structure Cls(K:W.Frag)(C:Addr):Prop where
 pg:PySem.W.plainGet K C Str.empty=true
 hd:PySem.W.hasDictIn K C=true
 po:PySem.W.plainOver K C=true
 sa:PySem.W.findIn K (.ref C) "__setattr__" = some (some (.builtin "object.__setattr__"))
structure Con(K:W.Frag)(C:Addr)(f:Str)(v:V)(u:Value):Prop where
 at_:PySem.W.findIn K (.ref C) f=some (some u)
 rel:RelV v u
 get:PySem.W.specialIn K u "__get__" = some none
 cp:PySem.W.copiedNames.contains f=false
structure Meth(K:W.Frag)(C:Addr)(m:Str)(f:Addr):Prop where
 at_:PySem.W.findIn K (.ref C) m=some (some (.ref f))
 fn:PySem.W.isFn K (.ref f)=true
 kp:PySem.W.keepIn K (.ref f)=true
section
variable{X:Cx}{b:List (Addr×Obj)}{σ:St}{H:Hp}{s:Shared}{a C c:Addr}{fs:List (Str×V)}{f:Str}{v:V}{A:Around}{E:Value->Shared->Prop}
end
section
variable{X:Cx}{o e b:Expr}{f:Str}{l c g:Pos}{s w:TE}
end
section
variable{X:Cx}{f:List (Addr×Obj)}{σ:St}{H:Hp}{s:Shared}{A:Around}{E:Value->Shared->Prop}{Q:Value->Shared->Prop}{c:Value}{b:Bool}
inductive J7(K:W.Frag)(H:Hp):V->Value->Prop where
 | non:J7 K H .non (.type "NoneType")
 | bl (x:Bool):J7 K H (.bl x) (.type "bool")
 | int (i:Int):J7 K H (.int i) (.type "int")
 | str (x:Str):J7 K H (.str x) (.type "str")
 | flt (x:UInt64):J7 K H (.flt x) (.type "float")
 | lst {a:Addr} {l:List V} (e:H a=some (.lst l)):J7 K H (.ref a) (.type "list")
 | frz {a:Addr} {o:Obj} {l:List V} (e:H a=some (.frz o (.lst l))):J7 K H (.ref a) (.type "list")
 | tup {a:Addr} {l:List V} (e:H a=some (.tup l)):J7 K H (.ref a) (.type "tuple")
 | dK {a:Addr} {g:List (Key×V)} (e:H a=some (.dK g)):J7 K H (.ref a) (.type "dict")
 | dT {a:Addr} {g:List (List Key×V)} (e:H a=some (.dT g)):J7 K H (.ref a) (.type "dict")
 | ins {a C w:Addr} {fs:List (Str×V)} (e:H a=some (.ins C w fs)) (D:Cls K C) (G:PySem.W.findIn K (.ref C) "__class__" = some (some (.builtin "object.__class__")))
   (J:PySem.W.specialIn K (.builtin "object.__class__") "__get__" = some (some (.builtin "getset_descriptor.__get__"))) (B:PySem.W.takesIn K (.builtin "object.__class__")=some true)
   (I:PySem.W.mroIn K C (.type "object")=some true):J7 K H (.ref a) (.ref C)
end
structure Room(k:Nat)(A:Around):Prop where
 hd:A.handled=none
 dp:A.depth+3*k+5<recursionLimit
 un:A.units+16*k+200<cLine
 gd:A.guards=some []
theorem Room.mono{j k:Nat}{A:Around}(r:Room k A)(h:j<=k):Room j A:=⟨r.hd,by have:=r.dp;omega,by have:=r.un;omega,r.gd⟩
theorem Room.m{j k:Nat}{A:Around}(r:Room k A)(h:j<=k:=by decide):Room j A:=r.mono h
theorem Room.deeper{k:Nat}{A:Around}(r:Room (k+1) A)(b:Env):Room k (A.deeper b):=
 ⟨r.hd,by have:=r.dp;show A.depth+1+3*k+5<_;omega,by have:=r.un;show A.units+3+16*k+200<_;omega,r.gd⟩
theorem Room.depth{k:Nat}{A:Around}(r:Room k A):A.depth<recursionLimit:=by have:=r.dp;omega
theorem Room.units{k:Nat}{A:Around}(r:Room k A):A.units+64<cLine:=by have:=r.un;omega
theorem Room.units0{k:Nat}{A:Around}(r:Room k A):A.units<cLine:=by have:=r.un;omega
def zhC:TA:=fun _ H Q=>Q [] H
def wo(f:TE)(g:TA):TA:=fun σ H Q=>f σ H fun x b=>g σ b fun l c=>Q (x::l) c
section
variable{X:Cx}{e:Expr}{f:List Expr}{g:TE}{t:TA}{c:Pos}
theorem ze:PA X [] zhC:=fun _ _ _ _ H Q I h=>JR ⟨[],H,I,.nil,h⟩
theorem za(C:PE X e g)(D:PA X f t)(hs:starEach (e::f) X.env=(false,eval e X.env)::starEach f X.env:=by rfl):PA X (e::f) (wo g t):=by
 intro c b s σ H Q I h;rw[hs];show wpAny _ _ (spliced ((false,eval e X.env)::backTo c (starEach f X.env))) _ _ s;refine ZC (thn (C b s σ H _ I h) fun u s1 ⟨x,l,A,J,E⟩=>?_)
 exact thn (D c b s1 σ l _ A E) fun N s2 ⟨M,w,B,L,G⟩=>⟨x::M,w,B,.cons J L,G⟩
def zkT(t:TA):TE:=fun σ H Q=>t σ H fun l b=>l.length<=sizeLine/\∀p,b p=none->Q (.ref p) (upd b p (.tup l))
def zkZ(t:TA):TE:=fun σ H Q=>t σ H fun l b=>l.length<=sizeLine/\∀p,b p=none->Q (.ref p) (upd b p (.lst l))
theorem qX{D}(h:PA X f t):PE X (.Tuple f D c) (zkT t):=by
 intro l s σ H Q I hq;refine wpAny_Tuple_spliced (thn (h c l s σ H _ I hq) fun C s1 ⟨E,w,A,r,z,q⟩=>⟨by rw[<- r.length];exact z,?_⟩)
 have B:w s1.heap.objs.size=none:=A.hok.fresh (zJ _);refine⟨.ref s1.heap.objs.size,upd w s1.heap.objs.size (.tup E),A.laid (t':=s1.toks) (fun b u e=>z7 _ e) (zJ _) ?_,rfl,q _ B⟩
 exact⟨z,C,r,⟨_,zW _ rfl,rfl,_,rfl⟩,_,zW _ rfl,rfl⟩
theorem qC(h:PA X f t):PE X (.List f c) (zkZ t):=by
 intro l s σ H Q I hq;refine wpAny_List_spliced (thn (h c l s σ H _ I hq) fun C s1 ⟨D,w,A,r,z,q⟩=>⟨by rw[<- r.length];exact z,?_⟩)
 have B:w s1.heap.objs.size=none:=A.hok.fresh (zJ _);refine⟨.ref s1.heap.objs.size,upd w s1.heap.objs.size (.lst D),A.laid (t':=s1.toks) (fun b u e=>z7 _ e) (zJ _) ?_,rfl,q _ B⟩
 exact⟨z,C,0,r,zW _ rfl⟩
end
abbrev Sp:=List V->Hp->VK->XK->Prop
abbrev CXT:=List Env->Hp->Shared->XK->Value->Shared->Prop
structure zgW(P:Program)(w:World)(K:W.Frag)(mg:Str->Option Value)(base:Heap)(A:Around)(outer:List Env)(s:Shared)(H:Hp):Prop where
 frames:A.frames=some outer
 mod:Mod K mg base
 bs:∀b o,base.get? b=some o->s.heap.get? b=some o/\H b=none
 bsz:base.objs.size<=s.heap.objs.size
 funs:s.heap.FunFrames base outer
 frf:∀b∈frs outer,H b=none
 hok:HOk P w H s.heap
 bare:AllBare s.gens
def CE(b:List Env)(P:Program)(w:World)(H:Hp)(s:Shared)(Q:VK)(u:Value)(c:Shared):Prop:=
 ∃v f,c.os=s.os/\AllBare c.gens/\Un (frs b) [] H f s.heap c.heap/\HOk P w f c.heap/\RelV v u/\Q v f
def CR(f:CXT)(b:List Env)(P:Program)(w:World)(H:Hp)(s:Shared)(Q:VK)(E:XK)(r:Result)(c:Shared):Prop:=
 match r with
 | .ok (.ret u)=>CE b P w H s Q u c
 | .ok _=>False
 | .error e=>f b H s E e c
structure qY(P:Program)(w:World)(K:W.Frag)(mg:Str->Option Value)(base:Heap)(CX:CXT)(k:Nat)(f:Addr)(fd:FuncData)(ps:List Str)(sp:Sp):Prop where
 len:∀vs H Q E,sp vs H Q E->vs.length=ps.length
 run:∀(A:Around) (outer:List Env) (s:Shared) (H:Hp) (args:Args) (us:List Value) (vs:List V) (Q:VK) (E:XK),Room k A->zgW P w K mg base A outer s H->BindsTo s fd args (ps.zip us)->Vals vs us->sp vs H Q E ->
  codeAny (model P w) A (.call (.ref f) args) (CR CX outer P w H s Q E) s
section
variable{X:Cx}{c:List (Addr×Obj)}{σ:St}{H:Hp}{s f:Shared}
theorem Inv.env0(I:Inv X c σ H s):zgW X.prog X.w X.K X.mg X.base X.A X.stack s H:=
 ⟨I.ok.frames,I.ok.mod,I.bs,jk I.ok.bsz I.sz,I.stack,I.stkFree,I.hok,I.bare⟩
theorem Inv.after{Q:VK}{u:Value}(I:Inv X c σ H s)(h:CE X.stack X.prog X.w H s Q u f):EP X c σ Q u f:=by
 obtain⟨v,B,os,l,un,w,r,q⟩:=h;obtain⟨C,g,d,t,A⟩:=f;obtain rfl:A=s.os:=os;exact⟨v,B,I.call (h':=C) (g':=g) (d':=d) (t':=t) (ch:=[]) un w l (fun b z=>absurd z (by simp)),r,q⟩
end
def zgZ(f:Sp)(b:List V)(E:XK)(t:TA):TE:=fun σ H Q=>t σ H fun g c=>f (g++b) c Q E
def Binds(K:W.Frag)(g:FuncData)(f:List Str)(c:List Value):Prop:=
 ∀(s:Shared) (b:List Value),K.In s.heap->(b++c).length=f.length->BindsTo s g ⟨b,[]⟩ (f.zip (b++c))
theorem Binds.all{K:W.Frag}{f:FuncData}{c:List Str}(h:∀b:List Value,b.length=c.length->bindArgs f ⟨b,[]⟩=pure (c.zip b)):Binds K f c []:=fun s b _ g=>by
 rw[jn] at g ⊢;exact .of_eq (h b g)
def zaY(f:CXT)(X:Cx)(E:XK):Prop:=∀(b:List (Addr×Obj)) (σ:St) (H:Hp) (s:Shared) (e:Value) (c:Shared),Inv X b σ H s->f X.stack H s E e c->X.xe e c
section
variable{X:Cx}{A:CXT}{k:Nat}{f C:Addr}{B:FuncData}{w:List Str}{D:Sp}{b:List V}{c:List Value}{E:XK}{x m:Str}{p g G:Pos}{e o:Expr}{l:List Expr}{J:TE}{t:TA}
theorem zhQ{L:List (Addr×Obj)}{σ:St}{H:Hp}{s:Shared}{Q:VK}{M:List Value}{N:List V}(F:qY X.prog X.w X.K X.mg X.base A k f B w D)(hr:Room k X.A)(hb:Binds X.K B w c)(U:Vals b c)(hx:zaY A X E)
  (I:Inv X L σ H s) (r:Vals N M) (h:D (N++b) H Q E):wpAny (model X.prog X.w) X.A (call (.ref f) M) (EP X L σ Q) X.xe s:=by
 have O:Vals (N++b) (M++c):=r.append U;have Y:(M++c).length=w.length:=by rw[<- O.length];exact F.len _ _ _ _ h
 refine wpAny_call (codeAny_mono (F.run X.A X.stack s H ⟨M,[]⟩ (M++c) (N++b) Q E hr I.env0 (hb s M I.kIn Y) O h) fun r s' hq=>?_)
 cases r with
 | error e=>exact hx L σ H s e s' I hq
 | ok T=>
  cases T with
  | ret u=>exact I.after hq
  | next=>exact False.elim hq
  | brk=>exact False.elim hq
  | cont=>exact False.elim hq
theorem zgb(F:qY X.prog X.w X.K X.mg X.base A k f B w D)(hr:Room k X.A)(hg:Gl X x)(hm:X.mg x=some (.ref f))(hk:PySem.W.keepIn X.K (.ref f)=true)(hb:Binds X.K B w c)(U:Vals b c)(hx:zaY A X E)
  (T:PA X (e::l) t) (M:(x==("__debug__":Str))=false:=by decide) (Y:starEach (e::l) X.env=(false,eval e X.env)::starEach l X.env:=by rfl) (N:(backTo g (starEach l X.env)).any (·.1)=false:=by rfl) :
  PE X (.Call (.Name x p) (e::l) [] g) (zgZ D b E t):=by
 intro L s σ H Q I h;refine wpAny_Call_Name_kw (zgv I hg hm ?_ M)
 refine PySem.W.callWith_K (h₀:=X.base) I.ok.mod.kin hk (thn (T g L s σ H _ I h) fun us s1 ⟨vs,H1,O,r,q⟩=>⟨O.kIn,?_⟩) Y N
 exact zhQ F hr hb U hx O r q
structure Mk(K:W.Frag)(C f:Addr):Prop where
 makes:PySem.W.makesIn K C=true
 init:PySem.W.findIn K (.ref C) "__init__" = some (some (.ref f))
 fn:PySem.W.isFn K (.ref f)=true
 kp:PySem.W.keepIn K (.ref C)=true
end
section
variable{X:Cx}{A:CXT}{k:Nat}{f C:Addr}{fd:FuncData}{ps ks:List Str}{G:Sp}{E:XK}{x m:Str}{p w b c:Pos}{e o:Expr}{B:List Expr}{l:List Keyword}{I H:TE}{t J:TA}{D:Option Str}
structure KBinds(K:W.Frag)(fd:FuncData)(ps ks:List Str)(g:List Value->List Value->List Value)(gV:List V->List V->List V):Prop where
 to:∀(s:Shared) (us ws:List Value),K.In s.heap->(g us ws).length=ps.length->BindsTo s fd ⟨us,ks.zip ws⟩ (ps.zip (g us ws))
 rel:∀{vs:List V} {us:List Value} {zs:List V} {ws:List Value},Vals vs us->Vals zs ws->Vals (gV vs zs) (g us ws)
variable{g:List Value->List Value->List Value}{gV:List V->List V->List V}
end
structure zD(N P:List Str)(sc:Scope):Prop where
 kind:sc.kind=.function
 co:sc.isCoroutine=false
 gen:sc.isGenerator=false
 nd:N.Nodup
 pre:N.take P.length=P
 par:∀x∈P,sc.names.lookup x=some .local\/sc.names.lookup x=some .cell
 nofree:∀y∈sc.names,y.2≠.free
theorem X9{kindOf:Str->Option NameKind}{x:Str}:∀{b:List (Str×Value)} {m:Str->Option Value},(∀v,(x,v)∉b)->bindL kindOf b m x=m x
 | [],_,_=>rfl
 | (n,v)::r,m,h=>by
  unfold bindL;rw[X9 fun w c=>h w (jS _ c)]
  split
  ·have:x≠n:=by rintro rfl;exact h v jm
   simp[this]
  ·rfl
theorem Vb{kindOf:Str->Option NameKind}{x:Str}:∀{b:List (Str×Value)} {m:Str->Option Value},(∀v,(x,v)∉b)->bindC kindOf b m x=m x
 | [],_,_=>rfl
 | (n,v)::r,m,h=>by
  unfold bindC;rw[Vb fun w c=>h w (jS _ c)]
  split
  ·rfl
  ·have:x≠n:=by rintro rfl;exact h v jm
   simp[this]
theorem Va{kindOf:Str->Option NameKind}{x:Str}{v:Value}:∀{P:List Str} {b:List Value} {i:Nat} {m:Str->Option Value},P.Nodup->P[i]? =some x->b[i]? =some v->kindOf x=some .local ->
  bindL kindOf (P.zip b) m x=some v
 | [],_,_,_,_,h,_,_=>by simp at h
 | _::_,[],_,_,_,_,h,_=>by simp at h
 | p::P,w::b,0,m,c,h1,h2,hk=>by
  simp at h1 h2;subst h1;subst h2
  show bindL kindOf ((p,w)::P.zip b) m p=_;unfold bindL;rw[X9 fun v hv=>(wX.mp c).1 (zaz hv).1,zv hk]
  simp
 | p::P,w::b,i+1,m,c,h1,h2,hk=>by
  show bindL kindOf ((p,w)::P.zip b) m x=_;unfold bindL;exact Va (i:=i) (wX.mp c).2 (by simpa using h1) (by simpa using h2) hk
theorem Vc{kindOf:Str->Option NameKind}{x:Str}{v:Value}:∀{P:List Str} {b:List Value} {i:Nat} {m:Str->Option Value},P.Nodup->P[i]? =some x->b[i]? =some v->kindOf x≠some .local ->
  bindC kindOf (P.zip b) m x=some v
 | [],_,_,_,_,h,_,_=>by simp at h
 | _::_,[],_,_,_,_,h,_=>by simp at h
 | p::P,w::b,0,m,c,h1,h2,hk=>by
  simp at h1 h2;subst h1;subst h2
  show bindC kindOf ((p,w)::P.zip b) m p=_;unfold bindC;rw[Vb fun v hv=>(wX.mp c).1 (zaz hv).1,zu hk]
  simp
 | p::P,w::b,i+1,m,c,h1,h2,hk=>by
  show bindC kindOf ((p,w)::P.zip b) m x=_;unfold bindC;exact Vc (i:=i) (wX.mp c).2 (by simpa using h1) (by simpa using h2) hk
def Qw(N:List Str)(b:List V):St:=b.map some++List.replicate (N.length-b.length) none
def zam(g:CXT)(P:Program)(w:World)(K:W.Frag)(mg:Str->Option Value)(base:Heap)(N:List Str)(qual:Str)(scope:Scope)(f:Addr)(c:Value)(A:Around)(outer:List Env)(s:Shared)(H:Hp)(E:XK):Cx where
 prog:=P
 w:=w
 K:=K
 mg:=mg
 base:=base
 A:=A.deeper (envOfC qual scope s.heap.objs.size f c)
 N:=N
 s₀:=s
 H₀:=H
 env:=envOfC qual scope s.heap.objs.size f c
 outer:=outer
 stack:=envOfC qual scope s.heap.objs.size f c::outer
 ex:=[]
 calm:=true
 fn:=fun _=>true
 pn:=[]
 xe:=fun e B=>wpAny (model P w) (A.deeper (envOfC qual scope s.heap.objs.size f c)) (leaving (envOfC qual scope s.heap.objs.size f c) e) (fun _ b=>g outer H s E e b) (fun l b=>g outer H s E l b) B
theorem YB{b:Scope}{n:Nat}{x:Str}(h:b.names.lookup x=some .cell):∃c,(cellsFrom n b.names []).lookup x=some c:=by
 have q:=PySem.W.cellsFrom_some b.names n [] (.inl h);exact Option.isSome_iff_exists.mp q
theorem zc8{T:CXT}{P:Program}{w:World}{K:W.Frag}{O:Str->Option Value}{l:Heap}{N D:List Str}{qual:Str}{scope:Scope}{f:Addr}{L:Value}{A:Around}{g:List Env}{s s1:Shared}{H:Hp}{E:XK}{Q:List Value}{G:List V}
  (S:zD N D scope) (Y:A.handled=none) (B:zgW P w K O l A g s H) (hl:G.length=D.length) (r:Vals G Q)
  (x:InCallC s s.heap.objs.size (bindL (envOfC qual scope s.heap.objs.size f L).kindOf (D.zip Q) fun _=>none) (cellsFrom (s.heap.objs.size+1) scope.names []) (bindC (envOfC qual scope s.heap.objs.size f L).kindOf (D.zip Q) fun _=>none) s1) :
  Inv (zam T P w K O l N qual scope f L A g s H E) [] (Qw N G) H s1:=by
 have a0:D.length<=N.length:=by have:=congrArg List.length S.pre;rw[qm] at this;omega
 obtain⟨h1,tk,rfl,hk⟩:=x.done;have C:∀b:Addr,b∉(zam T P w K O l N qual scope f L A g s H E).ex:=fun b z=>absurd (show b∈([]:List Addr) from z) (by simp)
 refine⟨⟨B.mod,S.kind,rfl,rfl,zJ _,fun y z c h1 h2=>?_,fun y hy=>?_,fun y c _ h=>?_,fun _=>Y,Around.frames_deeper B.frames,.inr ⟨rfl,rfl⟩,fun b z=>absurd z (C b),B.bs,B.bsz,fun b _ _=>C b,fun b z=>absurd z (C b),B.funs,B.frf⟩,
  rfl,B.bare,Un.kept hk,⟨_,x.toInCall.ns,fun i y v h1 h2 h3=>?_⟩,fun y c h=>⟨_,x.cell y c h⟩,B.hok.fresh (zJ _),fun y c h=>?_,fun p I=>absurd (show p∈([]:List (Addr×Obj)) from I) (by simp),B.hok.kept hk,?_⟩
 ·exact name_of_addr x.apart (wZ h1) (wZ h2)
 ·have hy:scope.names.lookup y=some .cell\/scope.names.lookup y=some .free:=hy
  rcases hy with hy | hy
  ·exact YB hy
  ·exact absurd rfl (S.nofree _ (wZ hy))
 ·exact JK (x.above y c (wZ h))
 ·have M:i<G.length:=by
   unfold Qw at h2;by_cases M:i<G.length
   ·exact M
   ·rw[wC (by simpa using M)] at h2
    rw[List.getElem?_replicate] at h2
    split at h2<;>cases h2
  have U:G[i]? =some v:=by
   unfold Qw at h2;rw[yc (by simpa using M),zZ] at h2
   cases e:G[i]? with
   | none=>rw[e] at h2;cases h2
   | some a=>rw[e] at h2;cases h2;rfl
  obtain⟨u,hu,rv⟩:=r.get U;have I:D[i]? =some y:=by
   rw[<- S.pre,List.getElem?_take_of_lt (by omega)];exact h1
  have J:D.Nodup:=by rw[<- S.pre];exact S.nd.sublist (zaI _ _)
  refine⟨u,rv,?_⟩
  rcases S.par y (qr I) with k | k
  ·exact .inl ⟨k,Va J I hu k⟩
  ·obtain⟨c,e⟩:=YB (n:=s.heap.objs.size+1) k
   refine .inr ⟨.inl k,c,e,?_⟩
   have q:=x.cell y c e;rw[Vc J I hu (by show scope.names.lookup y≠_;rw[k];decide)] at q
   exact q
 ·exact B.hok.fresh (JK (x.above y c (wZ h)))
 ·unfold Qw
  show _=N.length;rw[qo,zn,vy];omega
theorem zkx{CX:CXT}{P:Program}{w:World}{K:W.Frag}{mg:Str->Option Value}{l:Heap}{k:Nat}{f:Addr}{G qual:Str}{B:Arguments}{body:List Stmt}{scope:Scope}{dV kV O pm g ct oc:Value}{an od:Option Addr}
  {ac:Array (Option Value)} {N ps:List Str} {sp:Sp} (lk:K.lookup f=some ⟨oc,od,.func (PySem.W.fnOf G qual B body scope dV kV O pm an g ct),ac⟩) (aa:PySem.W.codeIn K g qual=true) (S:zD N ps scope)
  (a0:∀C H Q E,sp C H Q E->C.length=ps.length)
  (L:∀(A:Around) (c:List Env) (s:Shared) (H:Hp) (C:List V) (Q:VK) (E:XK),Room k (A.deeper (envOfC qual scope s.heap.objs.size f g))->sp C H Q E ->
   ∃t,PSs (zam CX P w K mg l N qual scope f g A c s H E) body t/\t { nx:=fun _ D=>Q .non D,rt:=Q } (Qw N C) H) :
  qY P w K mg l CX (k+1) f (PySem.W.fnOf G qual B body scope dV kV O pm an g ct) ps sp:=by
 refine⟨a0,fun A c s H args us C Q E hr T hb r Y=>?_⟩
 have hl:=a0 _ _ _ _ Y;have KX:K.In s.heap:=T.mod.kin.keeps fun b o e=>(T.bs b o e).1
 have ab:s.heap.NoLimit:=T.mod.nolimit.keeps fun b o e=>(T.bs b o e).1
 have M:∀y∈ps.zip us,scope.names.lookup y.1=some .local\/(scope.names.lookup y.1=some .cell/\((cellsFrom (s.heap.objs.size+1) scope.names []).lookup y.1).isSome=true):=fun ⟨n,v⟩ hy=>by
  rcases S.par n (zaz hy).1 with q | q
  ·exact .inl q
  ·exact .inr ⟨q,PySem.W.cellsFrom_some _ _ _ (.inl q)⟩
 refine codeAny_call_function hr.depth (KX _ _ lk) rfl S.co S.gen rfl (PySem.W.codeRec_of KX aa) (hb _ _ _ _ ?_)
 refine wpAny_newFunctionEnv_cells S.kind M fun ae he s1 x=>?_
 subst he;refine⟨ab.keeps x.toInCall.keep,codeAny_func ?_⟩
 obtain⟨t,ht,hq⟩:=L A c s H C Q E (hr.deeper _) Y;have I:Inv (zam CX P w K mg l N qual scope f g A c s H E) [] (Qw N C) H s1:=zc8 S hr.hd T hl r x;refine qN (ht [] s1 (Qw N C) H _ I hq) (fun fl s' hs=>?_) fun e s' hs=>hs
 have U:∀{σ':St} {D:Hp} {v:V} {u:Value},Inv (zam CX P w K mg l N qual scope f g A c s H E) [] σ' D s'->RelV v u->Q v D->CE c P w H s Q u s':=
  fun {σ' D v u} J rv q=>⟨v,D,J.os,J.bare,J.base,J.hok,rv,q⟩
 cases fl with
 | ret u=>
  obtain⟨v,σ',D,J,rv,q⟩:=hs;exact U J rv q
 | next=>
  obtain⟨σ',D,J,q⟩:=hs;exact U (v:=V.non) (u:=Value.none) J rfl q
 | brk=>
  obtain⟨_,_,_,q⟩:=hs;exact False.elim q
 | cont=>
  obtain⟨_,_,_,q⟩:=hs;exact False.elim q
section
variable{X:Cx}{x:Str}{p b:Pos}{e:Expr}{c:List Expr}{t:TA}{id T:String}{r:List V->Hp->VK->Prop}
def tCB(r:List V->Hp->VK->Prop)(t:TA):TE:=fun σ H Q=>t σ H fun g f=>r g f Q
theorem zx(hc:jY X (.builtin id) r)(D:Gl X x)(E:X.mg x=none)(hv:bootBuiltins x=some (.builtin id))(B:PA X (e::c) t)(G:x ≠ "__name__" :=by decide)(g:(x==("__debug__":Str))=false:=by decide)
  (C:starEach (e::c) X.env=(false,eval e X.env)::starEach c X.env:=by rfl) (l:(backTo b (starEach c X.env)).any (·.1)=false:=by rfl):PE X (.Call (.Name x p) (e::c) [] b) (tCB r t):=by
 intro f s σ H Q I h;refine wpAny_Call_Name_kw (wc I D E hv ?_ G g)
 exact PyProof.Rows.callWith_builtin1 (thn (B b f s σ H _ I h) fun M s1 ⟨N,w,A,L,J⟩=>hc f s1 σ w N M Q A L J) C l
theorem qH(hc:jY X (.type T) r)(D:Gl X x)(E:X.mg x=none)(hv:bootBuiltins x=some (.type T))(B:PA X (e::c) t)(G:x ≠ "__name__" :=by decide)(g:(x==("__debug__":Str))=false:=by decide)
  (C:starEach (e::c) X.env=(false,eval e X.env)::starEach c X.env:=by rfl) (l:(backTo b (starEach c X.env)).any (·.1)=false:=by rfl):PE X (.Call (.Name x p) (e::c) [] b) (tCB r t):=by
 intro f s σ H Q I h;refine wpAny_Call_Name_kw (wc I D E hv ?_ G g)
 exact JI (thn (B b f s σ H _ I h) fun M s1 ⟨N,w,A,L,J⟩=>hc f s1 σ w N M Q A L J) C l
end
end L2
namespace HT
open PySem PyProof.Rows
section
open PySem.SeqAt
open PySem.AutoSeq1 (wpAny_loadPart')
open PySem.MeetsSeq PySem.MeetsSeq2 PySem.MeetsSeq3
end
section
variable{b:Program}{w:World}{A:Around}{E:Value->Shared->Prop}{s:Shared}
def sIx(n d:Nat):Option Int->Nat
 | none=>d
 | some v=>if v<0 then(v+(n:Int)).toNat else min v.toNat n
theorem sIx_none(n d:Nat):sIx n d none=d:=rfl
theorem sIx_nat(n d k:Nat):sIx n d (some (k:Int))=min k n:=by
 show(if(k:Int)<0 then((k:Int)+(n:Int)).toNat else min (k:Int).toNat n)=min k n
 rw[zu (by omega),jR]
theorem zhP(n d:Nat)(c:d<=n)(o:Option Int):sIx n d o<=n:=by
 cases o with
 | none=>exact c
 | some v=>
  show(if v<0 then(v+(n:Int)).toNat else min v.toNat n)<=n
  by_cases hv:v<0
  ·rw[zv hv];omega
  ·rw[zu hv];exact Nat.min_le_right _ _
theorem zb1(v:Int)(n d:Nat):(if v<0 then max (v+(n:Int)) 0 else min v (n:Int))=((sIx n d (some v):Nat):Int):=by
 show(if v<0 then max (v+(n:Int)) 0 else min v (n:Int))=(((if v<0 then(v+(n:Int)).toNat else min v.toNat n):Nat):Int)
 by_cases hv:v<0
 ·simp only[zv hv];omega
 ·simp only[zu hv];omega
theorem zaX(lo c:Option Int)(n:Nat):Builtin.Slice.sliceAdjust lo c 1 (n:Int)=(((sIx n 0 lo:Nat):Int),((sIx n n c:Nat):Int)):=by
 have h1:¬((1:Int)<0):=by omega
 unfold Builtin.Slice.sliceAdjust;simp only[h1,if_false];refine Prod.ext ?_ ?_
 ·cases lo with
  | none=>rfl
  | some v=>exact zb1 v n 0
 ·cases c with
  | none=>rfl
  | some v=>exact zb1 v n n
theorem Y6(i j:Nat):Builtin.Slice.slicePlaces (i:Int) (j:Int) 1=j-i:=by
 unfold Builtin.Slice.slicePlaces;have h1:(1:Int)>0:=by omega
 simp only[h1,if_true,Int.ediv_one];split<;>omega
theorem Q9{v:Value}{o:Option Int}{Q:Option Int->Shared->Prop}(p:IsPart v o)(h:Q o s):wpAny (model b w) A (Builtin.Slice.slicePartIndex v) Q E s:=by
 cases p with
 | none=>exact slicePart_none h
 | int i t=>exact slicePart_int h
theorem Qb{C:Addr}{l B:Value}{lo f:Option Int}{n:Nat}{Q:Int×Int×Nat->Shared->Prop}(hs:s.heap.IsSliceOf C l B .none)(G:IsPart l lo)(H:IsPart B f)
  (h:Q (((sIx n 0 lo:Nat):Int),1,sIx n n f-sIx n 0 lo) s):wpAny (model b w) A (Builtin.Slice.sliceApplied (.ref C) (pure (n:Int))) Q E s:=by
 obtain⟨os,g,D,c⟩:=id hs;unfold Builtin.Slice.sliceApplied Builtin.Slice.sliceFields;refine zg (zg (vm g c (x:=l) rfl (zg (vm g c (x:=B) rfl (zg (vm g c (x:=.none) rfl (zw ?_)))))))
 refine zg (slicePart_none ?_)
 show wpAny _ _ (if((1:Int)==0)=true then _ else _) _ _ s
 rw[zu (by decide)]
 refine zg (Q9 G (zg (Q9 H (zg (zw ?_)))))
 show wpAny _ _ (match Builtin.Slice.sliceAdjust lo f 1 (n:Int) with | (lo,f)=>pure (lo,(1:Int),Builtin.Slice.slicePlaces lo f 1)) _ _ s
 rw[zaX lo f n];show wpAny _ _ (pure (((sIx n 0 lo:Nat):Int),(1:Int),Builtin.Slice.slicePlaces ((sIx n 0 lo:Nat):Int) ((sIx n n f:Nat):Int) 1)) _ _ s;rw[Y6];exact zw h
theorem zeq(c:Array Value)(i k:Nat):((List.range k).filterMap fun(m:Nat)=>c[((i:Int)+(m:Int)*1).toNat]?).toArray=((c.toList.drop i).take k).toArray:=by
 have e:(fun(m:Nat)=>c[((i:Int)+(m:Int)*1).toNat]?)=fun m=>c[i+m]?:=by
  funext m
  have:((i:Int)+(m:Int)*1).toNat=i+m:=by omega
  rw[this]
 rw[e];have:=pick_run c i k;rw[List.filterMap_map] at this;have e2:((fun x=>c[x]?)∘fun x=>i+x)=fun m=>c[i+m]?:=rfl
 rw[e2] at this;rw[this]
theorem getItem_tuple_cut{t H:Addr}{c:Array Value}{J L:Value}{lo g:Option Int}{Q:Value->Shared->Prop}(l:IsTup s.heap t c)(hs:s.heap.IsSliceOf H J L .none)(T:IsPart J lo)(U:IsPart L g)
  (O:¬(sIx c.size 0 lo=0/\sIx c.size c.size g=c.size))
  (h:Q (.ref s.heap.objs.size) { s with heap:=s.heap.push { cls:=.type "tuple",data:=.seq ((c.toList.drop (sIx c.size 0 lo)).take (sIx c.size c.size g-sIx c.size 0 lo)).toArray } })
  (N:c.size<=sizeLine):wpAny (model b w) A (getItem (.ref t) (.ref H)) Q E s:=by
 have f:sizeOk (.seq ((c.toList.drop (sIx c.size 0 lo)).take (sIx c.size c.size g-sIx c.size 0 lo)).toArray):=by
  show((c.toList.drop (sIx c.size 0 lo)).take (sIx c.size c.size g-sIx c.size 0 lo)).toArray.size<=sizeLine;rw[zQ,qm,Qq,xz];omega
 have Y:sIx c.size c.size g<=c.size:=zhP _ _ (zJ _) g;obtain⟨os,G,C,M⟩:=id hs;have B:s.TypeIs (.ref H) "slice" :=⟨os,G,C⟩;unfold getItem;try with_reducible refine xN ?_
 first| refine zg (zw ?_) | skip
 refine zg (wpAny_sequenceKey l.typeIs (by decide) ?_)
 refine zg (yJ (name:=Str.ofString "__getitem__") l.typeIs zaV
  (xS zaV l.typeIs entry_tuple_getitem ?_ (args_tuple_getitem _ _)))
 show wpAny _ _ (Builtin.Tuple.tupleItemsOf (.ref t) >>= _) _ _ s;refine zg (tupleItemsOf_ l ?_)
 refine zg (Zt B ?_)
 rw[zv (by decide)]
 refine zg (Qb hs T U ?_)
 have D:¬((((sIx c.size 0 lo:Nat):Int)==0&&(1:Int)==1&&(sIx c.size c.size g-sIx c.size 0 lo)==c.size)=true):=by
  intro q;rw[xO,xO] at q;have q1:((sIx c.size 0 lo:Nat):Int)=0:=eq_of_beq q.1.1;have q2:sIx c.size c.size g-sIx c.size 0 lo=c.size:=eq_of_beq q.2;exact O ⟨by omega,by omega⟩
 show wpAny _ _ (if(((sIx c.size 0 lo:Nat):Int)==0&&(1:Int)==1&&(sIx c.size c.size g-sIx c.size 0 lo)==c.size)=true then _ else _) _ _ s
 rw[zu D,zeq];first
  | exact zg (m:=Builtin.Tuple.tupleExact _) (xc (zw ⟨_,rfl,zw h⟩) f)
  | exact zg (m:=Builtin.Tuple.tupleExact _) (xc (zg (zw (zw ⟨_,rfl,zw h⟩))) f)
  | exact zg (zg (m:=Builtin.Tuple.tupleExact _) (xc (zw (zw ⟨_,rfl,zw h⟩)) f))
  | exact zg (zg (m:=Builtin.Tuple.tupleExact _) (xc (zw ⟨_,rfl,zw h⟩) f))
end
end HT
namespace L2
open PySem PySem.Spec PyProof.Rows
abbrev TO:=St->Hp->(Option Int->Hp->Prop)->Prop
def PO(X:Cx)(e:Option Expr)(t:TO):Prop:=
 ∀(b:List (Addr×Obj)) (s:Shared) (σ:St) (H:Hp) (Q:Option Int->Hp->Prop),Inv X b σ H s->t σ H Q ->
  wpAny (model X.prog X.w) X.A (evalPart e X.env) (fun u f=>∃o c,Inv X b σ c f/\IsPart u o/\Q o c) X.xe s
def zfN:TO:=fun _ H Q=>Q none H
def zi2(t:TE):TO:=fun σ H Q=>t σ H fun x b=>IsI x b fun i b=>Q (some i) b
theorem Jr{b:List Int}:∀{c:List Value},Vals (b.map V.int) c->IntsAre c b:=by
 induction b with
 | nil=>intro c r;rw[vP] at r;cases r;exact .nil
 | cons n b f=>
  intro c r;rw[qO] at r;cases r with
  | cons g l=>
   obtain⟨t,e⟩:=g;subst e;exact .cons n t (f l)
section
variable{X:Cx}{e:Expr}{f:TE}{lo c:Option Expr}{w g:TO}{A B:Pos}
theorem ZN:PO X none zfN:=by
 intro b s σ H Q I h;rw[evalPart_none];exact zw ⟨none,H,I,.none,h⟩
theorem wG(h:PE X e f):PO X (some e) (zi2 f):=by
 intro b s σ H Q I D;rw[evalPart_some];refine thn (h b s σ H _ I D) fun u s1 ⟨x,l,C,G,E⟩=>?_
 obtain⟨i,rfl,q⟩:=E;obtain⟨t,rfl⟩:=G;exact⟨some i,l,C,.int i t,q⟩
def SlR(X:Cx)(r:V->Option Int->Option Int->Hp->VK->Prop):Prop:=
 ∀(b:List (Addr×Obj)) (s:Shared) (σ:St) (H:Hp) (x:V) (v C D:Value) (lo c:Option Int) (l:Addr) (Q:VK),Inv X b σ H s->RelV x v->s.heap.IsSliceOf l C D .none->IsPart C lo->IsPart D c->r x lo c H Q ->
  ∃T id,typeLookup (.type T) "__getitem__" = pure (some (.builtin id))/\s.TypeIs v T/\wpAny (model X.prog X.w) X.A (getItem v (.ref l)) (EP X b σ Q) X.xe s
def tSl(r:V->Option Int->Option Int->Hp->VK->Prop)(f:TE)(w g:TO):TE:=fun σ H Q=>f σ H fun x b=>w σ b fun l s=>g σ s fun u C=>r x l u C Q
theorem wu{r:V->Option Int->Option Int->Hp->VK->Prop}(hr:SlR X r)(he:PE X e f)(hl:PO X lo w)(hu:PO X c g):PE X (.Subscript e (.Slice lo c none B) A) (tSl r f w g):=by
 intro C s σ H Q I h;refine Subscript_ (thn (he C s σ H _ I h) fun v s1 ⟨x,L,N,r1,q1⟩=>?_)
 refine wpAny_Slice (thn (hl C s1 σ L _ N q1) fun E s2 ⟨l,M,O,pl,q2⟩=>thn (hu C s2 σ M _ O q2) fun G D ⟨u,J,U,pu,q3⟩=>?_)
 rw[evalPart_none];refine zw ?_
 have Y:Inv X C σ J { D with heap:=D.heap.push { cls:=.type "slice",data:=.fields #[E,G,.none] } }:=U.kept (t':=D.toks) fun b ob q=>z7 _ q
 obtain⟨T,id,hT,ht,hg⟩:=hr C { D with heap:=D.heap.push { cls:=.type "slice",data:=.fields #[E,G,.none] } } σ J x v E G l u D.heap.objs.size Q Y r1 (Heap.IsSliceOf.new ..) pl pu q3;show wpAny (model X.prog X.w) X.A (subscriptTail e (.Slice lo c none B) v (.ref D.heap.objs.size)) (EP X C σ Q) X.xe { D with heap:=D.heap.push { cls:=.type "slice",data:=.fields #[E,G,.none] } };exact tail_any (ops:=[.ref D.heap.objs.size,v]) ht hT hg (by with_unfolding_all rfl)
def jT(b:List V)(lo c:Option Int):List V:=(b.drop (HT.sIx b.length 0 lo)).take (HT.sIx b.length b.length c-HT.sIx b.length 0 lo)
theorem QA(b:List V)(lo c:Option Int):(jT b lo c).length<=b.length:=by
 unfold jT;rw[qm,Qq];omega
inductive zjK(K:W.Frag)(x:V)(lo:Option Int)(c:Option Int)(H:Hp)(Q:VK):Prop
 | mk (a b:_) (_:x=.ref a) (_:SqT K H a b) (_:¬(HT.sIx b.length 0 lo=0/\HT.sIx b.length b.length c=b.length)) (_:∀p,H p=none->Q (.ref p) (upd H p (.tup (jT b lo c)))):zjK K x lo c H Q
theorem zhM:SlR X (zjK X.K):=by
 intro G s σ H x v Y vu lo c T Q I N hs L M h;obtain⟨a,C,rfl,hx,J,q⟩:=h;cases N;obtain⟨D,r,E,hz⟩:=I.tuple hx;have l:D.toArray.size=C.length:=by rw[zQ];exact r.length.symm
 refine⟨"tuple",_,zaV.lookup,E.typeIs,?_⟩
 refine HT.getItem_tuple_cut E hs L M (by rw[l];exact J) ?_ (by rw[l];exact hz)
 rw[l];refine⟨.ref s.heap.objs.size,_,I.laid (t':=s.toks) (o:=.tup (jT C lo c)) (fun b O q=>z7 _ q) (zJ _) ?_,rfl,q _ (I.hok.fresh (zJ _))⟩
 exact⟨jk (QA C lo c) hz,_,(r.drop (HT.sIx C.length 0 lo)).take (HT.sIx C.length C.length c-HT.sIx C.length 0 lo),⟨IsTup.new _ _,_,zW _ rfl,rfl⟩⟩
end
def ixN(n:Nat)(i:Int):Option Nat:=if 0<=i then(if i<n then some i.toNat else none) else if -(n:Int)<=i then some (i+n).toNat else none
def atI{α:Type}(b:List α)(i:Int):Option α:=(ixN b.length i).bind fun j=>b[j]?
theorem zbP{n:Nat}{i:Int}{j:Nat}(h:ixN n i=some j):seqIndex? i n=some j/\j<n/\ -(n:Int)<=i/\i<n:=by
 unfold ixN at h;by_cases h0:0<=i
 ·rw[zv h0] at h
  by_cases h1:i<n
  ·rw[zv h1] at h
   have e:i.toNat=j:=jq h;exact⟨by rw[seqIndex_of h0 h1,e],by omega,by omega,h1⟩
  ·rw[zu h1] at h;cases h
 ·rw[zu h0] at h
  by_cases h1:-(n:Int)<=i
  ·rw[zv h1] at h
   have e:(i+n).toNat=j:=jq h;exact⟨by rw[seqIndex_neg (by omega) h1,e],by omega,h1,by omega⟩
  ·rw[zu h1] at h;cases h
theorem VW{α:Type}{b:List α}{i:Int}{v:α}(h:atI b i=some v):∃j,seqIndex? i b.length=some j/\b[j]? =some v/\j<b.length/\ -(b.length:Int)<=i/\i<b.length:=by
 unfold atI at h;cases e:ixN b.length i with
 | none=>rw[e] at h;cases h
 | some j=>
  rw[e] at h;obtain⟨h1,h2,c,f⟩:=zbP e;exact⟨j,h1,h,h2,c,f⟩
theorem qK{α:Type}{xs:List α}{j:Nat}{v:α}(h:xs[j]? =some v):atI xs (j:Int)=some v:=by
 have b:j<xs.length:=(zC.mp h).1;have e:ixN xs.length (j:Int)=some j:=by
  unfold ixN;rw[zv (by omega),zv (by omega)];simp
 unfold atI;rw[e];exact h
theorem zfp{α:Type}(b:List α)(v:α):atI (b++[v]) (-1)=some v:=by
 have c:(b++[v]).length=b.length+1:=by simp
 have e:ixN (b++[v]).length (-1)=some b.length:=by
  unfold ixN;rw[c,zu (by decide),zv (by omega)]
  congr 1
  omega
 unfold atI;rw[e];show(b++[v])[b.length]? =some v;simp
def zgS(b:Expr):Prop:=∀o i,subscripted b false o i=operate [o,i] (getItem o i)
def IxR(X:Cx)(r:R2):Prop:=
 ∀(f b:Expr) (c:List (Addr×Obj)) (s:Shared) (σ:St) (H:Hp) (x y:V) (v u:Value) (Q:VK),Inv X c σ H s->RelV x v->RelV y u->r x y H Q ->
  subscripted b false v u=operate [v,u] (getItem v u)->wpAny (model X.prog X.w) X.A (subscriptTail f b v u) (EP X c σ Q) X.xe s
def MtR(X:Cx)(id:String)(r:V->List V->Hp->VK->Prop):Prop:=
 ∀(b:List (Addr×Obj)) (s:Shared) (σ:St) (H:Hp) (x:V) (f:List V) (v:Value) (c:List Value) (Q:VK),Inv X b σ H s->RelV x v->Vals f c->r x f H Q ->
  wpAny (model X.prog X.w) X.A (call (.builtin id) (v::c)) (EP X b σ Q) X.xe s
section
variable{X:Cx}{a b:Expr}{G J:TE}{E:Pos}
theorem zF{r:R2}(A:IxR X r)(w:PE X a G)(hb:PE X b J)(hs:zgS b):PE X (.Subscript a b E) (tOp r G J):=by
 intro c s σ H Q I h;exact Subscript_ (ziP w hb I h fun v u s2 x y f l L M q=>A a b c s2 σ f x y v u Q l L M q (hs _ _))
inductive zhW(K:W.Frag)(x:V)(y:V)(H:Hp)(Q:VK):Prop
 | mk (p c i v:_) (_:x=.ref p) (_:y=.int i) (_:SqL K H p c) (_:atI c i=some v) (_:Q v H):zhW K x y H Q
inductive zhV(K:W.Frag)(x:V)(y:V)(H:Hp)(Q:VK):Prop
 | mk (p c i v:_) (_:x=.ref p) (_:y=.int i) (_:SqT K H p c) (_:atI c i=some v) (_:Q v H):zhV K x y H Q
inductive zjN(x:V)(y:V)(H:Hp)(Q:VK):Prop
 | mk (z i c:_) (_:x=.str z) (_:y=.int i) (_:z.length<=sizeLine) (_:atI z.cps.toList i=some c) (_:Q (.str ⟨#[c]⟩) H):zjN  x y H Q
theorem qJ:IxR X (zhW X.K):=by
 intro O N c s σ H x y v u Q I rx ry h hs;obtain⟨p,xs,i,z,rfl,rfl,hq,he,q⟩:=h;cases rx;obtain⟨t,rfl⟩:=ry;obtain⟨A,r,L,hz⟩:=I.list hq;obtain⟨j,h1,h2,h3,Y,h5⟩:=VW he;obtain⟨w,U,M⟩:=r.get h2;have hl:=r.length;have hn:=Qe;have f:EP X c σ Q w s:=⟨z,H,I,M,q⟩;by_cases h0:0<=i
 ·have l:i.toNat=j:=by
   rw[seqIndex_of h0 h5] at h1;exact jq h1
  exact item_listR L.isList h0 (by omega) (by rw[l];simpa using U) f hs
 ·have l:(i+(A.toArray.size:Int)).toNat=j:=by
   rw[seqIndex_neg (by omega) Y] at h1
   rw[zQ,<- hl];exact jq h1
  exact subscriptTail_builtinR (x:=w) L.isList.typeIs slot_list_getitem.lookup
   (wpAny_getItem_list_neg (Q:=fun r s'=>r=w/\EP X c σ Q r s') L.isList (by omega) (by rw[zQ]<;>omega) (by omega) (by rw[l];simpa using U) ⟨rfl,f⟩) hs
theorem je:IxR X (zhV X.K):=by
 intro L A c s σ H x y v u Q I rx ry h hs;obtain⟨p,xs,i,z,rfl,rfl,hq,O,q⟩:=h;cases rx;obtain⟨t,rfl⟩:=ry;obtain⟨Y,r,M,hz⟩:=I.tuple hq;obtain⟨j,h1,h2,h3,h4,h5⟩:=VW O;obtain⟨w,N,l⟩:=r.get h2;have U:=r.length;have hn:=Qe;have f:EP X c σ Q w s:=⟨z,H,I,l,q⟩;exact subscriptTail_builtinR (x:=w) M.typeIs slot_tuple_getitem.lookup
  (getItem_tuple (j:=j) (Q:=fun r s'=>r=w/\EP X c σ Q r s') M (by omega) (by omega) (by rw[zQ,<- U];exact h1) (by simpa using N) ⟨rfl,f⟩) hs
theorem ziz:IxR X zjN:=by
 intro l f w s σ H x y v u Q I O U h hs;obtain⟨z,i,c,rfl,rfl,hz,M,q⟩:=h;obtain⟨t,rfl⟩:=O;obtain⟨t',rfl⟩:=U;obtain⟨j,h1,h2,Y,A,L⟩:=VW M;have N:z.cps.toList.length=z.length:=by simp[Str.length]
 rw[N] at h1 A L;have hn:=Qe;exact tail_any (typeIs_str s z t) slot_str_getitem.lookup (getItem_str (c:=c) (by
  have e1:decide (i< -(2^63:Int))=false:=jd (by omega)
  have e2:decide (i≥2^63)=false:=jd (by omega)
  rw[e1,e2,Bool.or_false]) (by rw[h1];simpa using h2) ⟨.str ⟨#[c]⟩,H,I.tok _,⟨_,rfl⟩,q⟩) hs
theorem zag(c:List Value)(n j:Nat)(u:Value):Obj.mapSeq (·.setIfInBounds j u) { cls:=.type "list",data:=.seq c.toArray n }={ cls:=.type "list",data:=.seq (c.set j u).toArray n }:=by
 simp[Obj.mapSeq]
theorem Inv.lst{f:List (Addr×Obj)}{σ:St}{H:Hp}{s:Shared}{p:Addr}{l:List V}(I:Inv X f σ H s)(h:H p=some (.lst l)) :
  ∃(c:List Value) (n:Nat),Vals l c/\s.heap.get? p=some { cls:=.type "list",data:=.seq c.toArray n }/\l.length<=sizeLine:=by
 obtain⟨z,c,n,r,e⟩:=I.hok p _ h;exact⟨c,n,r,e,z⟩
theorem Inv.lstUpd{l:List (Addr×Obj)}{σ:St}{H:Hp}{s:Shared}{p:Addr}{O L:List V}{w c:List Value}{n A:Nat}{f:Obj->Obj}(I:Inv X l σ H s)(h:H p=some (.lst O))
  (N:s.heap.get? p=some { cls:=.type "list",data:=.seq w.toArray n }) (M:f { cls:=.type "list",data:=.seq w.toArray n }={ cls:=.type "list",data:=.seq c.toArray A }) (r:Vals L c) (hz:L.length<=sizeLine) (t:Nat) :
  Inv X l σ (upd H p (.lst L)) { s with heap:=s.heap.update p f,toks:=t }:=by
 have e:(s.heap.update p f).get? p=some { cls:=.type "list",data:=.seq c.toArray A }:=by
  rw[vY f N (by rw[M]<;>rfl),M]
 refine I.write (x:=p) (e:=p) (by rw[h];trivial) (.inl rfl) (fun b u hb q=>(yI _ _ (z9 hb)).trans q) ⟨_,e⟩ ?_
 exact⟨hz,c,A,r,e⟩
inductive zhk(o:V)(i:V)(v:V)(H:Hp)(Q:Hp->Prop):Prop
 | mk (p c k j:_) (_:o=.ref p) (_:i=.int k) (_:H p=some (.lst c)) (_:ixN c.length k=some j) (_:Q (upd H p (.lst (c.set j v)))):zhk  o i v H Q
theorem yi:ziU X zhk:=by
 intro f s σ H o i v ov iv u Q I Y U rv h;obtain⟨p,xs,k,j,rfl,rfl,N,O,q⟩:=h;cases Y;obtain⟨t,rfl⟩:=U;obtain⟨c,n,r,w,hz⟩:=I.lst N;obtain⟨h1,h2,L,M⟩:=zbP O;have l:=r.length;have hn:=Qe;have A:Inv X f σ (upd H p (.lst (xs.set j v))) { s with heap:=s.heap.update p (Obj.mapSeq (·.setIfInBounds j u)) }:=
  I.lstUpd N w (zag c n j u) (r.set rv j) (by rw[zay];exact hz) s.toks
 by_cases h0:0<=k
 ·have hk:k.toNat=j:=by
   rw[seqIndex_of h0 M] at h1;exact jq h1
  exact PySem.W.ki_setAt w h0 (by omega) (by rw[zQ,<- l];exact M) (by rw[hk];exact⟨_,A,q⟩)
 ·have hk:(k+(c.toArray.size:Int)).toNat=j:=by
   rw[seqIndex_neg (by omega) L] at h1
   rw[zQ,<- l];exact jq h1
  exact PySem.W.ki_setBack w (by omega) (by rw[zQ,<- l];exact L) (by omega) (by rw[hk];exact⟨_,A,q⟩)
theorem Vo(lo c:Option Int)(n:Nat):(sliceBounds lo c none n).1=((HT.sIx n 0 lo:Nat):Int)/\(sliceBounds lo c none n).2.1=((HT.sIx n n c:Nat):Int)/\(sliceBounds lo c none n).2.2=1:=by
 refine⟨?_,?_,rfl⟩
 ·cases lo with
  | none=>simp[sliceBounds,HT.sIx]
  | some i=>
   simp only[sliceBounds,HT.sIx,Option.getD_none,show(1:Int)>0 by decide,if_true]
   by_cases h:i<0
   ·simp only[h,if_true]<;>omega
   ·simp only[h,if_false]<;>omega
 ·cases c with
  | none=>simp[sliceBounds,HT.sIx]
  | some i=>
   simp only[sliceBounds,HT.sIx,Option.getD_none,show(1:Int)>0 by decide,if_true]
   by_cases h:i<0
   ·simp only[h,if_true]<;>omega
   ·simp only[h,if_false]<;>omega
theorem Xh(c:List Value)(lo f:Option Int):slicePick c.toArray lo f none=((c.drop (HT.sIx c.length 0 lo)).take (HT.sIx c.length c.length f-HT.sIx c.length 0 lo)).toArray:=by
 obtain⟨h1,h2,l⟩:=Vo lo f c.toArray.size;unfold slicePick;rw[h1,h2,l];simp only[sliceRange_one,pick_run,zQ]<;>rfl
inductive zjL(K:W.Frag)(x:V)(lo:Option Int)(c:Option Int)(H:Hp)(Q:VK):Prop
 | mk (a f:_) (_:x=.ref a) (_:SqL K H a f) (_:∀p,H p=none->Q (.ref p) (upd H p (.lst (jT f lo c)))):zjL K x lo c H Q
theorem ZJ:SlR X (zjL X.K):=by
 intro A s σ H x v vl vu lo l Y Q I O hs M N h;obtain⟨a,c,rfl,hx,q⟩:=h;cases O;obtain⟨L,r,w,hz⟩:=I.list hx;have f:=r.length;refine⟨"list",_,slot_list_getitem.lookup,w.isList.typeIs,?_⟩
 refine wpAny_getItem_list_slice w.isList hs M N .none (by simp) ?_ (by rw[zQ]<;>omega)
 rw[Xh,<- f];refine⟨.ref s.heap.objs.size,_,I.laid (t':=s.toks) (o:=.lst (jT c lo l)) (fun b U q=>z7 _ q) (zJ _) ?_,rfl,q _ (I.hok.fresh (zJ _))⟩
 exact⟨jk (QA c lo l) hz,_,0,(r.drop (HT.sIx c.length 0 lo)).take (HT.sIx c.length c.length l-HT.sIx c.length 0 lo),zW _ rfl⟩
def xH:V->Bool
 | .non=>true
 | .bl _=>true
 | .int _=>true
 | .str _=>true
 | _=>false
def eqV:V->V->Bool
 | .non,.non=>true
 | .bl a,.bl b=>a==b
 | .bl a,.int b=>(if a then 1 else 0)==b
 | .int a,.bl b=>a==(if b then 1 else 0)
 | .int a,.int b=>a==b
 | .str a,.str b=>a==b
 | _,_=>false
theorem Ju{A:Around}{s:Shared}{y x:V}{u v:Value}(w:RelV y u)(c:RelV x v)(H:xH y=true)(l:xH x=true):SeqAt.EqAt A s u v (eqV y x):=by
 cases y with
 | non=>
  cases w;cases x with
  | non=>cases c;exact Zu _
  | bl b=>cases c;exact SeqAt.EqAt.none_bool b
  | int b=>obtain⟨t,rfl⟩:=c;exact SeqAt.EqAt.none_int b t
  | str b=>obtain⟨t,rfl⟩:=c;exact SeqAt.EqAt.none_str b t
  | _=>exact absurd (show false=true from l) qR
 | bl a=>
  cases w;cases x with
  | non=>cases c;exact SeqAt.EqAt.bool_none a
  | bl b=>cases c;exact SeqAt.EqAt.bool_bool a b
  | int b=>obtain⟨t,rfl⟩:=c;exact SeqAt.EqAt.bool_int a b t
  | str b=>obtain⟨t,rfl⟩:=c;exact SeqAt.EqAt.bool_str a b t
  | _=>exact absurd (show false=true from l) qR
 | int a=>
  obtain⟨f,rfl⟩:=w;cases x with
  | non=>cases c;exact SeqAt.EqAt.int_none a f
  | bl b=>cases c;exact SeqAt.EqAt.int_bool a f b
  | int b=>obtain⟨t,rfl⟩:=c;exact SeqAt.EqAt.int_int a f b t
  | str b=>obtain⟨t,rfl⟩:=c;exact SeqAt.EqAt.int_str a f b t
  | _=>exact absurd (show false=true from l) qR
 | str a=>
  obtain⟨f,rfl⟩:=w;cases x with
  | non=>cases c;exact SeqAt.EqAt.str_none a f
  | bl b=>cases c;exact SeqAt.EqAt.str_bool a f b
  | int b=>obtain⟨t,rfl⟩:=c;exact SeqAt.EqAt.str_int a f b t
  | str b=>obtain⟨t,rfl⟩:=c;exact SeqAt.EqAt.str_str a f b t
  | _=>exact absurd (show false=true from l) qR
 | _=>exact absurd (show false=true from H) qR
def eqU(x:V)(u:Value):Bool:=match u with
 | .none=>eqV .non x
 | .bool b=>eqV (.bl b) x
 | .int i _=>eqV (.int i) x
 | .str z _=>eqV (.str z) x
 | _=>false
theorem zfe{x y:V}{u:Value}(r:RelV y u)(f:xH y=true):eqU x u=eqV y x:=by
 cases y with
 | non=>cases r;rfl
 | bl b=>cases r;rfl
 | int i=>obtain⟨t,rfl⟩:=r;rfl
 | str z=>obtain⟨t,rfl⟩:=r;rfl
 | _=>exact absurd (show false=true from f) qR
theorem Z2{x:V}:∀{c:List V} {l:List Value},Vals c l->c.all xH=true->l.any (eqU x)=c.any fun y=>eqV y x
 | _,_,.nil,_=>rfl
 | y::c,u::l,.cons r t,f=>by
  rw[List.all_cons,xO] at f;rw[vQ,vQ,zfe r f.1,Z2 t f.2]
theorem yq{A:Around}{s:Shared}{x:V}{v:Value}(H:RelV x v)(w:xH x=true):∀{l:List V} {c:List Value},Vals l c->l.all xH=true->∀u∈c,SeqAt.EqAt A s u v (eqU x u)
 | _,_,.nil,_=>fun u hu=>by cases hu
 | y::l,u::c,.cons r t,f=>fun I hu=>by
  rw[List.all_cons,xO] at f;rcases qe.mp hu with rfl | hu
  ·rw[zfe r f.1];exact Ju r H f.1 w
  ·exact yq H w t f.2 I hu
def inV(x:V)(c:List V):Bool:=c.any fun y=>eqV y x
inductive rIn(K:W.Frag)(c:Bool)(x:V)(y:V)(H:Hp)(Q:VK):Prop
 | mk (p f:_) (_:y=.ref p) (_:(SqL K H p f\/SqT K H p f)) (_:xH x=true) (_:f.all xH=true) (_:Q (.bl (if c then !inV x f else inV x f)) H):rIn K c x y H Q
theorem Qd:OpR X (compareOp .In) (rIn X.K false):=by
 intro L s σ H x y v u Q I M N h;obtain⟨p,O,rfl,hq,A,fs,q⟩:=h;cases N;rcases hq with hq | hq
 ·obtain⟨c,r,l,hz⟩:=I.list hq
  refine zax (eqU x) l.isList (fun w f=>yq M A r fs w (by simpa using f)) ⟨.bl _,H,I,rfl,?_⟩
  rw[show c.toArray.any (eqU x)=c.any (eqU x) by simp,Z2 r fs]
  exact q
 ·obtain⟨c,r,l,hz⟩:=I.tuple hq
  refine SeqAt.in_tupleAt (eqU x) l (fun w f=>yq M A r fs w (by simpa using f)) ⟨.bl _,H,I,rfl,?_⟩
  rw[show c.toArray.any (eqU x)=c.any (eqU x) by simp,Z2 r fs]
  exact q
theorem Vz:OpR X (compareOp .NotIn) (rIn X.K true):=by
 intro L s σ H x y v u Q I M N h;obtain⟨p,O,rfl,hq,A,fs,q⟩:=h;cases N;rcases hq with hq | hq
 ·obtain⟨c,r,l,hz⟩:=I.list hq
  refine SeqAt.notIn_listAt (eqU x) l.isList (fun w f=>yq M A r fs w (by simpa using f)) ⟨.bl _,H,I,rfl,?_⟩
  rw[show c.toArray.any (eqU x)=c.any (eqU x) by simp,Z2 r fs]
  exact q
 ·obtain⟨c,r,l,hz⟩:=I.tuple hq
  refine SeqAt.notIn_tupleAt (eqU x) l (fun w f=>yq M A r fs w (by simpa using f)) ⟨.bl _,H,I,rfl,?_⟩
  rw[show c.toArray.any (eqU x)=c.any (eqU x) by simp,Z2 r fs]
  exact q
inductive vS(K:W.Frag)(f:List V)(H:Hp)(Q:VK):Prop
 | mk (p c:_) (_:f=[.ref p]) (_:(SqL K H p c\/SqT K H p c)) (_:Q (.int c.length) H):vS K f H Q
theorem zI:jY X (.builtin "len") (vS X.K):=by
 intro A s σ H U O Q I r h;obtain⟨p,L,rfl,hq,q⟩:=h;obtain⟨u,rfl,M⟩:=wU r;cases M;have N:=Qe;rcases hq with hq | hq
 ·obtain⟨f,w,l,hz⟩:=I.list hq
  have c:=w.length;exact Calls.call_len_list l.isList (by simp only[zQ]<;>omega) ⟨.int L.length,H,I.tok _,⟨s.toks+1,by rw[zQ,c]⟩,q⟩
 ·obtain⟨f,w,l,hz⟩:=I.tuple hq
  have c:=w.length;exact len_tuple l (by simp only[zQ]<;>omega) ⟨.int L.length,H,I.tok _,⟨s.toks+1,by rw[zQ,c]⟩,q⟩
inductive vR(K:W.Frag)(f:List V)(H:Hp)(Q:VK):Prop
 | mk (p c:_) (_:f=[.ref p]) (_:(SqL K H p c\/SqT K H p c)) (_:∀l,H l=none->Q (.ref l) (upd H l (.lst c))):vR K f H Q
theorem wN:jY X (.type "list") (vR X.K):=by
 intro N s σ H xs us Q I r h;obtain⟨p,ys,rfl,hq,q⟩:=h;obtain⟨u,rfl,rx⟩:=wU r;cases rx;have A:∀(c:List Value),Vals ys c->ys.length<=sizeLine->∀(f:Heap) (l:Nat),(∀b o',s.heap.get? b=some o'->f.get? b=some o') ->
   f.get? s.heap.objs.size=some { cls:=.type "list",dict:=none,data:=.seq c.toArray l,slots:=#[] }->EP X N σ Q (.ref s.heap.objs.size) { s with heap:=f }:=fun c w hz f l M e=>
  ⟨.ref s.heap.objs.size,_,I.laid (t':=s.toks) M (zJ _) (show ObjOk X.prog X.w _ f _ (.lst ys) from ⟨hz,c,l,w,e⟩),rfl,q _ (I.hok.fresh (zJ _))⟩
 rcases hq with hq | hq
 ·obtain⟨c,w,Y,hz⟩:=I.list hq
  have L:=w.length;obtain⟨o,U,hc,n,O⟩:=Y.isList;exact call_list_seq p (.inl rfl) U hc O (fun f l M e=>A c w hz f l M e) (by simp only[zQ]<;>omega)
 ·obtain⟨c,w,Y,hz⟩:=I.tuple hq
  have L:=w.length;obtain⟨o,U,hc,n,O⟩:=Y;exact call_list_seq p (.inr rfl) U hc O (fun f l M e=>A c w hz f l M e) (by simp only[zQ]<;>omega)
inductive yd(K:W.Frag)(f:List V)(H:Hp)(Q:VK):Prop
 | mk (p c:_) (_:f=[.ref p]) (_:((SqL K H p c/\∀l,H l=none->Q (.ref l) (upd H l (.tup c)))\/(SqT K H p c/\Q (.ref p) H))):yd K f H Q
theorem jx:jY X (.type "tuple") (yd X.K):=by
 intro c s σ H xs us Q I r h;obtain⟨p,N,rfl,h⟩:=h;obtain⟨u,rfl,Y⟩:=wU r;cases Y;rcases h with ⟨hq,q⟩ | ⟨hq,q⟩
 ·obtain⟨f,A,w,hz⟩:=I.list hq
  have M:=A.length;refine call_tuple_list w.isList (fun l U=>?_) (by simp only[zQ]<;>omega)
  have L:Inv X c σ H { s with heap:=l }:=I.kept (t':=s.toks) U;have O:Inv X c σ (upd H l.objs.size (.tup N)) { s with heap:=l.push { cls:=.type "tuple",data:=.seq f.toArray } }:=
   L.laid (t':=s.toks) (fun b o e=>z7 _ e) (zJ _) (show ObjOk X.prog X.w _ _ _ (.tup N) from ⟨hz,f,A,⟨IsTup.new _ _,_,zW _ rfl,rfl⟩⟩)
  exact⟨.ref l.objs.size,_,O,rfl,q _ (L.hok.fresh (zJ _))⟩
 ·obtain⟨f,A,w,hz⟩:=I.tuple hq
  exact call_tuple_same w ⟨.ref p,H,I,rfl,q⟩
def tyV(K:W.Frag)(T:String)(x:V)(H:Hp):Prop:=match x with
 | .str _=>T = "str"
 | .int _=>T = "int"
 | .ref p=>(T = "list" /\ ∃f,SqL K H p f)\/(T = "tuple" /\ ∃o,K.lookup p=some o/\o.cls=.type "tuple" /\ o.dict=none) \/
   (T = "dict" /\ ((∃c,H p=some (.dK c))\/∃c,H p=some (.dT c)))\/(T = "set" /\ ∃S n,H p=some (.set S n))
 | _=>False
theorem zhy{l:List (Addr×Obj)}{σ:St}{H:Hp}{s:Shared}{T:String}{x:V}{v:Value}(I:Inv X l σ H s)(r:RelV x v)(ty:tyV X.K T x H) :
  s.TypeIs v T/\∀a,v=.ref a->∃L,s.heap.get? a=some L/\L.dict=none:=by
 cases x with
 | str z=>
  obtain⟨t,rfl⟩:=r;cases(show T = "str" from ty)
  exact⟨typeIs_str s z t,fun _ e=>nomatch e⟩
 | int i=>
  obtain⟨t,rfl⟩:=r;cases(show T = "int" from ty)
  exact⟨typeIs_int s i t,fun _ e=>nomatch e⟩
 | ref p=>
  cases r;rcases ty with ⟨rfl,O,hq⟩ | ⟨rfl,o,hk,hc,w⟩ | ⟨rfl,hk⟩ | ⟨rfl,S,n,hk⟩
  ·obtain⟨N,_,M,_⟩:=I.list hq
   refine⟨M.isList.typeIs,fun a e=>?_⟩
   cases e;obtain⟨o,n,e,c,w,_⟩:=M;exact⟨o,e,w⟩
  ·refine⟨⟨o,I.kIn p o hk,hc⟩,fun a e=>?_⟩
   cases e;exact⟨o,I.kIn _ o hk,w⟩
  ·have z:∃o,s.heap.get? p=some o/\o.ExactDict:=by
    rcases hk with ⟨A,hk⟩ | ⟨A,hk⟩
    ·obtain⟨_,_,_,_,o,_,_,e,f,_⟩:=I.hok p _ hk
     exact⟨o,e,f⟩
    ·obtain⟨_,_,_,_,o,_,_,e,f,_⟩:=I.hok p _ hk
     exact⟨o,e,f⟩
   obtain⟨o,e,f⟩:=z;refine⟨⟨o,e,f.1⟩,fun a e2=>?_⟩
   cases e2;exact⟨o,e,f.2.1⟩
  ·obtain⟨o,_,_,_,e,f,_⟩:=I.hok p _ hk
   refine⟨⟨o,e,f.1⟩,fun a e2=>?_⟩
   cases e2;exact⟨o,e,f.2.1⟩
 | _=>exact False.elim ty
def tBM(K:W.Frag)(T:String)(r:V->List V->Hp->VK->Prop)(to:TE)(t:TA):TE:=fun σ H Q=>to σ H fun x c=>tyV K T x c/\t σ c fun l f=>r x l f Q
variable{o e:Expr}{D:List Expr}{to:TE}{t:TA}{B:Str}{C g:Pos}{T id:String}{r:V->List V->Hp->VK->Prop}
theorem xE(pa:PlainAttrs T)(L:Slot T B id)(M:typeOf (.builtin id)=pure (.type "method_descriptor"))(hm:MtR X id r)(ho:PE X o to)(ha:PA X (e::D) t)
  (l:attributeBase o B X.env (eval o X.env)=eval o X.env:=by rfl)
  (A:((backTo g (starEach (e::D) X.env)).all (fun x=>!x.1)&&(backToKw g (keywordEach [] X.env)).all (fun x=>x.1.isSome)
   && decide ((e::D).length+([]:List Keyword).length+(if([]:List Keyword).isEmpty then 0 else 1)<30))=true:=by rfl)
  (w:(C.endLine==g.line)=true:=by rfl) (hs:starEach (e::D) X.env=(false,eval e X.env)::starEach D X.env:=by rfl) (f:(backTo g (starEach D X.env)).any (·.1)=false:=by rfl) :
  PE X (.Call (.Attribute o B C) (e::D) [] g) (tBM X.K T r to t):=by
 intro c s σ H Q I h;refine wpAny_Call_method_late l A w rfl (thn (ho c s σ H _ I h) fun v s1 ⟨x,Y,N,U,ty,q1⟩=>?_)
 obtain⟨h1,h2⟩:=zhy N U ty;refine⟨T,id,pa,L,M,h1,h2,?_⟩
 have O:=ha g c s1 σ Y _ N q1;rw[hs] at O ⊢;refine JY (by show(false||(backTo g (starEach D X.env)).any (·.1))=false;rw[f]<;>rfl) (Wb ?_)
 exact thn O fun us s2 ⟨vs,H2,I2,r2,q2⟩=>hm c s2 σ H2 x vs v us Q I2 U r2 q2
end
def MtM(X:Cx)(id:String)(r:V->List V->Hp->VK->Prop):Prop:=
 ∀(b:List (Addr×Obj)) (s:Shared) (σ:St) (H:Hp) (x:V) (f:List V) (v:Value) (c:List Value) (Q:VK),Inv X b σ H s->RelV x v->Vals f c->r x f H Q ->
  wpAny (model X.prog X.w) X.A (call (.builtin id) (v::c)) (EP X b σ Q) X.xe s
theorem Vals.one:∀{x:V} {b:List Value},Vals [x] b->∃u,b=[u]/\RelV x u
 | _,_,.cons r .nil=>⟨_,rfl,r⟩
def ua:=@Vals.one
theorem Vals.two:∀{x y:V} {b:List Value},Vals [x,y] b->∃u v,b=[u,v]/\RelV x u/\RelV y v
 | _,_,_,.cons r (.cons q .nil)=>⟨_,_,rfl,r,q⟩
theorem Vals.eraseIdx:∀{c:List V} {b:List Value} (i:Nat),Vals c b->Vals (c.eraseIdx i) (b.eraseIdx i)
 | _,_,_,.nil=>.nil
 | _,_,0,.cons _ t=>t
 | _,_,i+1,.cons r t=>.cons r (Vals.eraseIdx i t)
theorem Vals.rep{c:List V}{b:List Value}(h:Vals c b):∀k:Nat,Vals (List.replicate k c).flatten (List.replicate k b).flatten
 | 0=>.nil
 | k+1=>by
  rw[JU,JU,V4,V4];exact Vals.append h (Vals.rep h k)
theorem X0(c:List Value):∀(k:Nat) (b:List Value),
  List.foldl (fun f g=>f++g) b.toArray (List.replicate k c.toArray)=(b++(List.replicate k c).flatten).toArray
 | 0,b=>by simp
 | k+1,b=>by
  have e:b.toArray++c.toArray=(b++c).toArray:=by simp
  have e2:(b++c)++(List.replicate k c).flatten=b++(List.replicate (k+1) c).flatten:=by
   rw[JU,V4,yG]
  rw[<- e2,<- X0 c k (b++c),<- e,JU,List.foldl_cons]
section
variable{X:Cx}{c:List (Addr×Obj)}{σ:St}{H:Hp}{s:Shared}{l b:Addr}{w g A:List V}
theorem Inv.lset{B its':List Value}{n:Nat}{f:Array Value->Array Value}{E:Nat}(I:Inv X c σ H s)(C:H l=some (.lst w))
  (e:s.heap.get? l=some { cls:=.type "list",data:=.seq B.toArray n }) (D:f B.toArray=its'.toArray) (hv:Vals g its') (hz:g.length<=sizeLine) :
  Inv X c σ (upd H l (.lst g)) { s with heap:=s.heap.update l (Obj.mapSeq f),toks:=E }:=by
 have q:=PySem.IsL.update e f;rw[D] at q;refine I.write (x:=l) (e:=l) (by rw[C];exact trivial) (.inl rfl) (fun G u hb hu=>(yI s.heap (Obj.mapSeq f) (z9 hb)).trans hu) ⟨_,q⟩ ?_
 exact⟨hz,its',_,hv,q⟩
theorem Inv.lnew{f:List Value}{t':Nat}(I:Inv X c σ H s)(hv:Vals g f)(hz:g.length<=sizeLine) :
  Inv X c σ (upd H s.heap.objs.size (.lst g)) { s with heap:=s.heap.push { cls:=.type "list",data:=.seq f.toArray },toks:=t' }:=
 I.laid (fun _ _ q=>z7 _ q) (zJ _) ⟨hz,f,0,hv,zW _ rfl⟩
theorem Inv.fresh(I:Inv X c σ H s):H s.heap.objs.size=none:=I.hok.fresh (zJ _)
theorem Inv.lstM(I:Inv X c σ H s)(B:H l=some (.lst w)):w.length<=sizeLine/\∃(f:List Value) (n:Nat),Vals w f/\w.length=f.length/\s.heap.get? l=some { cls:=.type "list",data:=.seq f.toArray n }:=by
 obtain⟨z,f,n,r,e⟩:=I.hok l _ B;exact⟨z,f,n,r,r.length,e⟩
theorem Jg{n:Nat}(h:n<=sizeLine):Builtin.List.listTooLong n=false:=by
 unfold Builtin.List.listTooLong;exact jd (by omega)
end
section
variable{X:Cx}
inductive zbz(x:V)(c:List V)(H:Hp)(Q:VK):Prop
 | mk (l b y:_) (_:x=.ref l) (_:c=[y]) (_:H l=some (.lst b)) (_:b.length<sizeLine) (_:Q .non (upd H l (.lst (b++[y])))):zbz  x c H Q
theorem jE:MtM X "list.append" zbz:=by
 intro g s σ H x E v D Q I B A h;obtain⟨l,G,y,rfl,rfl,c,hz,q⟩:=h;cases B;obtain⟨u,rfl,w⟩:=A.one;obtain⟨z,b,n,r,C,e⟩:=I.lstM c;refine call_meets F.slot_list_append ⟨_,e,rfl⟩ F.entry_list_append (F.args_list_append_2 _ _) (PySem.list_append l b.toArray n u (by rw[zQ];omega)) ⟨e,?_⟩
 refine⟨.non,_,I.lset (its':=b++[u]) c e (by simp) (r.append (.cons w .nil)) ?_,rfl,q⟩
 rw[qo,List.length_singleton];omega
inductive zbw(x:V)(g:List V)(H:Hp)(Q:VK):Prop
 | mk (l b c f:_) (_:x=.ref l) (_:g=[.ref b]) (_:H l=some (.lst c)) (_:H b=some (.lst f)) (_:c.length+f.length<=sizeLine) (_:Q .non (upd H l (.lst (c++f)))):zbw  x g H Q
theorem XW:MtM X "list.extend" zbw:=by
 intro C s σ H x U v T Q I N M h;obtain⟨l,b,Y,zs,rfl,rfl,A,D,hz,q⟩:=h;cases N;obtain⟨u,rfl,L⟩:=M.one;cases L;obtain⟨z,f,n,r,O,e⟩:=I.lstM A;obtain⟨z2,c,G,J,E,e2⟩:=I.lstM D;have w:f.toArray.size+c.toArray.size<=sizeLine:=by rw[zQ,zQ];omega
 have g:¬(!f.toArray.isEmpty&&Builtin.List.listTooLong (f.toArray.size+c.toArray.size))=true:=by
  rw[Jg w,zat];exact qR
 refine call_meets F.slot_list_extend ⟨_,e,rfl⟩ F.entry_list_extend (F.args_list_extend_2 _ _)
  (AutoSeq1.list_extend_list_list_0 l f.toArray n b c.toArray G g (by rw[zQ];omega) (by omega)) ⟨e,e2,?_⟩
 refine⟨.non,_,I.lset (its':=f++c) A e (by simp) (r.append J) ?_,rfl,q⟩
 rw[qo];omega
inductive zhY(x:V)(y:V)(H:Hp)(Q:VK):Prop
 | mk (l b c f:_) (_:x=.ref l) (_:y=.ref b) (_:H l=some (.lst c)) (_:H b=some (.lst f)) (_:c.length+f.length<=sizeLine) (_:∀p,H p=none->Q (.ref p) (upd H p (.lst (c++f)))):zhY  x y H Q
theorem Zl:OpR X (binaryOp .Add) zhY:=by
 intro g s σ H x y v u Q I E G h;obtain⟨l,b,N,T,rfl,rfl,B,A,hz,q⟩:=h;cases E;cases G;obtain⟨z,f,n,r,J,e⟩:=I.lstM B;obtain⟨O,c,L,D,C,e2⟩:=I.lstM A;refine PySem.P.add_list e e2 ?_ (by rw[zQ,zQ];omega)
 have w:f.toArray++c.toArray=(f++c).toArray:=by simp
 rw[w];exact⟨.ref _,_,I.lnew (t':=s.toks) (r.append D) (by rw[qo];omega),rfl,q _ I.fresh⟩
inductive zjM(x:V)(y:V)(H:Hp)(Q:VK):Prop
 | mk (l k b:_) (_:x=.ref l) (_:y=.int k) (_:H l=some (.lst b)) (_:-(2^63)<=k) (_:k<2^63) (_:b.length*k.toNat<=sizeLine) (_:∀p,H p=none->Q (.ref p) (upd H p (.lst (List.replicate k.toNat b).flatten))):zjM  x y H Q
theorem zgu{α:Type}(b:List α)(k:Nat):(List.replicate k b).flatten.length=k*b.length:=by
 induction k with
 | zero=>simp
 | succ k c=>rw[JU,V4,qo,c,Nat.succ_mul,Nat.add_comm]
theorem zeD:OpR X (binaryOp .Mult) zjM:=by
 intro D s σ H x y v u Q I L M h;obtain⟨l,k,xs,rfl,rfl,G,h1,h2,hz,q⟩:=h;cases L;obtain⟨t,rfl⟩:=M;obtain⟨z,b,n,r,J,e⟩:=I.lstM G;have w:b.toArray.size*k.toNat<=sizeLine:=by rw[zQ,<- J];exact hz
 have f:¬b.toArray.size*k.toNat>(2^63-1)/8:=by
  have:(sizeLine:Nat)<=(2^63-1)/8:=by decide
  omega
 have g:¬(!Builtin.List.listFitsIndex k)=true:=by
  rw[fitsIndex_both h1 h2];exact qR
 have c:¬Builtin.List.listTooLong (b.toArray.size*k.toNat)=true:=by
  rw[Jg w];exact qR
 have A:List.foldl (fun B C=>B++C) #[] (List.replicate (if b.toArray.isEmpty=true then 0 else k.toNat) b.toArray)=(List.replicate k.toNat b).flatten.toArray:=by
  have E:∀m:Nat,List.foldl (fun B C=>B++C) #[] (List.replicate m b.toArray)=(List.replicate m b).flatten.toArray:=fun m=>by
   have:=X0 b m [];rw[yL] at this;exact this
  rw[E];cases b with
  | nil=>simp
  | cons a O=>rw[zu (by simp)]
 refine wpAny_binaryOp_repeat_ref (T:= "list") (U:= "int") (by decide) ⟨_,e,rfl⟩ (fun N=>typeIs_int N k t) noFill_list_mul F.fills_int_mul F.slot_int_rmul repeat_list F.slot_int_index.lookup
  (call_meets F.slot_int_rmul (typeIs_int s k t) F.entry_int_rmul (F.args_int_rmul_2 _ _) (int___rmul___int_list k t l b.toArray n)
   ⟨e,rfl,⟨_,e,rfl⟩,call_meets F.slot_list_mul ⟨_,e,rfl⟩ F.entry_list_mul (F.args_list_mul_2 _ _) (AutoListH.list___mul___list_int_3 l b.toArray n k t g f c) ⟨e,?_⟩⟩)
 rw[A];exact⟨.ref _,_,I.lnew (t':=s.toks) (r.rep k.toNat) (by rw[zgu,Nat.mul_comm];exact hz),rfl,q _ I.fresh⟩
end
section
variable{b:Program}{w:World}{A:Around}{E:Value->Shared->Prop}{s:Shared}
end
section
variable{X:Cx}
end
end L2
namespace Att
open PySem PySem.W PySem.Calls PyProof.Rows
theorem QO{P:Params}{h:Heap}:∀(c:List Int) (f:List Value),WellAll P h f (c.map WData.int)->IntsAre f c:=by
 intro c;induction c with
 | nil=>
  intro f w;rw[vP] at w;cases w;exact .nil
 | cons n c g=>
  intro f w;rw[qO] at w;cases w with
  | cons a b=>
   cases a;exact .cons _ _ (g _ b)
theorem zcN{l:OpenLaw}{n:Nat}(G:l.most=some n){P:Params}{h:Heap}{args:List WData}{f:List Value}
  (c:l.row.toRowW.claim.pre args=true) (C:WellAll P h f args) :
  ∃a D b,f=[Value.ref a]/\args=[WData.list (b.map WData.int)]/\h.get? a=some { cls:=.type "list",data:=.seq D.toArray }/\IntsAre D b/\b.length<=n:=by
 have B:WShape.hasAll [] args [.list .int]=true:=(pre_splitW c).1;have hc:l.pre.holds [] { args:=args }=true:=(pre_splitW c).2;obtain⟨d,r,rfl,h1,h2⟩:=hasAllW_cons B;obtain rfl:=hasAllW_nil h2;obtain⟨L,rfl,E⟩:=hasW_list h1;obtain⟨b,rfl⟩:=items_int E;have s:b.length<=n:=by
  unfold OpenLaw.pre at hc;have w:(WTm.not (.lt (.lit (.int (n:Int))) (.len (.arg 0)))).holds [] { args:=[.list (b.map .int)] }=true:=by
   have w:=(holds_andW hc).1;rw[G] at w;exact w
  have A:=condW_of w (w_not (w_lt w_lit (w_len_list (w_arg rfl))));rw[zn] at A;refine Nat.le_of_not_lt fun q=>?_
  have I:(n:Int)<((b.length:Nat):Int):=by omega
  first
   | (rw[zV I] at A;exact absurd A (by decide))
   | (simp at A;omega)
 cases C with
 | cons w1 J=>
  cases J;cases w1 with
  | list H g=>exact⟨_,_,b,rfl,rfl,H,QO b _ g,s⟩
theorem zcR(l:OpenLaw)(args:List WData):l.row.toRowW.claim.post args (.bool true) args=true:=
 postW_of (r:=l.row.toRowW) (X:=(true==true))
  (show WShape.has [] (.bool true) .bool=true by first| rfl | decide | simp[WShape.has,WShape.arms,WShape.armsAll])
  (show(WTm.eq .res (.lit (.bool true))).value [] { args:=args,res:=some (.bool true),after:=args }=some (.bool (true==true)) from w_eq_bool (w_res rfl) w_lit) rfl
theorem attach_call{l:OpenLaw}{n:Nat}{q:Program}{b:List Str}{XP:(Str->Option Value)->Heap->Prop}{YP:World->Heap->Prop}{d:DefRec}
  (hn:l.most=some n) (N:d.params.defaults=[])
  (call:∀(w:World) (s₀ c:Shared) (I T:Str->Option Value) (B:Addr) (o:Obj) (U H g:Value) (a:Addr) (A:List Value) (J:List Int),
   Ground q b [] XP w s₀ I T c.heap->YP w c.heap ->
   c.heap.get? B=some o->o.data=.func (docDef d.name d.params d.body d.scope U H g)->c.heap.CodeRec H d.name->I d.name=some (.ref B) ->
   c.heap.get? a=some { cls:=.type "list",data:=.seq A.toArray }->IntsAre A J->J.length<=n->c.gens=#[] ->
   codeAny (model l.prog w) callerA (.call (.ref B) ⟨[.ref a],[]⟩) (fun r L=>r=.ok (.ret (.bool true))/\OldK c.heap L.heap/\L.os=c.os/\AllBare L.gens) c) :
  WalkO q b XP YP l.row.toRowW d [] (fun f A=>PySem.call f A):=by
 intro w s₀ c I T G Y B o U H g dV kV ho hd M hD O hg args aa as E a0 ac Q ab;obtain rfl:dV=.none:=Dflts.none hD N;obtain rfl:kV=.none:=Dflts.noKw hD;obtain⟨a,A,J,rfl,rfl,D,s,C⟩:=zcN hn E Q;refine enter_call (codeAny_mono (call w s₀ c I T B o U H g a A J G Y ho (fd_plain hd) M O D s C hg) fun r L hq=>?_)
 obtain⟨rfl,h2,h3,h4⟩:=hq;exact⟨.inl ⟨.bool true,.bool true,[],rfl,fun _=>rfl,.bool true,zcR l _,fun _=>⟨List.Pairwise.nil,fun _ hm=>(nomatch hm)⟩⟩,h2,h3,h4⟩
section
variable{b:Program}{w:World}{A:Around}{E:Value->Shared->Prop}{s:Shared}{K:Frag}
def ledger(h:Heap)(L d:Addr):List (Addr×Obj):=(List.range h.objs.size).filterMap fun a=>if a=L\/a=d then none else(h.get? a).map fun o=>(a,o)
end
end Att
namespace L2
open PySem PySem.Spec PyProof.Rows
theorem Xw:∀{c:List Value} {b:List Int},IntsAre c b->Vals (b.map V.int) c
 | _,_,.nil=>.nil
 | _,_,.cons n t h=>.cons ⟨t,rfl⟩ (Xw h)
def ziW(H:Hp):Prop:=∀b,H b=none\/∃o c,H b=some (.frz o (.lst c))
theorem ze2{P:Program}{w:World}{K:W.Frag}{T mb:Str->Option Value}{CX:CXT}{k:Nat}{fa a:Addr}{fd:FuncData}{x:Str}{sp:Sp}{c:Shared}{D:List Value}{U:List Int}
  (KX:K.In c.heap) (M:c.heap.Ns mainGlobals T) (hb:c.heap.Ns builtinsNs mb) (aa:∀x:Str,x ≠ "__name__" -> mb x=bootBuiltins x) (L:c.heap.NoLimit) (hg:c.gens=#[])
  (ha:c.heap.get? a=some { cls:=.type "list",data:=.seq D.toArray }) (hi:IntsAre D U) (hl:U.length<=sizeLine) (hr:Room k callerA)
  (F:∀g:Heap,K.In g->g.Ns mainGlobals T->qY P w K T g CX k fa fd [x] sp) (C:∀(s:Shared) (u:Value),BindsTo s fd ⟨[u],[]⟩ [(x,u)])
  (ab:∀H:Hp,ziW H->SqL K H a (U.map V.int)->sp [.ref a] H (fun v _=>v=.bl true) fun _ _ _=>False)
  (a0:∀H e l,CX [] H c (fun _ _ _=>False) e l->False) :
  codeAny (model P w) callerA (.call (.ref fa) ⟨[.ref a],[]⟩) (fun r l=>r=.ok (.ret (.bool true))/\OldK c.heap l.heap/\l.os=c.os/\AllBare l.gens) c:=by
 have rv:=Xw hi;have Q:=hi.length;have B:∀H:Hp,ziW H->SqL K H a (U.map V.int)->HOk P w H c.heap->(∀b,H b≠none->b=a)->(H a≠none->K.lookup a=none) ->
   codeAny (model P w) callerA (.call (.ref fa) ⟨[.ref a],[]⟩) (fun r l=>r=.ok (.ret (.bool true))/\OldK c.heap l.heap/\l.os=c.os/\AllBare l.gens) c:=by
  intro H hO hS N hA hK;have f:∀{b:Addr} {o:Obj},c.heap.get? b=some o->H b=none->(VJ c.heap H).get? b=some o:=fun e n=>zfa e n
  have ac:∀{b:Addr} {o:Obj} {I:Array DictEntry} {G:Nat},c.heap.get? b=some o->o.data=.dict I G->H b=none:=fun {b o I G} e d=>by
   cases q:H b with
   | none=>rfl
   | some u=>
    have e':b=a:=hA b (by rw[q];simp)
    subst e';rw[ha] at e;cases e
    have d':Data.seq D.toArray _=Data.dict I G:=d;cases d'
  have A:∀{b:Addr} {m:Str->Option Value},c.heap.Ns b m->(VJ c.heap H).Ns b m:=fun {b m} ⟨o,I,G,e,d,r⟩=>⟨o,I,G,f e (ac e d),d,r⟩
  have J:K.In (VJ c.heap H):=fun b o e=>f (KX b o e) (by
   cases q:H b with
   | none=>rfl
   | some u=>
    have e':b=a:=hA b (by rw[q];simp)
    subst e';rw[hK (by rw[q];simp)] at e;cases e)
  have hM:Mod K T (VJ c.heap H):=⟨J,A M,⟨mb,A hb,aa⟩,let ⟨mc,h1,h2⟩:=L;⟨mc,A h1,h2⟩⟩
  have e0:zgW P w K T (VJ c.heap H) callerA [] c H:=⟨rfl,hM,fun b o e=>zgr e,wf (zc9 _ _),trivial,fun b hb=>absurd (show b∈([]:List Addr) from hb) (by simp),N,.of_eq hg⟩
  refine codeAny_mono ((F _ J (A M)).run callerA [] c H ⟨[.ref a],[]⟩ [.ref a] [.ref a] _ _ hr e0 (C c (.ref a)) (.cons rfl .nil) (ab H hO hS)) fun r l h=>?_
  cases r with
  | error e=>exact(a0 H e l h).elim
  | ok fl=>
   cases fl with
   | next=>exact False.elim h
   | brk=>exact False.elim h
   | cont=>exact False.elim h
   | ret u=>
    obtain⟨v,H',os,E,un,O,r',q⟩:=h;have q':v=.bl true:=q;subst q';obtain rfl:u=Value.bool true:=r';refine⟨rfl,OldK.of_keep fun b o e=>?_,os,E⟩
    cases q:H b with
    | none=>exact un.keep b o e q (by intro z;exact absurd (show b∈([]:List Addr) from z) (by simp)) (by simp)
    | some u=>
     rcases hO b with z | ⟨ob,xs,z⟩
     ·rw[q] at z;cases z
     ·have z2:=un.frzs b ob _ z
      obtain⟨e1,_⟩:=N b _ z;obtain⟨e2,_⟩:=O b _ z2;rw[e] at e1;cases e1
      exact e2
 cases hk:K.lookup a with
 | some o=>
  have e:=KX a o hk;rw[ha] at e;cases e;refine B (fun _=>none) (fun _=>.inl rfl) (.inr ⟨_,D.toArray,_,hk,rfl,rfl,rfl,by rw[zQ,Q];exact hl,by simpa using rv⟩) (fun b u z=>by have Y:(none:Option HO)=some u:=z;cases Y) (fun b z=>absurd rfl z) fun z=>absurd rfl z
 | none=>
  refine B (fun b=>if b=a then some (.frz { cls:=.type "list",data:=.seq D.toArray } (.lst (U.map V.int))) else none) (fun b=>?_) (.inl (.inr ⟨{ cls:=.type "list",data:=.seq D.toArray },zv rfl⟩)) (fun b u z=>?_) (fun b z=>?_) fun _=>hk
  ·by_cases hb:b=a
   ·exact .inr ⟨_,_,zv hb⟩
   ·exact .inl (zu hb)
  ·by_cases hb:b=a
   ·have Y:=(zv hb).symm.trans z
    cases Y;subst hb;exact⟨ha,by rw[zn];exact hl,D,_,rv,ha⟩
   ·have Y:=(zu hb).symm.trans z
    cases Y
  ·by_cases hb:b=a
   ·exact hb
   ·exact absurd (zu hb) z
def ZX(s:Stmt):Arguments:=match s with
 | .FunctionDef _ a _ _ _ _ _ _ _ _=>a
 | _=>{ posonlyargs:=[],args:=[],vararg:=none,kwonlyargs:=[],kw_defaults:=[],kwarg:=none,defaults:=[] }
def wL(s:Stmt):List Stmt:=match s with
 | .FunctionDef _ _ b _ _ _ _ _ _ _=>b
 | _=>[]
def zy(s:Stmt):Scope:=match s with
 | .FunctionDef _ _ _ _ _ _ b _ _ _=>b
 | _=>{ kind:=.function,names:=[],isGenerator:=false,isCoroutine:=false }
abbrev CX0:CXT:=fun _ _ _ _ _ _=>False
abbrev E0:XK:=fun _ _ _=>False
theorem zjT{X:Cx}:zaY CX0 X E0:=fun _ _ _ _ _ _ _ h=>h.elim
structure Fun(K:W.Frag)(x qual:Str)(st:Stmt)(f:Addr)(fd:FuncData):Prop where
 ex:∃(oc:Value) (od:Option Addr) (kV doc pm:Value) (an:Option Addr) (cdv ct:Value) (osl:Array (Option Value)),
  fd=PySem.W.fnOf x qual (ZX st) (wL st) (zy st) .none kV doc pm an cdv ct/\K.lookup f=some ⟨oc,od,.func fd,osl⟩/\PySem.W.codeIn K cdv qual=true
 kp:PySem.W.keepIn K (.ref f)=true
section
variable{P:Program}{w:World}{K:W.Frag}{c:Str->Option Value}{b:Heap}
theorem Fun.ok{x qual:Str}{st:Stmt}{f:Addr}{M:FuncData}{N J:List Str}{k:Nat}{L:Sp}(F:Fun K x qual st f M)(S:zD N J (zy st))(I:∀C H Q E,L C H Q E->C.length=J.length)
  (B:∀(l:Value) (A:Around) (g:List Env) (s:Shared) (H:Hp) (C:List V) (Q:VK) (E:XK),Room k (A.deeper (envOfC qual (zy st) s.heap.objs.size f l))->L C H Q E ->
   ∃t,PSs (zam CX0 P w K c b N qual (zy st) f l A g s H E).nox (wL st) t/\t { nx:=fun _ O=>Q .non O,rt:=Q } (Qw N C) H):qY P w K c b CX0 (k+1) f M J L:=by
 obtain⟨oc,od,kV,T,pm,an,l,ct,a0,rfl,Y,D⟩:=F.ex;refine zkx Y D S I fun A g s H C Q E U G=>?_
 obtain⟨t,h,q⟩:=B l A g s H C Q E U G;exact⟨t,h.nox,q⟩
theorem Fun.binds{x qual:Str}{st:Stmt}{f:Addr}{D:FuncData}{B:List Str}(F:Fun K x qual st f D)
  (h:∀(kV l A:Value) (s:Option Addr) (g ct:Value) (C:List Value),C.length=B.length->bindArgs (PySem.W.fnOf x qual (ZX st) (wL st) (zy st) .none kV l A s g ct) ⟨C,[]⟩=pure (B.zip C)):Binds K D B []:=by
 obtain⟨I,J,kV,l,A,s,g,ct,G,rfl,H,E⟩:=F.ex;exact .all (h kV l A s g ct)
end
theorem XY{A:Around}{k:Nat}(b:Room k A):A.units+1<cLine:=wY (zaN (by decide:1<=64) _) b.units
section
variable{X:Cx}
theorem pv(i:Nat){x:Str}{c:Pos}(f:X.N[i]? =some x:=by rfl)(hv:Vis X.env.scope x:=by first| exact Or.inl rfl | exact Or.inr (Or.inl rfl) | exact Or.inr (Or.inr rfl))(g:(x==("__debug__":Str))=false:=by decide)
  (b:(x==("__classdict__":Str))=false:=by decide):PE X (.Name x c) (zhB i):=zh5 f hv g b
end
theorem xC{c A B:Prop}[Decidable c](h1:c->A)(h2:¬c->B):if c then A else B:=by
 by_cases h:c
 ·rw[zv h]
  exact h1 h
 ·rw[zu h]
  exact h2 h
def Same(H c:Hp):Prop:=∀b o,H b=some o->c b=some o
theorem Same.refl(H:Hp):Same H H:=fun _ _ h=>h
def u5:=@Same.refl
theorem Same.trans{H f g:Hp}(a:Same H f)(b:Same f g):Same H g:=fun c o h=>b c o (a c o h)
theorem Same.free{H b:Hp}(e:Same H b){l:Addr}(h:b l=Option.none):H l=Option.none:=by
 cases q:H l with
 | none=>rfl
 | some o=>
  rw[e l o q] at h;cases h
theorem Same.seq{K:W.Frag}{H b:Hp}{a:Addr}{c:List V}(e:Same H b)(h:SqL K H a c):SqL K b a c:=by
 rcases h with(h | ⟨o,h⟩) | h
 ·exact .inl (.inl (e _ _ h))
 ·exact .inl (.inr ⟨o,e _ _ h⟩)
 ·exact .inr h
end L2
namespace L2
inductive Ex1{b:Sort _}(P:b->Prop):Prop
 | mk (a1:b) (h:P a1):Ex1 P
inductive Ex2{b:Sort _}{c:Sort _}(P:b->c->Prop):Prop
 | mk (a1:b) (a2:c) (h:P a1 a2):Ex2 P
inductive Ex3{b:Sort _}{c:Sort _}{f:Sort _}(P:b->c->f->Prop):Prop
 | mk (a1:b) (a2:c) (a3:f) (h:P a1 a2 a3):Ex3 P
inductive Ex4{b:Sort _}{c:Sort _}{f:Sort _}{g:Sort _}(P:b->c->f->g->Prop):Prop
 | mk (a1:b) (a2:c) (a3:f) (a4:g) (h:P a1 a2 a3 a4):Ex4 P
inductive Ex5{b:Sort _}{c:Sort _}{f:Sort _}{g:Sort _}{l:Sort _}(P:b->c->f->g->l->Prop):Prop
 | mk (a1:b) (a2:c) (a3:f) (a4:g) (a5:l) (h:P a1 a2 a3 a4 a5):Ex5 P
inductive Ex6{b:Sort _}{c:Sort _}{f:Sort _}{g:Sort _}{l:Sort _}{s:Sort _}(P:b->c->f->g->l->s->Prop):Prop
 | mk (a1:b) (a2:c) (a3:f) (a4:g) (a5:l) (a6:s) (h:P a1 a2 a3 a4 a5 a6):Ex6 P
inductive Ex7{b:Sort _}{c:Sort _}{f:Sort _}{g:Sort _}{l:Sort _}{s:Sort _}{w:Sort _}(P:b->c->f->g->l->s->w->Prop):Prop
 | mk (a1:b) (a2:c) (a3:f) (a4:g) (a5:l) (a6:s) (a7:w) (h:P a1 a2 a3 a4 a5 a6 a7):Ex7 P
inductive zkO{f:Sort _}{g:Sort _}{l:Sort _}{s:Sort _}{w:Sort _}{A:Sort _}{B:Sort _}{C:Sort _}{D:Sort _}{b:Sort _}(P:f->g->l->s->w->A->B->C->D->b->Prop):Prop
 | mk (a1:f) (a2:g) (a3:l) (a4:s) (a5:w) (a6:A) (a7:B) (a8:C) (a9:D) (c:b) (h:P a1 a2 a3 a4 a5 a6 a7 a8 a9 c):zkO P
inductive zkN{l:Sort _}{s:Sort _}{w:Sort _}{A:Sort _}{B:Sort _}{C:Sort _}{D:Sort _}{E:Sort _}{G:Sort _}{b:Sort _}{c:Sort _}(P:l->s->w->A->B->C->D->E->G->b->c->Prop):Prop
 | mk (a1:l) (a2:s) (a3:w) (a4:A) (a5:B) (a6:C) (a7:D) (a8:E) (a9:G) (f:b) (g:c) (h:P a1 a2 a3 a4 a5 a6 a7 a8 a9 f g):zkN P
inductive An2(b c:Prop):Prop
 | mk (h1:b) (h2:c):An2 b c
inductive An3(b c f:Prop):Prop
 | mk (h1:b) (h2:c) (g:f):An3 b c f
inductive An4(b c f g:Prop):Prop
 | mk (h1:b) (h2:c) (l:f) (s:g):An4 b c f g
inductive An5(b c f g l:Prop):Prop
 | mk (h1:b) (h2:c) (s:f) (w:g) (A:l):An5 b c f g l
inductive An6(b c f g l s:Prop):Prop
 | mk (h1:b) (h2:c) (w:f) (A:g) (B:l) (C:s):An6 b c f g l s
inductive An7(b c f g l s w:Prop):Prop
 | mk (h1:b) (h2:c) (A:f) (B:g) (C:l) (D:s) (E:w):An7 b c f g l s w
inductive An8(b c f g l s w A:Prop):Prop
 | mk (h1:b) (h2:c) (B:f) (C:g) (D:l) (E:s) (G:w) (H:A):An8 b c f g l s w A
inductive An9(b c f g l s w A B:Prop):Prop
 | mk (h1:b) (h2:c) (C:f) (D:g) (E:l) (G:s) (H:w) (I:A) (J:B):An9 b c f g l s w A B
inductive zkR(c f g l s w A B C b:Prop):Prop
 | mk (h1:c) (h2:f) (E:g) (G:l) (H:s) (I:w) (J:A) (L:B) (M:C) (D:b):zkR c f g l s w A B C b
theorem zko{α:Type _}{c:List α}(h:c.length=1):∃b,c=[b]:=
 match c,h with
 | [b],_=>⟨b,rfl⟩
theorem zkn{α:Type _}{c:List α}(h:c.length=2):∃b a1,c=[b,a1]:=
 match c,h with
 | [b,a1],_=>⟨b,a1,rfl⟩
theorem zkm{α:Type _}{c:List α}(h:c.length=3):∃b a1 a2,c=[b,a1,a2]:=
 match c,h with
 | [b,a1,a2],_=>⟨b,a1,a2,rfl⟩
theorem zkl{α:Type _}{c:List α}(h:c.length=4):∃b a1 a2 a3,c=[b,a1,a2,a3]:=
 match c,h with
 | [b,a1,a2,a3],_=>⟨b,a1,a2,a3,rfl⟩
theorem zkk{α:Type _}{c:List α}(h:c.length=5):∃b a1 a2 a3 a4,c=[b,a1,a2,a3,a4]:=
 match c,h with
 | [b,a1,a2,a3,a4],_=>⟨b,a1,a2,a3,a4,rfl⟩
theorem zkj{α:Type _}{c:List α}(h:c.length=6):∃b a1 a2 a3 a4 a5,c=[b,a1,a2,a3,a4,a5]:=
 match c,h with
 | [b,a1,a2,a3,a4,a5],_=>⟨b,a1,a2,a3,a4,a5,rfl⟩
end L2
set_option maxHeartbeats 4000000
namespace L2
open PySem PySem.Spec PyProof.Rows
def jg(c:List (Str×Addr)):List (Str×NameKind)->List (Str×Addr)->List (Str×Addr)
 | [],b=>b
 | (n,k)::r,b=>jg c r (if(k==NameKind.free)=true then(n,(c.lookup n).getD 0)::b else b)
theorem zfm{env:Env}(names:List (Str×NameKind)):∀(b:List (Str×Addr)),(∀y∈names,y.2=NameKind.free->∃c,env.cells.lookup y.1=some c) ->
  (forIn names b fun(x:Str×NameKind) (f:List (Str×Addr))=>
   (if(x.2==NameKind.free)=true then(cellOf env x.1 >>= fun a=>(pure (ForInStep.yield ((x.1,a)::f)):Sem (ForInStep (List (Str×Addr))))) else pure (ForInStep.yield f)))=(pure (jg env.cells names b):Sem (List (Str×Addr))):=by
 induction names with
 | nil=>intro b _;rfl
 | cons y r g=>
  intro b h;obtain⟨n,k⟩:=y;rw[V1];by_cases hk:(k==NameKind.free)=true
  ·obtain⟨c,hc⟩:=h (n,k) jm (by simpa using hk)
   have e1:cellOf env n=pure c:=by
    unfold cellOf;rw[show env.cells.lookup n=some c from hc]
   simp only[hk,if_true,e1,pure_bind];rw[g _ fun z hz=>h z (jS _ hz)]
   show _=pure (jg env.cells r (if(k==NameKind.free)=true then(n,(env.cells.lookup n).getD 0)::b else b))
   rw[zv hk,show env.cells.lookup n=some c from hc]
   all_goals rfl
  ·simp only[hk,pure_bind]
   simp only[ZB,if_false,pure_bind];rw[g _ fun z hz=>h z (jS _ hz)]
   show _=pure (jg env.cells r (if(k==NameKind.free)=true then(n,(env.cells.lookup n).getD 0)::b else b))
   rw[zu hk]
theorem VQ{b:Env}{scope:Scope}(h:∀y∈scope.names,y.2=NameKind.free->∃c,b.cells.lookup y.1=some c):closureFor scope b=pure (jg b.cells scope.names []):=by
 have e:=zfm (env:=b) scope.names [] h;unfold closureFor;refine Eq.trans ?_ (Eq.trans (congrArg (fun m=>m >>= fun f=>(pure f:Sem (List (Str×Addr)))) e) ?_)
 ·rfl
 ·simp
theorem wM{g:List (Str×Addr)}{x:Str}:∀(names:List (Str×NameKind)) (b:List (Str×Addr)),(jg g names b).lookup x=(if(names.any fun y=>y.2==NameKind.free&&x==y.1)=true then some ((g.lookup x).getD 0) else b.lookup x)
 | [],b=>by simp[jg]
 | (n,k)::r,b=>by
  unfold jg;rw[wM r];by_cases c:(r.any fun y=>y.2==NameKind.free&&x==y.1)=true
  ·rw[zv c,zv (by rw[vQ,c,VY])]
  ·rw[zu c]
   by_cases hk:(k==NameKind.free)=true
   ·rw[zv hk]
    by_cases hx:(x==n)=true
    ·rw[zv (by rw[vQ];simp only[hk,hx,Bool.and_self,Bool.true_or])]
     have e:x=n:=by simpa using hx
     subst e;simp[jX]
    ·rw[zu (by rw[vQ];simp only[hk,hx,zat,VZ];exact c)]
     have f:(x==n)=false:=by simpa using hx
     simp[jX,f]
   ·rw[zu hk,zu (by rw[vQ];simp only[hk,Bool.false_and,VZ];exact c)]
abbrev zK(X:Cx)(b:List Str)(scope:Scope)(C:Addr)(s:Shared)(H:Hp)(ex:List Addr):Cx where
 prog:=X.prog
 w:=X.w
 K:=X.K
 mg:=X.mg
 base:=X.base
 A:=X.A
 N:=b
 s₀:=s
 H₀:=H
 env:=compEnvC scope (jg X.env.cells scope.names []) C X.env
 outer:=X.stack
 stack:=X.stack
 ex:=ex
 fn:=fun _=>false
 calm:=X.calm
 pn:=[]
 xe:=fun _ _=>False
abbrev vB(f:List Expr)(b:Env):Sem Bool:=
 forIn f true fun(c:Expr) (r:Bool)=>if r=true then(isTrue c b (eval c b) >>= fun ok=>(pure (ForInStep.yield ok):Sem (ForInStep Bool))) else pure (ForInStep.yield r)
theorem YH{b:Program}{w:World}{A:Around}{R:Result->Shared->Prop}{s:Shared}{g N l:Expr}{B:List Expr}{scope:Scope}{D:Pos}{H f:Value}{c:Env}(J:Nat->Shared->Prop)
  (G:∀n s,J n s->wpAny (model b w) A (pyNext H) (fun r s1=>match r with
   | none=>R (.ok .next) s1
   | some v=>wpAny (model b w) A (letOwnedTupleGo N H v) (fun _ s2=>wpAny (model b w) A (assign N c v) (fun _ U=>
     wpAny (model b w) A (vB B c) (fun ok I=>
      if ok=true then wpAny (model b w) A (eval g c) (fun x L=>
       wpAny (model b w) A (call (.builtin "list.append") [f,x]) (fun _ M=>∃m,m<n/\J m M) (fun _ _=>False) L) (fun _ _=>False) I
      else ∃m,m<n/\J m I) (fun _ _=>False) U) (fun _ _=>False) s2) (fun _ _=>False) s1) (fun _ _=>False) s)
  (n:Nat) (h:J n s):codeAny (model b w) A (.compLoop (.ListComp g [⟨N,l,B,0⟩] scope D) 0 H f c) R s:=by
 have C:∀{α:Type} {t:Sem α} {Q:α->Shared->Prop} {E:Value->Shared->Prop} {s:Shared},wpAny (model b w) A t Q (fun _ _=>False) s->wpAny (model b w) A t Q E s:=fun x=>qN x (fun _ _ q=>q) fun _ _ q=>q.elim
 refine codeAny_loop rfl J (fun k u hJ=>?_) n h
 show wpAny _ A ((compTurn (.ListComp g [⟨N,l,B,0⟩] scope D) 0 H f c).onRaise (fun x=>do noteFrame x c;theTreesLotGoes x)) _ _ u
 refine wpAny_noted ?_
 rw[compTurn_list];refine zg (vV (zg (C (qN (G k u hJ) (fun r s1 h1=>?_) fun _ _ q=>q))))
 cases r with
 | none=>exact zw h1
 | some v=>
  refine zg (C (qN h1 (fun _ s2 h2=>zg (C (qN h2 (fun _ U Y=>zg (C (qN Y (fun ok I T=>?_) fun _ _ q=>q))) fun _ _ q=>q))) fun _ _ q=>q))
  cases ok with
  | false=>exact zw ⟨rfl,T⟩
  | true=>
   have O:wpAny (model b w) A (eval g c) (fun x L=>wpAny (model b w) A (call (.builtin "list.append") [f,x]) (fun _ M=>∃m,m<k/\J m M) (fun _ _=>False) L) (fun _ _=>False) I:=T
   refine zg (zg (C (qN O (fun x L h5=>zg (C (qN h5 (fun _ M h6=>zw (zw ⟨rfl,h6⟩)) fun _ _ q=>q))) fun _ _ q=>q)))
def PF(X:Cx)(c:List Expr)(t:TT):Prop:=
 ∀(b:List (Addr×Obj)) (s:Shared) (σ:St) (H:Hp) (Q:Bool->Hp->Prop),Inv X b σ H s->t σ H Q->wpAny (model X.prog X.w) X.A (vB c X.env) (TP X b σ Q) X.xe s
def zkA:TT:=fun _ H Q=>Q true H
theorem qS{X:Cx}:PF X [] zkA:=fun b s σ H Q I h=>zw ⟨H,I,h⟩
theorem ju{X:Cx}{c:Expr}{t:TT}(hc:PT X c t):PF X [c] t:=by
 intro b s σ H Q I h;unfold vB;simp only[V1,zas,if_true];refine zg (zg (thn (hc b s σ H Q I h) fun ok s1 q=>zw (zw q)))
theorem VI{P:Program}{w:World}{H:Hp}{h f:Heap}{C:Addr}(x:HOk P w H h)(g:H C=none)(k:∀b o,b≠C->h.get? b=some o->f.get? b=some o):HOk P w H f:=fun b u e=>by
 refine(x b u e).stay (fun c v hc q=>k c v ?_ q) (fun _ q=>q) fun _ _ q=>q
 rcases hc with z | z
 ·rw[z];exact zm e g
 ·exact zm z g
theorem Qg{P:Program}{w:World}{H:Hp}{h:Heap}{a:Addr}{o:HO}(x:HOk P w H h)(g:H a=none)(f:ObjOk P w (upd H a o) h a o):HOk P w (upd H a o) h:=fun b u e=>by
 by_cases hb:b=a
 ·subst hb;rw[zd] at e;cases e;exact f
 ·rw[zp hb] at e
  exact(x b u e).stay (fun c v _ q=>q) (fun c q=>by rw[zp (zm q g)];exact q) fun c l q=>by rw[zp (zm q g)];exact q
theorem Q3{fs c:List Addr}{H l:Hp}{h s:Heap}{a:Addr}{o:HO}(u:Un fs c H l h s)(w:a∈c)(f:H a=none):Un fs c H (upd l a o) h s where
 keep:=u.keep
 slot:=u.slot
 free:=fun b g q n hx=>by
  have hb:b≠a:=fun z=>hx (by rw[z];exact w)
  rw[zp hb];exact u.free b g q n hx
 there:=u.there
 tups:=fun b B q=>by rw[zp (zm q f)];exact u.tups b B q
 frzs:=fun b g v q=>by rw[zp (zm q f)];exact u.frzs b g v q
 tbls:=fun b A q=>by rw[zp (zm q f)];exact u.tbls b A q
theorem YW{fs g:List Addr}{H f:Hp}{h h1 h2:Heap}{C:Addr}(u:Un fs g H f h h1)(c:h.objs.size<=C)(k:∀b o,b≠C->h1.get? b=some o->h2.get? b=some o):Un fs g H f h h2 where
 keep:=fun b o q n hb hx=>k b o (qh (xj (zH q) c)) (u.keep b o q n hb hx)
 slot:=fun b o q n hb hx=>let ⟨s,e⟩:=u.slot b o q n hb hx;⟨s,k b _ (qh (xj (zH q) c)) e⟩
 free:=u.free
 there:=fun b o q hx=>let ⟨l,e⟩:=u.there b o q hx;⟨l,k b _ (qh (xj (zH q) c)) e⟩
 tups:=u.tups
 frzs:=u.frzs
 tbls:=u.tbls
def ZZ(sn on:List (Str×NameKind))(N b:List Str)(c:List Nat):Bool:=
 sn.all (fun y=>y.2 != .cell&&(y.2 != .local||sn.lookup y.1==some .local)&&(y.2 != .free||(on.lookup y.1==some .cell||on.lookup y.1==some .free)))&&b.length==c.length
  && (b.zip c).all fun p=>sn.lookup p.1==some .free&&N[p.2]? ==some p.1
structure zfK(sn on:List (Str×NameKind))(N fr:List Str)(js:List Nat):Prop where
 cell:∀y∈sn,y.2≠NameKind.cell
 loc:∀y∈sn,y.2=NameKind.local->sn.lookup y.1=some .local
 free:∀y∈sn,y.2=NameKind.free->on.lookup y.1=some .cell\/on.lookup y.1=some .free
 len:fr.length=js.length
 fr:∀(k:Nat) (x:Str),fr[k]? =some x->sn.lookup x=some .free/\∃j:Nat,js[k]? =some j/\N[j]? =some x
theorem YI{sn on:List (Str×NameKind)}{N c:List Str}{b:List Nat}(h:ZZ sn on N c b=true):zfK sn on N c b:=by
 unfold ZZ at h;rw[xO,xO,vN,vN] at h;obtain⟨⟨h1,h2⟩,l⟩:=h;have f:c.length=b.length:=by simpa using h2
 refine⟨fun y hy=>?_,fun y hy e=>?_,fun y hy e=>?_,f,fun k x e=>?_⟩
 ·have:=h1 y hy
  simp only[xO,bne_iff_ne] at this;exact this.1.1
 ·have:=h1 y hy
  simp only[xO,JP,bne_iff_ne,xu] at this;exact this.1.2.resolve_left fun z=>z e
 ·have:=h1 y hy
  simp only[xO,JP,bne_iff_ne,xu] at this;exact this.2.resolve_left fun z=>z e
 ·have hk:k<c.length:=(zC.mp e).1
  have g:k<b.length:=by omega
  have s:(x,b[k])∈c.zip b:=by
   refine qr (i:=k) ?_
   rw[zfv];exact⟨e,by simp[g]⟩
  have:=l _ s;simp only[xO,xu] at this;exact⟨this.1,b[k],by simp[g],this.2⟩
def upS(n:Nat)(b:List Nat)(σ:St):St:=List.replicate n none++b.map fun j=>(σ[j]?).join
def tLC(T:TI)(n:Nat)(B:List Nat)(g:TG)(O:TT)(M:TE):TE:=fun σ H Q=>T σ H fun J G=>
 ∃W:Nat->Nat->List V->Hp->Prop,(∃m,W 0 m [] G)/\∀i m f c,W i m f c ->
  (J.stop i c/\f.length<=sizeLine/\∀D,c D=none->Q (.ref D) (upd c D (.lst f))) \/
  (J.go i c/\∃N:List V->Hp->Prop,(∀E s,N E s->∃C,C<m/\W (i+1) C E s)/\∀x w,J.yld i c x w->g x (upS n B σ) w fun l I=>l.drop n=(upS n B σ).drop n/\O l I fun b A=>
   if b=true then M l A fun y L=>f.length<sizeLine/\N (f++[y]) L else N f A)
theorem vH{b:Env}{x:Str}{f:NameKind}:∀{names:List (Str×NameKind)},(names.map fun(n,k)=>if(k==NameKind.free&&b.scope.kind==.function&&b.kindOf n==some .cell) then(n,NameKind.cell) else(n,k)).lookup x=some f ->
  ∃k,names.lookup x=some k/\(f=k\/(k=.free/\f=.cell))
 | [],h=>by simp at h
 | (n,k)::r,h=>by
  by_cases hx:(x==n)=true
  ·refine⟨k,by simp[jX,hx],?_⟩
   have h:List.lookup x ((if(k==NameKind.free&&b.scope.kind==.function&&b.kindOf n==some .cell)=true then(n,NameKind.cell) else(n,k))::_)=some f:=h
   by_cases hc:(k==NameKind.free&&b.scope.kind==.function&&b.kindOf n==some .cell)=true
   ·rw[zv hc,jX,hx] at h
    simp only[xO,xu] at hc;exact .inr ⟨hc.1.1,(jq h).symm⟩
   ·rw[zu hc,jX,hx] at h
    exact .inl (jq h).symm
  ·have c:(x==n)=false:=by simpa using hx
   have h:List.lookup x ((if(k==NameKind.free&&b.scope.kind==.function&&b.kindOf n==some .cell)=true then(n,NameKind.cell) else(n,k))::_)=some f:=h
   have h2:(r.map fun(n,k)=>if(k==NameKind.free&&b.scope.kind==.function&&b.kindOf n==some .cell) then(n,NameKind.cell) else(n,k)).lookup x=some f:=by
    by_cases hc:(k==NameKind.free&&b.scope.kind==.function&&b.kindOf n==some .cell)=true
    ·rw[zv hc,jX,c] at h;exact h
    ·rw[zu hc,jX,c] at h;exact h
   obtain⟨g,e,z⟩:=vH h2;exact⟨g,by rw[jX,c];exact e,z⟩
theorem wF{env:Env}{x:Str}:∀{names:List (Str×NameKind)},names.lookup x=some .free->∃b,(names.map fun(n,k)=>if(k==NameKind.free&&env.scope.kind==.function&&env.kindOf n==some .cell) then(n,NameKind.cell) else(n,k)).lookup x=some b/\(b=.cell\/b=.free)
 | [],h=>by simp at h
 | (n,k)::r,h=>by
  by_cases hx:(x==n)=true
  ·rw[jX,hx] at h
   cases(jq h);show ∃b,List.lookup x ((if(NameKind.free==NameKind.free&&env.scope.kind==.function&&env.kindOf n==some .cell)=true then(n,NameKind.cell) else(n,NameKind.free))::_)=some b/\_
   by_cases hc:(NameKind.free==NameKind.free&&env.scope.kind==.function&&env.kindOf n==some .cell)=true
   ·rw[zv hc];exact⟨.cell,by simp[jX,hx],.inl rfl⟩
   ·rw[zu hc];exact⟨.free,by simp[jX,hx],.inr rfl⟩
  ·have c:(x==n)=false:=by simpa using hx
   rw[jX,c] at h;obtain⟨b,e,z⟩:=wF (env:=env) (names:=r) h;refine⟨b,?_,z⟩
   show List.lookup x ((if(k==NameKind.free&&env.scope.kind==.function&&env.kindOf n==some .cell)=true then(n,NameKind.cell) else(n,k))::_)=some b
   by_cases hc:(k==NameKind.free&&env.scope.kind==.function&&env.kindOf n==some .cell)=true
   ·rw[zv hc,jX,c];exact e
   ·rw[zu hc,jX,c];exact e
theorem qw{b:List (Str×Addr)}{names:List (Str×NameKind)}{x:Str}{c:Addr}(h:(jg b names []).lookup x=some c)(l:∀y∈names,y.2=NameKind.free->∃c,b.lookup y.1=some c):b.lookup x=some c:=by
 rw[wM] at h;by_cases f:(names.any fun y=>y.2==NameKind.free&&x==y.1)=true
 ·rw[zv f] at h
  obtain⟨y,hy,e⟩:=yF.mp f;simp only[xO,xu] at e;obtain⟨s,g⟩:=l y hy e.1;rw[<- e.2] at g;rw[g] at h ⊢;exact h
 ·rw[zu f] at h
  cases h
theorem vF{b:List (Str×Addr)}{names:List (Str×NameKind)}{x:Str}(h:names.lookup x=some .free):(jg b names []).lookup x=some ((b.lookup x).getD 0):=by
 rw[wM,zv];exact yF.mpr ⟨(x,.free),wZ h,by simp⟩
theorem wn{n:Nat}{b:List Nat}{σ:St}{i:Nat}{v:V}(h:(upS n b σ)[i]? =some (some v)):n<=i/\((upS n b σ).drop n)[i-n]? =some (some v)/\∃j:Nat,b[i-n]? =some j/\σ[j]? =some (some v):=by
 unfold upS at h ⊢;by_cases g:i<n
 ·rw[yc (by simpa using g),List.getElem?_replicate] at h
  split at h<;>cases h
 ·have e:(List.replicate n (none:Option V)++b.map fun j=>(σ[j]?).join).drop n=b.map fun j=>(σ[j]?).join:=by
   rw[List.drop_append_of_le_length (by simp)];simp
  rw[wC (by simpa using g),vy] at h
  refine⟨by omega,by rw[e];exact h,?_⟩
  rw[zZ] at h;cases c:b[i-n]? with
  | none=>rw[c] at h;cases h
  | some j=>
   rw[c] at h;have h:(σ[j]?).join=some v:=jq h;refine⟨j,rfl,?_⟩
   cases f:σ[j]? with
   | none=>rw[f] at h;cases h
   | some o=>rw[f] at h;exact congrArg some h
theorem Vj{n:Nat}{b:List Nat}{σ:St}:(upS n b σ).length=n+b.length:=by unfold upS;simp
section
variable{X:Cx}{w E f:Expr}{A:List Expr}{scope:Scope}{G:Pos}{O:TI}{g:TG}{M:TT}{L:TE}
theorem zdo{N:List (Addr×Obj)}{σ:St}{H:Hp}{s:Shared}{fp:List Addr}(own fr:List Str)(js:List Nat)(I:Inv X N σ H s)(B:zfK scope.names X.env.scope.names X.N fr js)(hk:scope.kind=.function)
  (f2:∀b∈fp,xo X N H b) (fl:∀b∈fp,b<s.heap.objs.size) {D C:Addr} (hD:D=s.heap.objs.size) {T h1:Heap} (e3:T=s.heap.push { cls:=.type "list",dict:=none,data:=.seq ([]:List Value).toArray }) (hC:C=T.objs.size)
  {m:Str->Option Value} (ae:h1.Ns C m) (k4:∀b o,T.get? b=some o->h1.get? b=some o) {t4:Nat} :
  Inv (zK X (own++fr) scope C { s with heap:=T } H (D::fp)) [] (upS own.length js σ) H { s with heap:=h1,toks:=t4 }:=by
 have k3:∀b o,s.heap.get? b=some o->T.get? b=some o:=fun b o e=>by rw[e3];exact z7 _ e
 have Y:Inv X N σ H { s with heap:=T }:=I.kept (t':=s.toks) k3;have hz:T.objs.size=s.heap.objs.size+1:=by rw[e3,jV]
 have J:∀y∈scope.names,y.2=NameKind.free->∃c,X.env.cells.lookup y.1=some c:=fun y hy e=>I.ok.has y.1 (B.free y hy e)
 have Q:∀x c,X.env.cells.lookup x=some c->c<s.heap.objs.size:=fun x c e=>by
  obtain⟨v,q⟩:=I.cell x c e;exact q.lt
 refine⟨⟨I.ok.mod,hk,I.ok.glob,I.ok.blt,wf hC.symm,fun x y c e1 e2=>?_,fun x hx=>?_,fun x c hf=>(nomatch hf),fun hc=>I.ok.hd hc,I.ok.frames,.inl rfl,fun b hb=>?_,Y.bs,jk I.ok.bsz Y.sz,fun b o e hb=>?_,fun b hb hf=>?_,Y.stack,Y.stkFree⟩,
  rfl,I.bare,Un.kept k4,⟨m,ae,fun i x v e1 e2 af=>?_⟩,fun x c e=>?_,?_,fun x c e=>?_,fun p hp=>absurd (show p∈([]:List (Addr×Obj)) from hp) (by simp),Y.hok.kept k4,?_⟩
 ·exact I.ok.inj x y c (qw e1 J) (qw e2 J)
 ·obtain⟨k,e,z⟩:∃k,scope.names.lookup x=some k/\(k=.free):=by
   rcases hx with hx | hx
   ·obtain⟨k,e,z⟩:=vH hx
    rcases z with z | z
    ·subst z;exact absurd rfl (B.cell _ (wZ e))
    ·exact⟨k,e,z.1⟩
   ·obtain⟨k,e,z⟩:=vH hx
    rcases z with z | z
    ·subst z;exact⟨_,e,rfl⟩
    ·exact⟨k,e,z.1⟩
  subst z;exact⟨_,vF e⟩
 ·rcases qe.mp hb with z | hb
  ·subst z
   refine⟨by rw[hD,hC,hz];exact qh (yE _),fun x c e=>?_⟩
   have:=Q x c (qw e J);rw[hD];exact qh this
  ·refine⟨by rw[hC,hz];exact qh (wB (fl b hb)),fun x c e=>?_⟩
   exact(f2 b hb).2.2.2.2.1 x c (qw e J)
 ·rcases qe.mp hb with z | hb
  ·have:=zH (I.bk b o e)
   rw[z,hD] at this;exact vw _ this
  ·rcases(f2 b hb).2.2.2.1 with z | z
   ·exact I.ok.noex b o e z
   ·exact absurd (xj (zH (I.ok.bs b o e).1) z) (vw _)
 ·have aa:=qe.mp (I.stkSub b hf)
  rcases qe.mp hb with z | hb
  ·rcases aa with y | y
   ·have:=I.lt
    rw[<- y,z,hD] at this;exact vw _ this
   ·exact I.nofs (a:=b) (by rw[z,hD];exact zJ _) y
  ·rcases aa with y | y
   ·exact(f2 b hb).2.1 y
   ·exact(f2 b hb).2.2.1 y
 ·obtain⟨hn,_,j,ej,es⟩:=wn e2
  have ex:fr[i-own.length]? =some x:=by rw[wC hn] at e1;exact e1
  obtain⟨U,j',a0,eN⟩:=B.fr _ x ex;have:j'=j:=by rw[ej] at a0;exact(jq a0).symm
  subst this;have ab:=B.free _ (wZ U) rfl;obtain⟨m0,_,hl⟩:=I.loc;obtain⟨u,r,l⟩:=hl j' x v eN es (by rcases ab with z | z;exact .inr (.inl z);exact .inr (.inr z))
  refine⟨u,r,.inr ?_⟩
  rcases l with ⟨kl,_⟩ | ⟨_,c,ec,o,eo,ed⟩
  ·have ac:X.env.scope.names.lookup x=some .local:=kl
   rcases ab with z | z
   ·exact absurd (z.symm.trans ac) (by decide)
   ·exact absurd (z.symm.trans ac) (by decide)
  ·obtain⟨k',e',z⟩:=wF (env:=X.env) U
   have eq:(jg X.env.cells scope.names []).lookup x=some c:=by rw[vF U,ec];rfl
   refine⟨?_,c,eq,o,k4 c o (k3 c o eo),ed⟩
   rcases z with z | z
   ·subst z;exact .inl e'
   ·subst z;exact .inr e'
 ·obtain⟨v,o,eo,ed⟩:=I.cell x c (qw e J)
  exact⟨v,o,k4 c o (k3 c o eo),ed⟩
 ·exact Y.hok.fresh (wf hC.symm)
 ·exact I.freeC x c (qw e J)
 ·rw[Vj,<- B.len]
  show _=(own++fr).length;rw[qo]
inductive LcJ(Y:Cx)(D:Addr)(H:Nat->Heap->Prop)(C:List Addr)(c:List (Addr×Obj))(σ:St)(W:Nat->Nat->List V->Hp->Prop)(n:Nat)(s:Shared):Prop
 | mk (i:Nat) (I:List V) (l:List Value) (B:Hp) (z:Nat) (_:Inv Y c σ B s) (_:H i s.heap) (_:∀b∈C,B b=none) (_:B D=none) (_:s.heap.get? D=some { cls:=.type "list",data:=.seq l.toArray z }) (_:Vals I l) (_:W i n I B):LcJ Y D H C c σ W n s
inductive LcE(Y:Cx)(D:Addr)(b:List (Addr×Obj))(σ:St)(N:List V->Hp->Prop)(s:Shared):Prop
 | mk (B:List V) (c:List Value) (l:Hp) (z:Nat) (_:Inv Y b σ l s) (_:l D=none) (_:s.heap.get? D=some { cls:=.type "list",data:=.seq c.toArray z }) (_:Vals B c) (_:N B l):LcE Y D b σ N s
theorem zbL{Y:Cx}{D it:Addr}{B:List Addr}{tn:Nat->Heap->Prop}{J:It}{c:List (Addr×Obj)}{σ4:St}{Kp:St->Prop}{W:Nat->Nat->List V->Hp->Prop}{N:List V->Hp->Prop}{n:Nat}{I:Shared}
  (hc:Y.calm=true) (hx:Y.xe=fun _ _=>False) (hg:PG Y E g) (hf:PF Y A M) (he:PE Y w L) (T:ZE Y.prog Y.w Y.K E J B it tn)
  (fD:∀s:Hp,s D=none->xo Y c s D) (f2:∀b∈B,∀s:Hp,s b=none->xo Y c s b) (nD:∀b∈B,D≠b) (bk:∀σ9 s s',Inv Y c σ9 s s'->Kp σ9->Inv Y c σ4 s s')
  (am:∀i m zs H7,W i m zs H7->(J.stop i H7/\N zs H7)\/(J.go i H7/\∃N2:List V->Hp->Prop,(∀zs s,N2 zs s->∃m',m'<m/\W (i+1) m' zs s)/\∀x H8,J.yld i H7 x H8->g x σ4 H8 fun σ9 H9=>Kp σ9/\M σ9 H9 fun b Q=>
    if b=true then L σ9 Q fun y an=>zs.length<sizeLine/\N2 (zs++[y]) an else N2 zs Q)) (j:LcJ Y D tn B c σ4 W n I) :
  wpAny (model Y.prog Y.w) Y.A (pyNext (.ref it)) (fun r s1=>match r with
   | none=>LcE Y D c σ4 N s1
   | some v=>wpAny (model Y.prog Y.w) Y.A (letOwnedTupleGo E (.ref it) v) (fun _ s2=>wpAny (model Y.prog Y.w) Y.A (assign E Y.env v) (fun _ s3=>
     wpAny (model Y.prog Y.w) Y.A (vB A Y.env) (fun ok s4=>
      if ok=true then wpAny (model Y.prog Y.w) Y.A (eval w Y.env) (fun x I=>
       wpAny (model Y.prog Y.w) Y.A (call (.builtin "list.append") [.ref D,x]) (fun _ s6=>∃m,m<n/\LcJ Y D tn B c σ4 W m s6) (fun _ _=>False) I) (fun _ _=>False) s4
      else ∃m,m<n/\LcJ Y D tn B c σ4 W m s4) (fun _ _=>False) s3) (fun _ _=>False) s2) (fun _ _=>False) s1) (fun _ _=>False) I:=by
 unfold PG at hg;unfold PF at hf;unfold PE at he
 rw[hx] at hg hf he;obtain⟨i,ys,C,H5,z5,I5,al,ah,aq,ak,a0,w5⟩:=j;have ag:=I5.pinned (fp:=[D]) (fun b hb=>by rw[qD.mp hb];exact fD _ aq) (fun b hb=>by rw[qD.mp hb];exact⟨_,ak,fun v q=>nomatch q⟩)
 have mD:(D,({ cls:=.type "list",data:=.seq C.toArray z5 }:Obj))∈c++qB [D] I.heap:=qI _ (jb (qD.mpr rfl) ak);have ae:∀{s:Hp},(∀b∈B,s b=none)->∀b∈B,xo Y (c++qB [D] I.heap) s b:=fun hn b hb=>by
  obtain⟨a1,a2,a3,a4,a5,a6⟩:=f2 b hb _ (hn b hb);refine⟨a1,a2,a3,a4,a5,fun p hp=>?_⟩
  rcases qU.mp hp with q | q
  ·exact a6 p (jN _ q)
  ·rcases qU.mp q with q | q
   ·exact a6 p (qI _ q)
   ·rw[qD.mp (vD q).1];exact nD b hb
 rcases am i n ys H5 w5 with ⟨stop,q⟩ | ⟨go,N2,hN,step⟩
 ·refine thn (T.done Y rfl rfl rfl hc i _ I _ H5 _ ag (ae ah) al stop) fun r s6 ⟨hr,I6⟩=>?_
  subst hr;obtain⟨o6,av,_⟩:=I6.pin (D,_) (qI _ mD);exact⟨ys,C,H5,z5,I6.unpinned,av,o6,a0,q⟩
 ·refine thn (T.item Y rfl rfl rfl hc i _ I _ H5 _ ag (ae ah) al go) fun r s6 ⟨u,hr,h6⟩=>?_
  subst hr;refine thn h6 fun _ s7 ⟨x,H7,I7,r7,y7,aa,ap⟩=>?_
  refine thn (hg _ s7 _ H7 x u _ (I7.pinned (ae ap) (T.obj _ _ aa)) r7 (step x H7 y7)) fun _ s8 ⟨σ8,H8,I8,ar,q8⟩=>?_
  refine thn (hf _ s8 σ8 H8 _ I8 q8) fun ok s9 ⟨H9,I9,q9⟩=>?_
  have af:=qI Y.pn (jN (qB B s7.heap) mD);have mF:∀b∈B,∀o,s7.heap.get? b=some o->(b,o)∈Y.pn++((c++qB [D] I.heap)++qB B s7.heap):=fun b hb o e=>qI _ (qI _ (jb hb e))
  generalize hP:(c++qB [D] I.heap)++qB B s7.heap=P at I9 af mF he;have ac:∀{s:Hp} {s':Shared},Inv Y P σ8 s s'->Inv Y c σ4 s s':=fun {s s'} J=>by subst hP;exact bk _ _ _ (J.unpinned).unpinned ar
  have ai:∀{s:Hp} {s':Shared},Inv Y P σ8 s s'->∀b∈B,s b=none:=fun {s s'} J b hb=>by
   obtain⟨o,e,_⟩:=T.obj _ _ aa b hb;exact(J.pin (b,o) (mF b hb o e)).2.1
  cases ok with
  | false=>
   obtain⟨m',hm,w'⟩:=hN _ _ (show N2 ys H9 by simpa using q9)
   obtain⟨o9,aw,_⟩:=I9.pin (D,_) af;exact⟨m',hm,i+1,ys,C,H9,z5,ac I9,T.keep _ _ _ aa fun b hb o e=>(I9.pin (b,o) (mF b hb o e)).1,ai I9,aw,o9,a0,w'⟩
  | true=>
   refine thn (he _ s9 σ8 H9 (fun y H6=>ys.length<sizeLine/\N2 (ys++[y]) H6) I9 (by simpa using q9)) fun yv az ⟨y,Q,U,ay,as,b0⟩=>?_
   obtain⟨m',hm,w'⟩:=hN _ _ b0;obtain⟨ax,H,_⟩:=U.pin (D,_) af;refine wpAny_list_append_plain (l:=D) (items:=C.toArray) (hsz:=by rw[zQ,<- a0.length];exact JK as) ⟨_,ax⟩ fun bb aj ab=>?_
   obtain⟨ba,ao⟩:=aj;obtain⟨d0,d1,d2,d3,d4,d5⟩:=fD _ H;refine⟨m',hm,i+1,ys++[y],C++[yv],Q,ba,?_,T.keep _ _ _ aa fun b hb o e=>ab.extBut b o (z9 (nD b hb)) (U.pin (b,o) (mF b hb o e)).1,ai U,H,?_,a0.append (.cons ay .nil),w'⟩
   ·exact(ac U).turned (t':=az.toks) (it:=D) (fun b o hb e=>ab.extBut b o hb e) H d1 d3 d4 d5
   ·rw[ao];simp
theorem zfl{use:Option (Value->Sem Unit)}{Qx:Value->Shared->Prop}{cp:Pos}{rest:List Comprehension}{l:List (Addr×Obj)}{s:Shared}{σ:St}{H:Hp}{Q:VK}{Tl:It->(Nat->Nat->List V->Hp->Prop)->Prop}(own fr:List Str)(js:List Nat)(hk:scope.kind=.function)(hb:ZZ scope.names X.env.scope.names X.N fr js=true)(hi:PI X E f O)
  (hs:∀x,foldedSetIterable f X.env x=pure x) (I:Inv X l σ H s) (h:O σ H fun J H1=>∃W:Nat->Nat->List V->Hp->Prop,(∃m,W 0 m [] H1)/\Tl J W)
  (ah:∀(C D it:Addr) (N:List Addr) (tn:Nat->Heap->Prop) (J:It) (W:Nat->Nat->List V->Hp->Prop) (U:Hp) (s3 s4:Shared) (m0:Nat) (R:Result->Shared->Prop),(∀b∈D::N,∀H':Hp,H' b=none->xo (zK X (own++fr) scope C s3 U (D::N)) [] H' b)->(∀b∈N,D≠b) ->
   ZE X.prog X.w X.K E J N it tn->Tl J W->LcJ (zK X (own++fr) scope C s3 U (D::N)) D tn N [] (upS own.length js σ) W m0 s4 ->
   (∀s6,LcE (zK X (own++fr) scope C s3 U (D::N)) D [] (upS own.length js σ) (fun ys H5=>ys.length<=sizeLine/\∀D,H5 D=none->Q (.ref D) (upd H5 D (.lst ys))) s6->R (.ok .next) s6) ->
   codeAny (model X.prog X.w) X.A (.compLoop (.ListComp w (⟨E,f,A,0⟩::rest) scope G) 0 (.ref it) (.ref D) (compEnvC scope (jg X.env.cells scope.names []) C X.env)) R s4)
  (aj:∀(s6:Shared) (D C:Addr) (H6:Hp) (m:Str->Option Value),s6.heap.Ns C m->(∀h7:Heap,(∀b o,b≠C->s6.heap.get? b=some o->h7.get? b=some o)->Inv X l σ H6 { s6 with heap:=h7 })->xo X l H6 C->Q (.ref D) H6->compPost (model X.prog X.w) X.A X.xe use Qx (.ref D) C (.ok .next) s6) :
  wpAny (model X.prog X.w) X.A (comprehension (.ListComp w (⟨E,f,A,0⟩::rest) scope G) scope X.env cp (newList []) false (eval f X.env) use) Qx X.xe s:=by
 have B:=YI hb;have a0:∀y∈scope.names,y.2=NameKind.free->∃c,X.env.cells.lookup y.1=some c:=fun y hy e=>I.ok.has y.1 (B.free y hy e)
 refine wpAny_comprehension_free rfl hs (VQ a0) hk (fun y hy e=>B.loc y hy e) (thn (hi l s σ H _ I h) fun v s1 h1=>thn h1 fun ar s2 h2=>?_)
 obtain⟨it,N,tn,J,U,e,I2,T,ae,f2,W,⟨m0,w0⟩,tl⟩:=h2;subst e;have fl:∀b∈N,b<s2.heap.objs.size:=fun b hb=>let ⟨o,e,_⟩:=T.obj _ _ ae b hb;zH e
 refine xc (wpAny_newFunctionEnv B.cell (by intro y hy;simp at hy) (fun h1 ab ac=>?_) hk)
 dsimp only at ab ac ⊢;generalize e3:s2.heap.push { cls:=.type "list",dict:=none,data:=.seq ([]:List Value).toArray }=Y at ab ac ⊢;have k3:∀b o,s2.heap.get? b=some o->Y.get? b=some o:=fun b o e=>by rw[<- e3];exact z7 _ e
 have k4:∀b o,Y.get? b=some o->h1.get? b=some o:=fun b o e=>ac.extBut b o (qh (zH e)) (z7 _ e)
 have I4:Inv (zK X (own++fr) scope Y.objs.size { s2 with heap:=Y } U (s2.heap.objs.size::N)) [] (upS own.length js σ) U { s2 with heap:=h1,toks:=s2.toks+([]:List (Str×Value)).length }:=
  zdo own fr js I2 B hk f2 fl rfl e3.symm rfl ab k4
 have I3:Inv X l σ U { s2 with heap:=Y }:=I2.kept (t':=s2.toks) k3;have hz:Y.objs.size=s2.heap.objs.size+1:=by rw[<- e3,jV]
 have aa:s2.heap.objs.size≠Y.objs.size:=by rw[hz];exact qh (yE _)
 have af:h1.get? s2.heap.objs.size=some { cls:=.type "list",data:=.seq ([]:List Value).toArray }:=k4 _ _ (by rw[<- e3];exact zW _ rfl)
 have al:=(I3.fpOk (b:=Y.objs.size) (zJ _) (I3.hok.fresh (zJ _))).2;have dN:U s2.heap.objs.size=none:=I2.hok.fresh (zJ _);have dO:=I2.fpOk (b:=s2.heap.objs.size) (zJ _) dN;have fD:∀b∈N,s2.heap.objs.size≠b:=fun b hb=>xK (fl b hb)
 generalize s2.heap.objs.size=D at *
 generalize eC:Y.objs.size=C at *
 have hx:∀b,xo X l U b->∀x c,(jg X.env.cells scope.names []).lookup x=some c->c≠b:=fun b hb x c e=>hb.2.2.2.2.1 x c (qw e a0)
 have ap:∀b∈D::N,b∉frs X.stack:=I4.ok.exfs;have nC:∀b∈D::N,b≠C:=fun b hb=>by
  rcases qe.mp hb with z | hb
  ·rw[z];exact aa
  ·exact(I4.ok.exf b (jS _ hb)).1
 have all:∀b∈D::N,xo X l U b:=fun b hb=>by
  rcases qe.mp hb with z | hb
  ·rw[z];exact dO
  ·exact f2 b hb
 have ak:∀b∈D::N,∀H':Hp,H' b=none->xo (zK X (own++fr) scope C { s2 with heap:=Y } U (D::N)) [] H' b:=fun b hb H' hn=>
  ⟨hn,nC b hb,ap b hb,.inl hb,fun x c e=>hx b (all b hb) x c e,fun p h=>absurd h (by simp)⟩
 have go:∀s4:Shared,s4={ s2 with heap:=h1,toks:=s2.toks+([]:List (Str×Value)).length } ->
   codeAny (model X.prog X.w) X.A (.compLoop (.ListComp w (⟨E,f,A,0⟩::rest) scope G) 0 (.ref it) (.ref D) (compEnvC scope (jg X.env.cells scope.names []) C X.env)) (compPost (model X.prog X.w) X.A X.xe use Qx (.ref D) C) s4:=by
  intro s4 e4;subst e4;refine ah C D it N tn J W U _ _ m0 _ ak fD T tl ⟨0,[],[],U,0,I4,T.keep _ _ _ ae fun b hb o e=>k4 b o (k3 b o e),fun b hb=>(f2 b hb).1,dN,af,.nil,w0⟩ fun s6 h6=>?_
  obtain⟨ys,ao,H5,z5,I6,ai,o6,aq,ag,q⟩:=h6;obtain⟨m6,an,_⟩:=I6.loc;have am:upd H5 D (.lst ys) C=none:=by rw[zp (z9 aa)];exact I6.free
  refine aj s6 D C (upd H5 D (.lst ys)) m6 an (fun h7 k7=>?_) ⟨am,al⟩ (q D ai)
  refine I3.call' (s':={ s6 with heap:=h7 }) (ch:=D::N) I6.os (Q3 (YW I6.base (wf eC) k7) jm dN) (Qg (VI I6.hok I6.free k7) ai ⟨ag,ao,z5,aq,k7 D _ aa o6⟩) I6.bare fun b hb=>?_
  obtain⟨_,g1,_,g3,g4,g5⟩:=all b hb;exact⟨g3,g1,g4,g5⟩
 exact codeAny_compStart_list (go _ rfl) (T.self X.A 0 _ _ _ (T.keep _ _ _ ae fun b hb o e=>k4 b o (k3 b o e)) (go _ rfl))
theorem Wy{Y:Cx}{b:List (Addr×Obj)}{n:Nat}{c:List Nat}{σ B:St}{l:Hp}{s:Shared}(D:(upS n c σ).length=Y.N.length)(J:Inv Y b B l s)(C:B.drop n=(upS n c σ).drop n):Inv Y b (upS n c σ) l s:=by
 refine J.weak (D.trans J.len.symm) fun k v e=>?_
 obtain⟨H,e1,_⟩:=wn e;rw[<- C,V8] at e1;rw[<- e1];congr 1
 omega
theorem zbM{C D it:Addr}{c:List Addr}{tn:Nat->Heap->Prop}{J:It}{W:Nat->Nat->List V->Hp->Prop}{H2:Hp}{s3 s4:Shared}{m0 n:Nat}{R:Result->Shared->Prop}{U:List Nat}{σ:St}{l:List Str}{N:List V->Hp->Prop}(hc:X.calm=true)
  (hg:∀C s H ex,PG (zK X l scope C s H ex) E g) (hf:∀C s H ex,PF (zK X l scope C s H ex) A M) (he:∀C s H ex,PE (zK X l scope C s H ex) w L) (aa:∀b∈D::c,∀Q:Hp,Q b=none->xo (zK X l scope C s3 H2 (D::c)) [] Q b) (fD:∀b∈c,D≠b) (T:ZE X.prog X.w X.K E J c it tn)
  (ab:∀i m B H7,W i m B H7->(J.stop i H7/\N B H7)\/(J.go i H7/\∃N2:List V->Hp->Prop,(∀B Q,N2 B Q->∃m',m'<m/\W (i+1) m' B Q)/\∀x H8,J.yld i H7 x H8->g x (upS n U σ) H8 fun σ9 H9=>σ9.drop n=(upS n U σ).drop n/\M σ9 H9 fun b a0=>
    if b=true then L σ9 a0 fun y ac=>B.length<sizeLine/\N2 (B++[y]) ac else N2 B a0))
  (j:LcJ (zK X l scope C s3 H2 (D::c)) D tn c [] (upS n U σ) W m0 s4) (ae:∀s6,LcE (zK X l scope C s3 H2 (D::c)) D [] (upS n U σ) N s6->R (.ok .next) s6) :
  codeAny (model X.prog X.w) X.A (.compLoop (.ListComp w [⟨E,f,A,0⟩] scope G) 0 (.ref it) (.ref D) (compEnvC scope (jg X.env.cells scope.names []) C X.env)) R s4:=by
 have hl:=(let ⟨_,_,_,_,_,I,_,_,_,_,_,_⟩:=j;I.len:(upS n U σ).length=l.length)
 refine YH (LcJ (zK X l scope C s3 H2 (D::c)) D tn c [] (upS n U σ) W) (fun k s5 j=>qN (zbL (Y:=zK X l scope C s3 H2 (D::c)) hc rfl (hg _ _ _ _) (hf _ _ _ _) (he _ _ _ _) T (aa D jm) (fun b hb=>aa b (jS _ hb)) fD (fun σ9 Q s' J hd=>Wy hl J hd) ab j) (fun r s6 h6=>?_) fun _ _ q=>q) m0 j
 cases r with
 | some v=>exact h6
 | none=>exact ae s6 h6
theorem zho(own l:List Str)(U:List Nat)(hc:X.calm=true)(hk:scope.kind=.function)(hb:ZZ scope.names X.env.scope.names X.N l U=true)(hi:PI X E f O)
  (hg:∀C s H c,PG (zK X (own++l) scope C s H c) E g) (hf:∀C s H c,PF (zK X (own++l) scope C s H c) A M) (he:∀C s H c,PE (zK X (own++l) scope C s H c) w L)
  (hs:∀x,foldedSetIterable f X.env x=pure x:=by intro _;rfl):PE X (.ListComp w [⟨E,f,A,0⟩] scope G) (tLC O own.length U g M L):=by
 intro Y s σ H Q I h;rw[eval_ListComp];exact zfl (rest:=[]) own l U hk hb hi hs I h (fun C D it fp tn J W H2 s3 s4 m0 R a b T tl j B=>zbM hc hg hf he a b T tl j B) fun s6 D C H6 m hn all _ q=>⟨m,hn,fun h7 N=>⟨.ref D,H6,all h7 fun b o hb e=>N.extBut b o hb e,rfl,q⟩⟩
end
section
variable{X:Cx}{f:List (Addr×Obj)}{σ:St}{H:Hp}{s:Shared}
theorem QS{ch:List Addr}{h':Heap}{t':Nat}{T:Addr}{w:List V}{its:List Value}(I:Inv X f σ H s)(l:∀b∈ch,xo X f H b)(A:s.heap.objs.size<=T)
  (k:∀b o,b∉ch->s.heap.get? b=some o->h'.get? b=some o) (M:w.length<=sizeLine) (U:Vals w its) (Q:TupX h' T its.toArray) :
  Inv X f σ (upd H T (.tup w)) { s with heap:=h',toks:=t' }:=by
 have g:H T=none:=I.hok.fresh A;have ne:∀b o,s.heap.get? b=some o->b≠T:=fun b o e=>qh (xj (zH e) A)
 have B:∀b u,H b=some u->b∉ch:=fun b u e hb=>by rw[(l b hb).1] at e;cases e
 refine I.step (g':=s.gens) (d':=s.drawn) (ch:=ch) (fun b hb=>?_) (fun b o _ _ hc e _=>k b o hc e) (fun b o _ _ hc e _=>⟨o.slots,k b o hc e⟩) (fun b o _ e n=>by rw[zp (ne b o e)];exact n) (fun b o hc e=>⟨o,k b o hc e⟩)
  (fun b Y e=>by rw[zp (zm e g)];exact e) (fun b o u e=>by rw[zp (zm e g)];exact e) (fun b ps e=>⟨#[],by rw[zp (zm e g),e];simp⟩) (fun m N=>?_) (fun b u e=>?_) I.bare
 ·obtain⟨_,E,_,G,J,L⟩:=l b hb
  exact⟨G,E,J,L⟩
 ·obtain⟨o,D,C,O,r⟩:=N
  exact⟨o,D,C,k _ o (fun z=>(l _ z).2.1 rfl) O,r⟩
 ·by_cases hb:b=T
  ·subst hb
   rw[zd] at e;cases e;exact⟨M,its,U,Q⟩
  ·rw[zp hb] at e
   refine(I.hok b u e).stay (fun c v hc q=>k c v ?_ q) (fun c q=>by rw[zp (zm q g)];exact q) fun c Y q=>by rw[zp (zm q g)];exact q
   rcases hc with z | z
   ·rw[z];exact B b u e
   ·exact B c _ z
end
def Ite(K:W.Frag)(a:Addr):It:=
 ⟨fun i H=>∃b x,SqL K H a b/\b[i]? =some x,fun i H x c=>∃T y,x=.ref T/\H T=none/\c=upd H T (.tup [.int i,y])/\∀b,SqL K H a b->b[i]? =some y,fun i H=>∃b,SqL K H a b/\b.length<=i⟩
theorem zcG{P:Program}{w:World}{K:W.Frag}{M:List Expr}{kk:Nat}{aj:Pos}(a e l:Addr)(G:e≠l) :
  ZE P w K (.Tuple M kk aj) (Ite K a) [e,l] e (fun i h=>(∃C,IsEnum h e l i C)/\h.IsListIter l a i) where
 mem:=by simp
 obj:=fun i h st b hb=>by
  obtain⟨⟨C,f⟩,⟨o,ho,c,d⟩⟩:=st;rcases qe.mp hb with z | z
  ·subst z;exact⟨_,f,fun v q=>nomatch q⟩
  ·rw[qD.mp z];exact⟨o,ho,fun v q=>by rw[d] at q;cases q⟩
 keep:=fun i h h' st k=>by
  obtain⟨⟨C,f⟩,hi⟩:=st;exact⟨⟨C,k e (by simp) _ f⟩,hi.at fun o q=>k l (by simp) o q⟩
 item:=by
  intro X hP hw hK hc i U s σ H E I hf st hg;subst hP hw hK;obtain⟨⟨C,f⟩,g⟩:=st;obtain⟨xs,x,hq,hx⟩:=hg;obtain⟨B,rv,p,hz⟩:=I.list hq;obtain⟨u,hu,ru⟩:=rv.get hx;have L:=p.isList;have N:a≠l:=fun z=>by
   obtain⟨o,e1,c1,_⟩:=L;obtain⟨o',e2,c2,_⟩:=g;rw[z,e2] at e1;cases e1;rw[c2] at c1;exact absurd (yK c1) (by decide)
  have aa:e≠a:=fun z=>by
   obtain⟨o,e1,c1,_⟩:=L;rw[<- z,f] at e1;cases e1;exact absurd (yK c1) (by decide)
  have D:=Draws.list (prog:=X.prog) (w:=X.w) (A:=X.A.in1) (I.ok.hd hc) l a N B.toArray;have hi:i<B.toArray.size:=by
   have h1:=(zC.mp hu).1;simpa using h1
  refine wpAny_pyNext_enum_itemD D f ⟨g,L⟩ hi G (by simp[G,aa]) fun x' h' tk a0 O Q Y am hk=>?_
  have ex:x'=u:=by
   have h2:B[i]? =some x':=by simpa using a0
   rw[hu] at h2;exact(jq h2).symm
  subst ex;refine⟨_,rfl,wpAny_letOwnedTupleGo_enum O fun h2 af J=>?_⟩
  have eT:s.heap.objs.size≠e:=xK (zH f);have k2:∀b o,b∉[e,l]->s.heap.get? b=some o->h2.get? b=some o:=fun b o hb q=>by
   have n1:b≠e:=fun z=>hb (by simp[z])
   have n2:b≠l:=fun z=>hb (by simp[z])
   exact(J.2 b n1).trans (hk b o n1 n2 q)
  have ai:h2.IsListIter l a (i+1):=Q.1.extBut J.extBut (z9 G);refine⟨.ref s.heap.objs.size,upd H s.heap.objs.size (.tup [.int i,x]),?_,rfl,⟨_,x,rfl,I.hok.fresh (zJ _),rfl,fun ys hy=>by rw[I.list_inj hy hq];exact hx⟩,⟨⟨_,by simpa using af⟩,ai⟩,fun b hb=>?_⟩
  ·refine QS (s:=s) (h':=h2) (t':=tk+1) (its:=[.int i tk,x']) I hf (zJ _) k2 (by rw[sizeLine_eq];exact(by decide:2<=16777216)) (.cons ⟨tk,rfl⟩ (.cons ru .nil)) (TupX.by ((J.2 _ eT).trans Y))
  ·have ab:b<s.heap.objs.size:=by
    rcases qe.mp hb with z | z
    ·rw[z];exact zH f
    ·rw[qD.mp z]
     obtain⟨o',e',_⟩:=g;exact zH e'
   rw[zp (qh ab)];exact(hf b hb).1
 done:=by
  intro X hP hw hK hc i U s σ H E I hf st hg;subst hP hw hK;obtain⟨⟨C,f⟩,g⟩:=st;obtain⟨xs,hq,hx⟩:=hg;obtain⟨B,rv,p,hz⟩:=I.list hq;have L:=p.isList;have N:a≠l:=fun z=>by
   obtain⟨o,e1,c1,_⟩:=L;obtain⟨o',e2,c2,_⟩:=g;rw[z,e2] at e1;cases e1;rw[c2] at c1;exact absurd (yK c1) (by decide)
  obtain⟨f0,f1,f2,f3,f4,f5⟩:=hf l (by simp)
  have ag:B.toArray.size<=i:=by
   have:=rv.length;simp only[zQ];omega
  have Y:s.TypeIs (.ref e) "enumerate" :=⟨_,f,rfl⟩;unfold pyNext;refine zg (wR (yJ (name:=Str.ofString "__next__") Y We (xS We Y F.entry_enumerate_next ?_ (F.args_enumerate_next_1 _))))
  show wpAny _ _ (field (.ref e) 2 >>= _) _ _ _;refine zg (vm f rfl (x:=.ref l) rfl (zg (wpAny_nextOf_list_end (I.ok.hd hc) g L (by simpa using ag) fun h' x ae ah=>?_)))
  obtain⟨o,ho,ac⟩:=ah;refine zg (Za (T:= "StopIteration") (b:=true) ⟨o,ho,ac⟩ isSubtype_stop ?_)
  exact zw ⟨rfl,I.turned (t':=s.toks) (fun b o hb q=>ae b o hb q) f0 f1 f3 f4 f5⟩
 self:=fun _ _ _ _ _ st h=>let ⟨⟨_,f⟩,_⟩:=st;wpAny_pyIter_enum f h
section
variable{X:Cx}
def zku(K:W.Frag)(c:TA):TI:=fun σ H R=>c σ H fun f b=>∃a,f=[.ref a]/\(∃g,SqL K b a g)/\R (Ite K a) b
theorem Vu{l:Expr}{D:TA}{p w tp:Pos}{f:List Expr}{T:Nat}(L:Gl X "enumerate")(N:X.mg "enumerate" = none)(J:PA X [l] D)(hs:starEach [l] X.env=[(false,eval l X.env)]:=by rfl) :
  PI X (.Tuple f T tp) (.Call (.Name "enumerate" p) [l] [] w) (zku X.K D):=by
 intro c s σ H R I h;refine Call_ (wc I L N boot_enumerate (JI (thn (J w c s σ H _ I h) fun us s1 ⟨vs,B,A,r1,Y⟩=>?_) hs rfl))
 obtain⟨a,e,⟨xs,hq⟩,q⟩:=Y;subst e;obtain⟨u,rfl,ru⟩:=wU r1;cases ru;obtain⟨Q,rv,U,hz⟩:=A.list hq;refine call_enumerate_list U.isList fun G C M O hk=>wpAny_pyIter_enum C ?_
 have E:Inv X c σ B { s1 with heap:=G }:=A.kept (t':=s1.toks) hk;refine⟨s1.heap.objs.size+1,[s1.heap.objs.size+1,s1.heap.objs.size],_,_,B,rfl,E,zcG a _ _ (Nat.succ_ne_self _),⟨⟨_,C⟩,M⟩,fun b hb=>?_,q⟩
 have g:s1.heap.objs.size<=b:=by
  rcases qe.mp hb with z | z
  ·rw[z];exact vt _
  ·rw[qD.mp z];exact zJ _
 exact A.fpOk g (A.hok.fresh g)
theorem Js{K:W.Frag}{a:Addr}{xs:List V}{g:TG}{A:TS}{D:Xr}{σ:St}{H:Hp}(Pv:Nat->St->Hp->Prop)(h0:Pv 0 σ H)(G:∀i σ H,i<=xs.length->Pv i σ H->SqL K H a xs)
  (hs:∀i x σ H T,xs[i]? =some x->Pv i σ H->H T=none->g (.ref T) σ (upd H T (.tup [.int i,x])) fun s f=>A { D with nx:=Pv (i+1),ct:=Pv (i+1),bk:=D.nx } s f) (C:∀σ H,Pv xs.length σ H->D.nx σ H) :
  ∃W:Nat->Nat->St->Hp->Prop,(∃m,W 0 m σ H)/\∀i m σ H,W i m σ H ->
   ((Ite K a).stop i H/\D.nx σ H)\/((Ite K a).go i H/\∃N:St->Hp->Prop,(∀l b,N l b->∃w,w<m/\W (i+1) w l b)/\∀x b,(Ite K a).yld i H x b->g x σ b fun s f=>A { D with nx:=N,ct:=N,bk:=D.nx } s f):=by
 refine⟨fun i m σ H=>m=xs.length-i/\i<=xs.length/\Pv i σ H,⟨xs.length,by simp,ji _,h0⟩,?_⟩
 rintro i m σ H ⟨rfl,E,p⟩;have q:=G i σ H E p;by_cases c:i<xs.length
 ·refine .inr ⟨⟨xs,xs[i],q,by simp[c]⟩,Pv (i+1),fun l b I=>⟨xs.length-(i+1),by omega,rfl,c,I⟩,fun x b y=>?_⟩
  obtain⟨T,z,e1,B,e2,y⟩:=y;subst e1 e2;exact hs i z σ H T (y xs q) p B
 ·have e:i=xs.length:=by omega
  subst e;exact .inl ⟨⟨xs,q,zJ _⟩,C σ H p⟩
inductive QL(K:W.Frag)(c:List V)(H:Hp)(Q:VK):Prop
 | mk (p:Addr) (b:List Bool) (_:c=[.ref p]) (_:SqL K H p (b.map V.bl)) (_:Q (.bl (b.all id)) H):QL K c H Q
theorem xY(hc:X.calm=true):jY X (.builtin "all") (QL X.K):=by
 intro M s σ H xs us Q I r h;obtain⟨p,c,rfl,hq,q⟩:=h;obtain⟨u,rfl,G⟩:=wU r;cases G;obtain⟨f,J,pl,hz⟩:=I.list hq;have D:=pl.isList;have E:p≠s.heap.objs.size:=by
  obtain⟨o,e,_⟩:=D;exact qh (zH e)
 refine call_all_walk (wpAny_pyIter_list D ?_)
 refine⟨s.heap.objs.size,_,_,_,_,_,fun i=>c.getD i true,rfl,JJ (prog:=X.prog) (w:=X.w) (A:=X.A.in1) (I.ok.hd hc) _ p E f.toArray,⟨⟨_,zW _ rfl,rfl,rfl⟩,D.push _⟩,?_,fun Y tk hk=>?_⟩
 ·intro i v s' O E' C hQ
  have C:f.toArray[i]? =some v:=C;have e1:f[i]? =some v:=by simpa using C
  have g:i<c.length:=by
   have h1:=(zC.mp e1).1;have h2:=J.length;rw[zn] at h2;omega
  have e2:(c.map V.bl)[i]? =some (.bl c[i]):=by simp[g]
  obtain⟨u',L,G⟩:=J.get e2;rw[e1] at L;cases L;cases G;have T:c.getD i true=c[i]:=by simp[g]
  have l:O (c.getD i true) s':=hQ;rw[T] at l;exact Zb l
 ·have k:∀b o,s.heap.get? b=some o->Y.get? b=some o:=fun b o e=>hk b o (by simp;exact qh (zH e)) (z7 _ e)
  have U:(List.range f.toArray.size).all (fun i=>c.getD i true)=c.all id:=by
   have B:f.toArray.size=c.length:=by
    have:=J.length;rw[zn] at this;simp only[zQ];omega
   rw[B,xw,vN,vN];constructor
   ·intro h b hb
    obtain⟨i,g,rfl⟩:=JV.mp hb;have:=h i (xR.mpr g);simpa [g] using this
   ·intro h i g
    have g:=xR.mp g;have:=h c[i] (vX g);simpa [g] using this
  exact⟨.bl (c.all id),H,I.kept k,by rw[U];rfl,q⟩
end
def SqK(K:W.Frag)(c:Bool)(H:Hp)(a:Addr)(b:List V):Prop:=match c with
 | true=>SqL K H a b
 | false=>SqT K H a b
def SeqK(c:Bool)(h:Heap)(a:Addr)(b:Array Value):Prop:=match c with
 | true=>h.IsList a b
 | false=>h.IsTuple a b
def ItrK(c:Bool)(h:Heap)(b a:Addr)(i:Nat):Prop:=match c with
 | true=>h.IsListIter b a i
 | false=>h.IsTupleIter b a i
theorem SeqK.at{kd:Bool}{h c:Heap}{a:Addr}{b:Array Value}(x:SeqK kd h a b)(k:∀o,h.get? a=some o->c.get? a=some o):SeqK kd c a b:=by
 cases kd with
 | true=>exact Heap.IsList.at x k
 | false=>obtain⟨o,e,r⟩:=(show h.IsTuple a b from x);exact⟨o,k o e,r⟩
theorem ItrK.at{kd:Bool}{h c:Heap}{b a:Addr}{i:Nat}(x:ItrK kd h b a i)(k:∀o,h.get? b=some o->c.get? b=some o):ItrK kd c b a i:=by
 cases kd with
 | true=>exact Heap.IsListIter.at x k
 | false=>obtain⟨o,e,r⟩:=(show h.IsTupleIter b a i from x);exact⟨o,k o e,r⟩
theorem ItrK.obj{f:Bool}{h:Heap}{b a:Addr}{i:Nat}(x:ItrK f h b a i):∃o,h.get? b=some o/\(o.cls=.type "list_iterator" \/ o.cls=.type "tuple_iterator")/\∀v,o.data≠.cell v:=by
 cases f with
 | true=>obtain⟨o,e,c,d⟩:=(show h.IsListIter b a i from x);exact⟨o,e,.inl c,fun v q=>by rw[d] at q;cases q⟩
 | false=>obtain⟨o,e,c,d⟩:=(show h.IsTupleIter b a i from x);exact⟨o,e,.inr c,fun v q=>by rw[d] at q;cases q⟩
theorem SeqK.cls{f:Bool}{h:Heap}{a:Addr}{b:Array Value}(x:SeqK f h a b):∃o,h.get? a=some o/\(o.cls=.type "list" \/ o.cls=.type "tuple")/\∃n,o.data=.seq b n:=by
 cases f with
 | true=>obtain⟨o,e,c,n,d⟩:=(show h.IsList a b from x);exact⟨o,e,.inl c,n,d⟩
 | false=>obtain⟨o,e,c,n,d⟩:=(show h.IsTuple a b from x);exact⟨o,e,.inr c,n,d⟩
section
variable{l:Program}{w:World}{A:Around}{E:Value->Shared->Prop}{s:Shared}
theorem wI{kd:Bool}{c a:Addr}{i:Nat}{f:Array Value}{x:Value}{Q:Value->Shared->Prop}(I:ItrK kd s.heap c a i)(J:SeqK kd s.heap a f)(hx:f[i]? =some x)
  (H:∀C,ItrK kd C c a (i+1)->Heap.SameBut c s.heap C->Q x { s with heap:=C }):wpAny (model l w) A (Builtin.SmallTypes.nextOf (.ref c)) Q E s:=by
 cases kd with
 | true=>exact wpAny_nextOf_list_item I J hx H
 | false=>
  have b:s.heap.IsTupleIter c a i:=I;obtain⟨o,B,hc,g⟩:=id b;obtain⟨M,G,_,nl,D⟩:=(show s.heap.IsTuple a f from J)
  unfold Builtin.SmallTypes.nextOf;refine zg (yJ (name:=Str.ofString "__next__") b.typeIs Wn (xS Wn b.typeIs zfz ?_ (zfC _)))
  show wpAny _ _ (field (.ref c) 0 >>= _) _ _ _;refine zg (vm B g (x:=.ref a) rfl ?_)
  show wpAny _ _ (if(Value.ref a==Value.none)=true then _ else _) _ _ _;rw[zu (show ¬((Value.ref a==Value.none)=true) from qR)]
  show wpAny _ _ (field (.ref c) 1 >>= _) _ _ _;refine zg (vm B g (x:=.int i 0) rfl ?_)
  show wpAny _ _ (seqItems? (.ref a) >>= _) _ _ _;refine zg (vW G D ?_);simp only[jR,hx]
  refine zg (wg B g (by simp) (zw ⟨x,rfl,zw (H _ (show Heap.IsTupleIter _ _ _ _ from ?_) (Zc ..))⟩))
  refine⟨_,vY _ B (zaP (JT g _)),(zaH ..).trans hc,?_⟩;rw[JT g];simp[rawInt]
theorem yU{kd:Bool}{f a:Addr}{i:Nat}{c:Array Value}{Q:Value->Shared->Prop}(D:A.handled=none)(J:ItrK kd s.heap f a i)(L:SeqK kd s.heap a c)(hx:c[i]? =none)
  (I:∀g e,Heap.ExtBut f s.heap g->(∃o,g.get? e=some o/\o.cls=.type "StopIteration")->E (.ref e) { s with heap:=g }):wpAny (model l w) A (Builtin.SmallTypes.nextOf (.ref f)) Q E s:=by
 cases kd with
 | true=>exact wpAny_nextOf_list_end D J L hx I
 | false=>
  have b:s.heap.IsTupleIter f a i:=J;obtain⟨o,G,hc,B⟩:=id b;obtain⟨N,H,_,nl,C⟩:=(show s.heap.IsTuple a c from L)
  unfold Builtin.SmallTypes.nextOf;refine zg (yJ (name:=Str.ofString "__next__") b.typeIs Wn (xS Wn b.typeIs zfz ?_ (zfC _)))
  show wpAny _ _ (field (.ref f) 0 >>= _) _ _ _;refine zg (vm G B (x:=.ref a) rfl ?_)
  show wpAny _ _ (if(Value.ref a==Value.none)=true then _ else _) _ _ _;rw[zu (show ¬((Value.ref a==Value.none)=true) from qR)]
  show wpAny _ _ (field (.ref f) 1 >>= _) _ _ _;refine zg (vm G B (x:=.int i 0) rfl ?_)
  show wpAny _ _ (seqItems? (.ref a) >>= _) _ _ _;refine zg (vW H C ?_);simp only[jR,hx]
  refine zg (vv (zg (wg G B (by simp) ?_)));show wpAny _ _ (newExc (.type "StopIteration") [] >>= _) _ _ _
  refine zg ?_;simp only[newExc,newTuple];refine zg (xc ?_ (by size_fits))
  refine zg (m:=firstArgMember _ _) (wQ (a:=Value.none) (by first| rfl | (simp only[firstArgMember];rfl)) (xc ?_ (by size_fits)))
  simp only[raiseNew];refine zg (wpAny_handled ?_);first| rw[show A.in1.handled=none from D] | rw[D]
  exact zg (zw (Zs (I _ _ (((Zc ..).extBut.push _).push _) ⟨_,zW _ rfl,rfl⟩)))
structure Ve(k1 k2:Bool)(h:Heap)(z TI TO i1 i2 a1 a2:Addr)(i:Nat):Prop where
 zz:IsZip h z TI TO .none
 ti:IsPair h TI (.ref i1) (.ref i2)
 to:∃a b,IsPair h TO a b
 r1:ItrK k1 h i1 a1 i
 r2:ItrK k2 h i2 a2 i
structure zb8(z TI TO i1 i2:Addr):Prop where
 a:TI≠z
 b:TO≠z
 c:i1≠z
 d:i2≠z
 e:TI≠TO
 f:TI≠i1
 g:TI≠i2
 h:TO≠i1
 i:TO≠i2
 j:i1≠i2
theorem zb9{k1 k2:Bool}{z TI TO B I a1 a2:Addr}{i:Nat}{xs ys:Array Value}{x y:Value}{Q:Option Value->Shared->Prop}(N:zb8 z TI TO B I)(Z:Ve k1 k2 s.heap z TI TO B I a1 a2 i)
  (l1:SeqK k1 s.heap a1 xs) (l2:SeqK k2 s.heap a2 ys) (m1:∀b∈[z,TO,B,I],a1≠b) (m2:∀b∈[z,TO,B,I],a2≠b) (hx:xs[i]? =some x) (hy:ys[i]? =some y)
  (hQ:∀J,IsZip J z TI TO (rawInt s.heap.objs.size)->IsPair J TI (.ref B) (.ref I)->(∃a b,IsPair J TO a b)->ItrK k1 J B a1 (i+1)->ItrK k2 J I a2 (i+1)->IsPair J s.heap.objs.size x y->J.objs.size=s.heap.objs.size+1 ->
   (∀c o,c∉[z,TO,B,I]->s.heap.get? c=some o->J.get? c=some o)->Q (some (.ref s.heap.objs.size)) { s with heap:=J }):wpAny (model l w) A (pyNext (.ref z)) Q E s:=by
 obtain⟨hz,af,⟨a,b,aj⟩,h1,h2⟩:=Z;have hT:s.TypeIs (.ref z) "zip" :=⟨_,hz,rfl⟩;unfold pyNext;refine zg (wR (yJ (name:=Str.ofString "__next__") hT V0 (xS V0 hT F.entry_zip_next ?_ (F.args_zip_next_1 _))))
 show wpAny _ _ (field (.ref z) 2 >>= _) _ _ _;refine zg (vm hz rfl (x:=.bool false) rfl ?_)
 show wpAny _ _ (field (.ref z) 3 >>= _) _ _ _;refine zg (vm hz rfl (x:=.ref TI) rfl (zg (vW af rfl ?_)))
 show wpAny _ _ (Builtin.SmallTypes.ownedTupleIsFree (.ref z) >>= _) _ _ _;refine zg ?_
 unfold Builtin.SmallTypes.ownedTupleIsFree;refine zg (vm hz rfl (x:=.none) rfl (zw ?_));simp only[if_true]
 refine zg (vv (zg (vm hz rfl (x:=.ref TO) rfl (zg (Qt hz (by simp) fun g1 ab D=>?_)))))
 replace ab:IsZip g1 z TI TO .ellipsis:=ab
 refine zg ?_;simp only[List.zipIdx_cons,List.zipIdx_nil,V1,zas]
 refine zg (zg (wpAny_onRaise ?_));show wpAny _ _ (Builtin.SmallTypes.nextOf (.ref B) >>= _) _ _ _
 refine zg (wI (h1.at fun o e=>D.extBut _ o N.c e) (l1.at fun o e=>D.extBut _ o (m1 z (by simp)) e) hx fun g2 ah L=>zw ?_)
 have T:IsPair g2 TO a b:=L.extBut _ _ N.h (D.extBut _ _ N.b aj);refine zg (vW T rfl (zg (wpAny_updateSeq_pair T fun g3 C M=>?_)))
 replace C:IsPair g3 TO x b:=C
 refine zg (Zr (zw ?_));refine zg (zg (wpAny_onRaise ?_));show wpAny _ _ (Builtin.SmallTypes.nextOf (.ref I) >>= _) _ _ _
 have Y:∀c o,c∉[z,TO,B]->s.heap.get? c=some o->g3.get? c=some o:=fun c o hc e=>M.extBut _ o (fun q=>hc (by simp[q])) (L.extBut _ o (fun q=>hc (by simp[q])) (D.extBut _ o (fun q=>hc (by simp[q])) e))
 refine zg (wI (h2.at fun o e=>Y _ o (by simp[N.d,z9 N.i,z9 N.j]) e) (l2.at fun o e=>Y _ o (by simp[m2 z (by simp),m2 TO (by simp),m2 B (by simp)]) e) hy fun g4 ai G=>zw ?_)
 have U:IsPair g4 TO x b:=G.extBut _ _ N.i C;refine zg (vW U rfl (zg (wpAny_updateSeq_pair U fun f g H=>?_)))
 replace g:IsPair f TO x y:=g
 refine zg (Zr (zw (zw (zg (vW g rfl (zg (wpAny_newTuple ?_)))))))
 have zs:f.objs.size=s.heap.objs.size:=by rw[H.1,G.1,M.1,L.1,D.1]
 have ag:IsZip f z TI TO .ellipsis:=H.extBut _ _ (z9 N.b) (G.extBut _ _ (z9 N.d) (M.extBut _ _ (z9 N.b) (L.extBut _ _ (z9 N.c) ab)));have k5:∀c o,c∉[z,TO,B,I]->s.heap.get? c=some o->f.get? c=some o:=fun c o hc e=>H.extBut _ o (fun q=>hc (by simp[q])) (G.extBut _ o (fun q=>hc (by simp[q])) (Y c o (fun q=>hc (by simp at q ⊢;rcases q with q | q | q<;>simp[q])) e))
 have r1:ItrK k1 f B a1 (i+1):=ah.at fun o e=>H.extBut _ o (z9 N.h) (G.extBut _ o N.j (M.extBut _ o (z9 N.h) e))
 have r2:ItrK k2 f I a2 (i+1):=ai.at fun o e=>H.extBut _ o (z9 N.i) e
 have zl:z<f.objs.size:=zH ag;show wpAny _ _ (Builtin.SmallTypes.ownedTupleHandOut (.ref z) (.ref f.objs.size) >>= _) _ _ _;refine zg ?_;unfold Builtin.SmallTypes.ownedTupleHandOut
 have ak:IsZip (f.push { cls:=.type "tuple",data:=.seq #[x,y] }) z TI TO .ellipsis:=z7 _ ag;refine zg (Qt ak (by simp) fun g7 ac a0=>?_)
 replace ac:IsZip g7 z TI TO (rawInt f.objs.size):=ac
 refine Qt ac (by simp) fun g8 O aa=>?_
 replace O:IsZip g8 z TI TO (rawInt f.objs.size):=O
 have up:∀c o,c≠z->f.get? c=some o->g8.get? c=some o:=fun c o c1 e=>aa.extBut _ o c1 (a0.extBut _ o c1 (z7 _ e))
 have ae:IsPair g8 f.objs.size x y:=aa.extBut _ _ (xK zl) (a0.extBut _ _ (xK zl) (zW _ rfl));have z8:g8.objs.size=f.objs.size+1:=by rw[aa.1,a0.1,jV]
 rw[zs] at O ae z8;refine zw ⟨_,rfl,zw ?_⟩;show Q (some (.ref f.objs.size)) _;rw[zs]
 exact hQ g8 O (up _ _ N.a (k5 _ _ (by simp[N.a,N.e,N.f,N.g]) af)) ⟨_,_,up _ _ N.b g⟩ (r1.at fun o e=>up _ o N.c e) (r2.at fun o e=>up _ o N.d e) ae z8 fun c o hc e=>up c o (fun q=>hc (by simp[q])) (k5 c o hc e)
theorem zdu{k1 k2:Bool}{z TI TO I M a1 a2:Addr}{i:Nat}{xs ys:Array Value}{Q:Option Value->Shared->Prop}(hh:A.handled=none)(N:zb8 z TI TO I M)(Z:Ve k1 k2 s.heap z TI TO I M a1 a2 i)
  (l1:SeqK k1 s.heap a1 xs) (l2:SeqK k2 s.heap a2 ys) (m1:∀b∈[z,TO,I,M],a1≠b) (m2:∀b∈[z,TO,I,M],a2≠b) (O:xs[i]? =none\/ys[i]? =none)
  (hQ:∀h',(∀c o,c∉[z,TO,I,M]->s.heap.get? c=some o->h'.get? c=some o)->Q none { s with heap:=h' }):wpAny (model l w) A (pyNext (.ref z)) Q E s:=by
 obtain⟨hz,ab,⟨a,b,ac⟩,h1,h2⟩:=Z;have hT:s.TypeIs (.ref z) "zip" :=⟨_,hz,rfl⟩;unfold pyNext;refine zg (wR (yJ (name:=Str.ofString "__next__") hT V0 (xS V0 hT F.entry_zip_next ?_ (F.args_zip_next_1 _))))
 show wpAny _ _ (field (.ref z) 2 >>= _) _ _ _;refine zg (vm hz rfl (x:=.bool false) rfl ?_)
 show wpAny _ _ (field (.ref z) 3 >>= _) _ _ _;refine zg (vm hz rfl (x:=.ref TI) rfl (zg (vW ab rfl ?_)))
 show wpAny _ _ (Builtin.SmallTypes.ownedTupleIsFree (.ref z) >>= _) _ _ _;refine zg ?_
 unfold Builtin.SmallTypes.ownedTupleIsFree;refine zg (vm hz rfl (x:=.none) rfl (zw ?_));simp only[if_true]
 refine zg (vv (zg (vm hz rfl (x:=.ref TO) rfl (zg (Qt hz (by simp) fun g1 G g=>?_)))))
 replace G:IsZip g1 z TI TO .ellipsis:=G
 refine zg ?_;simp only[List.zipIdx_cons,List.zipIdx_nil,V1,zas]
 refine zg (zg (wpAny_onRaise ?_));show wpAny _ _ (Builtin.SmallTypes.nextOf (.ref I) >>= _) _ _ _
 cases hx:xs[i]? with
 | none=>
  refine zg (yU hh (h1.at fun o e=>g.extBut _ o N.c e) (l1.at fun o e=>g.extBut _ o (m1 z (by simp)) e) hx fun g2 e B he=>?_)
  obtain⟨oe,f,C⟩:=he;have a0:IsZip g2 z TI TO .ellipsis:=B _ _ (z9 N.c) G;have L:e≠z:=fun q=>by subst q;rw[a0] at f;cases f;exact absurd (yK C) (by decide)
  refine Qt a0 (by simp) fun g3 ah D=>?_
  refine zg (Za (T:= "StopIteration") (b:=true) ⟨oe,D.extBut _ _ L f,C⟩ isSubtype_stop (zw (hQ _ fun c o hc q=>?_)))
  exact D.extBut _ o (fun q=>hc (by simp[q])) (B _ o (fun q=>hc (by simp[q])) (g.extBut _ o (fun q=>hc (by simp[q])) q))
 | some x=>
  have hy:ys[i]? =none:=by rcases O with q | q;rw[hx] at q;cases q;exact q
  refine zg (wI (h1.at fun o e=>g.extBut _ o N.c e) (l1.at fun o e=>g.extBut _ o (m1 z (by simp)) e) hx fun g2 ag B=>zw ?_)
  have H:IsPair g2 TO a b:=B.extBut _ _ N.h (g.extBut _ _ N.b ac);refine zg (vW H rfl (zg (wpAny_updateSeq_pair H fun g3 ae D=>?_)))
  have J:∀c o,c∉[z,TO,I]->s.heap.get? c=some o->g3.get? c=some o:=fun c o hc e=>D.extBut _ o (fun q=>hc (by simp[q])) (B.extBut _ o (fun q=>hc (by simp[q])) (g.extBut _ o (fun q=>hc (by simp[q])) e))
  refine zg (Zr (zw ?_));refine zg (zg (wpAny_onRaise ?_));show wpAny _ _ (Builtin.SmallTypes.nextOf (.ref M) >>= _) _ _ _
  refine zg (yU hh (h2.at fun o e=>J _ o (by simp[N.d,z9 N.i,z9 N.j]) e) (l2.at fun o e=>J _ o (by simp[m2 z (by simp),m2 TO (by simp),m2 I (by simp)]) e) hy fun g4 e U he=>?_)
  obtain⟨oe,f,C⟩:=he;have aa:IsZip g4 z TI TO .ellipsis:=U _ _ (z9 N.d) (D.extBut _ _ (z9 N.b) (B.extBut _ _ (z9 N.c) G));have L:e≠z:=fun q=>by subst q;rw[aa] at f;cases f;exact absurd (yK C) (by decide)
  refine Qt aa (by simp) fun g5 ai Y=>?_
  refine zg (Za (T:= "StopIteration") (b:=true) ⟨oe,Y.extBut _ _ L f,C⟩ isSubtype_stop (zw (hQ _ fun c o hc q=>?_)))
  exact Y.extBut _ o (fun q=>hc (by simp[q])) (U _ o (fun q=>hc (by simp[q])) (J c o (fun q=>hc (by simp at q ⊢;rcases q with q | q | q<;>simp[q])) q))
abbrev zh(h:Heap)(b c:Obj):Heap:=((((h.push b).push c).push { cls:=.type "tuple",data:=.seq #[.ref h.objs.size,.ref (h.push b).objs.size] }).push { cls:=.type "tuple",data:=.seq #[.none,.none] }).push
 { cls:=.type "zip",data:=.fields #[.none,.bool false,.bool false,.ref ((h.push b).push c).objs.size,.ref (((h.push b).push c).push { cls:=.type "tuple",data:=.seq #[.ref h.objs.size,.ref (h.push b).objs.size] }).objs.size] }
theorem ziX{G H:Bool}{a1 a2:Addr}{h:Heap}{b f:Obj}(O:∀g:Heap,g.get? h.objs.size=some b->ItrK G g h.objs.size a1 0)(Q:∀(g:Heap) (n:Addr),g.get? n=some f->ItrK H g n a2 0)(M:b.isFreed=false)(N:f.isFreed=false) :
  Ve G H (zh h b f) (h.objs.size+4) (h.objs.size+2) (h.objs.size+3) h.objs.size (h.objs.size+1) a1 a2 0/\(∀c o,h.get? c=some o->(zh h b f).get? c=some o)/\(zh h b f).objs.size=h.objs.size+5:=by
 have B:(h.push b).objs.size=h.objs.size+1:=jV ..;have C:((h.push b).push f).objs.size=h.objs.size+2:=by rw[jV,B]
 have D:(((h.push b).push f).push { cls:=.type "tuple",data:=.seq #[.ref h.objs.size,.ref (h.push b).objs.size] }).objs.size=h.objs.size+3:=by rw[jV,C]
 have L:((((h.push b).push f).push { cls:=.type "tuple",data:=.seq #[.ref h.objs.size,.ref (h.push b).objs.size] }).push { cls:=.type "tuple",data:=.seq #[.none,.none] }).objs.size=h.objs.size+4:=by rw[jV,D]
 have J:(zh h b f).get? (h.objs.size+4)=some _:=L▸zW _ rfl;have Y:(zh h b f).get? (h.objs.size+3)=some _:=D▸z7 _ (zW _ rfl);have I:(zh h b f).get? (h.objs.size+2)=some _:=C▸z7 _ (z7 _ (zW _ rfl));have U:(zh h b f).get? (h.objs.size+1)=some f:=B▸z7 _ (z7 _ (z7 _ (zW _ N)));have T:(zh h b f).get? h.objs.size=some b:=z7 _ (z7 _ (z7 _ (z7 _ (zW _ M))));rw[C,D] at J;rw[B] at I;exact⟨⟨J,I,⟨_,_,Y⟩,O _ T,Q _ _ U⟩,fun c o e=>z7 _ (z7 _ (z7 _ (z7 _ (z7 _ e)))),by rw[jV,L]⟩
theorem zdt{k1 k2:Bool}{a1 a2:Addr}{xs ys:Array Value} :
  PySem.Meets (Builtin.«zip.__new__» ⟨[.type "zip",.ref a1,.ref a2],[]⟩) (fun _ R s=>SeqK k1 s.heap a1 xs/\SeqK k2 s.heap a2 ys /\
   ∀M,Ve k1 k2 M (s.heap.objs.size+4) (s.heap.objs.size+2) (s.heap.objs.size+3) s.heap.objs.size (s.heap.objs.size+1) a1 a2 0->(∀c o,s.heap.get? c=some o->M.get? c=some o)->M.objs.size=s.heap.objs.size+5->R (.ok (.ret (.ref (s.heap.objs.size+4)))) { s with heap:=M }):=
 .of_wp fun l w A R s hq=>by
  obtain⟨b,g,d,H,os⟩:=s;obtain⟨L,D,T⟩:=hq;have N:=sub_zip;have f:∀{G I:Obj},(∀g:Heap,g.get? b.objs.size=some G->ItrK k1 g b.objs.size a1 0)->(∀(g:Heap) (n:Addr),g.get? n=some I->ItrK k2 g n a2 0)->G.isFreed=false->I.isFreed=false ->
    R (.ok (.ret (.ref ((((b.push G).push I).push { cls:=.type "tuple",data:=.seq #[.ref b.objs.size,.ref (b.push G).objs.size] }).push { cls:=.type "tuple",data:=.seq #[.none,.none] }).objs.size))) ⟨zh b G I,g,d,H,os⟩:=fun {G I} U Y O Q=>by
   obtain⟨A,B,C⟩:=ziX U Y O Q;have e:((((b.push G).push I).push { cls:=.type "tuple",data:=.seq #[.ref b.objs.size,.ref (b.push G).objs.size] }).push { cls:=.type "tuple",data:=.seq #[.none,.none] }).objs.size=b.objs.size+4:=by
    rw[jV,jV,jV,jV]
   rw[e];exact T _ A B C
  cases k1 with
  | true=>
   have J:Heap.IsList (Shared.heap ⟨b,g,d,H,os⟩) a1 xs:=L;cases k2 with
   | true=>
    have L2:Heap.IsList (Shared.heap ⟨b.push { cls:=.type "list_iterator",data:=.fields #[.ref a1,.int 0 0] },g,d,H,os⟩) a2 ys:=Heap.IsList.push D _;wp_walk using wpAny_pyIter_list J,wpAny_pyIter_list L2
    exact⟨_,rfl,f (fun g e=>⟨_,e,rfl,rfl⟩) (fun g n e=>⟨_,e,rfl,rfl⟩) rfl rfl⟩
   | false=>
    have L2:Heap.IsTuple (Shared.heap ⟨b.push { cls:=.type "list_iterator",data:=.fields #[.ref a1,.int 0 0] },g,d,H,os⟩) a2 ys:=Heap.IsTuple.push D _;wp_walk using wpAny_pyIter_list J,wpAny_pyIter_tuple L2
    exact⟨_,rfl,f (fun g e=>⟨_,e,rfl,rfl⟩) (fun g n e=>⟨_,e,rfl,rfl⟩) rfl rfl⟩
  | false=>
   have J:Heap.IsTuple (Shared.heap ⟨b,g,d,H,os⟩) a1 xs:=L;cases k2 with
   | true=>
    have L2:Heap.IsList (Shared.heap ⟨b.push { cls:=.type "tuple_iterator",data:=.fields #[.ref a1,.int 0 0] },g,d,H,os⟩) a2 ys:=Heap.IsList.push D _;wp_walk using wpAny_pyIter_tuple J,wpAny_pyIter_list L2
    exact⟨_,rfl,f (fun g e=>⟨_,e,rfl,rfl⟩) (fun g n e=>⟨_,e,rfl,rfl⟩) rfl rfl⟩
   | false=>
    have L2:Heap.IsTuple (Shared.heap ⟨b.push { cls:=.type "tuple_iterator",data:=.fields #[.ref a1,.int 0 0] },g,d,H,os⟩) a2 ys:=Heap.IsTuple.push D _;wp_walk using wpAny_pyIter_tuple J,wpAny_pyIter_tuple L2
    exact⟨_,rfl,f (fun g e=>⟨_,e,rfl,rfl⟩) (fun g n e=>⟨_,e,rfl,rfl⟩) rfl rfl⟩
theorem zdi{f g:Bool}{a1 a2:Addr}{C D:Array Value}{Q:Value->Shared->Prop}(h1:SeqK f s.heap a1 C)(h2:SeqK g s.heap a2 D)
  (h:∀b,Ve f g b (s.heap.objs.size+4) (s.heap.objs.size+2) (s.heap.objs.size+3) s.heap.objs.size (s.heap.objs.size+1) a1 a2 0->(∀c o,s.heap.get? c=some o->b.get? c=some o)->b.objs.size=s.heap.objs.size+5 ->
   Q (.ref (s.heap.objs.size+4)) { s with heap:=b }):wpAny (model l w) A (call (.type "zip") [.ref a1,.ref a2]) Q E s:=by
 refine callType_new F.called_zip (by decide) (F.typeCall_zip_2 _ _) (F.newCall_zip_2 _ _) (fun B=>F.args_object_init_3 B _ _) F.entry_zip_new (zdt (k1:=f) (k2:=g) (xs:=C) (ys:=D)) ⟨h1,h2,fun b Z k z=>?_⟩
 exact⟨⟨_,Z.zz,rfl⟩,h b Z k z⟩
end
theorem Inv.seqK{X:Cx}{c:List (Addr×Obj)}{σ:St}{H:Hp}{s:Shared}{f:Bool}{a:Addr}{g:List V}(I:Inv X c σ H s)(h:SqK X.K f H a g):∃b:List Value,Vals g b/\SeqK f s.heap a b.toArray/\g.length<=sizeLine:=by
 cases f with
 | true=>obtain⟨b,r,p,z⟩:=I.list h;exact⟨b,r,p.isList,z⟩
 | false=>obtain⟨b,r,p,z⟩:=I.tuple h;exact⟨b,r,p,z⟩
theorem Inv.seqK_inj{X:Cx}{b:List (Addr×Obj)}{σ:St}{H:Hp}{s:Shared}{c:Bool}{a:Addr}{g l:List V}(I:Inv X b σ H s)(h:SqK X.K c H a g)(f:SqK X.K c H a l):g=l:=by
 cases c with
 | true=>exact I.list_inj h f
 | false=>exact I.tuple_inj h f
theorem SqK.ne_fp{X:Cx}{c:List (Addr×Obj)}{σ:St}{H:Hp}{s:Shared}{w:Bool}{a b:Addr}{g:List V}(I:Inv X c σ H s)(h:SqK X.K w H a g)(f:xo X c H b):a≠b:=fun z=>by
 have A:∀o,X.K.lookup a=some o->False:=fun o e=>by
  have l:=I.mod.kin a o e;rcases f.2.2.2.1 with q | q
  ·exact I.ok.noex a o l (by rw[z];exact q)
  ·have:=zH (I.ok.bs a o l).1
   rw[z] at this;exact vw _ (xj this q)
 cases w with
 | true=>
  rcases(show SqL X.K H a g from h) with(q | ⟨o,q⟩) | ⟨o,_,_,q,_⟩
  ·rw[z,f.1] at q;cases q
  ·rw[z,f.1] at q;cases q
  ·exact A o q
 | false=>
  rcases(show SqT X.K H a g from h) with(q | ⟨o,q⟩) | ⟨o,_,_,q,_⟩
  ·rw[z,f.1] at q;cases q
  ·rw[z,f.1] at q;cases q
  ·exact A o q
def Itz(K:W.Frag)(f g:Bool)(a1 a2:Addr):It:=
 ⟨fun i H=>∃b c x y,SqK K f H a1 b/\SqK K g H a2 c/\b[i]? =some x/\c[i]? =some y,
  fun i H x l=>∃T u v,x=.ref T/\H T=none/\l=upd H T (.tup [u,v])/\(∀b,SqK K f H a1 b->b[i]? =some u)/\∀c,SqK K g H a2 c->c[i]? =some v,
  fun i H=>∃b c,SqK K f H a1 b/\SqK K g H a2 c/\(b.length<=i\/c.length<=i)⟩
theorem zdy{P:Program}{w:World}{K:W.Frag}{L:List Expr}{kk:Nat}{ag:Pos}{k1 k2:Bool}{a1 a2 z TI TO B C:Addr}(N:zb8 z TI TO B C) :
  ZE P w K (.Tuple L kk ag) (Itz K k1 k2 a1 a2) [z,TI,TO,B,C] z (fun i h=>Ve k1 k2 h z TI TO B C a1 a2 i) where
 mem:=by simp
 obj:=fun i h Z b hb=>by
  obtain⟨a,T,q⟩:=Z.to;have e1:=Z.r1.obj;have e2:=Z.r2.obj;simp only[qe,Zz,or_false] at hb;rcases hb with r | r | r | r | r
  ·subst r;exact⟨_,Z.zz,fun v q=>nomatch q⟩
  ·subst r;exact⟨_,Z.ti,fun v q=>nomatch q⟩
  ·subst r;exact⟨_,q,fun v q=>nomatch q⟩
  ·subst r;obtain⟨o,e,_,d⟩:=e1;exact⟨o,e,d⟩
  ·subst r;obtain⟨o,e,_,d⟩:=e2;exact⟨o,e,d⟩
 keep:=fun i h J Z k=>by
  obtain⟨a,T,q⟩:=Z.to;exact⟨k _ (by simp) _ Z.zz,k _ (by simp) _ Z.ti,⟨a,T,k _ (by simp) _ q⟩,Z.r1.at fun o e=>k _ (by simp) o e,Z.r2.at fun o e=>k _ (by simp) o e⟩
 item:=by
  intro X Y hw U hc i Q s σ H E I A Z hg;subst Y hw U;obtain⟨xs,ys,x,y,f,g,hx,hy⟩:=hg;obtain⟨M,D,p1,ae⟩:=I.seqK f;obtain⟨O,G,p2,af⟩:=I.seqK g;obtain⟨u1,ab,ah⟩:=D.get hx;obtain⟨u2,ac,ai⟩:=G.get hy;have sub:∀b∈[z,TO,B,C],b∈[z,TI,TO,B,C]:=fun b hb=>by
   simp only[qe,Zz,or_false] at hb ⊢;rcases hb with r | r | r | r<;>simp[r]
  refine zb9 N Z p1 p2 (fun b hb=>f.ne_fp I (A b (sub b hb))) (fun b hb=>g.ne_fp I (A b (sub b hb))) (by simpa using ab) (by simpa using ac) fun h1 zz ti to r1 r2 hT ak hk=>?_
  refine⟨_,rfl,wpAny_letOwnedTupleGo_zip zz fun h2 aj l=>?_⟩
  have zl:z<s.heap.objs.size:=zH Z.zz;obtain⟨ta,tb,to⟩:=to;refine⟨.ref s.heap.objs.size,upd H s.heap.objs.size (.tup [x,y]),?_,rfl,⟨_,x,y,rfl,I.hok.fresh (zJ _),rfl,fun am J=>by rw[I.seqK_inj J f];exact hx,fun an J=>by rw[I.seqK_inj J g];exact hy⟩,
   ⟨aj,l.extBut _ _ N.a ti,⟨ta,tb,l.extBut _ _ N.b to⟩,r1.at fun o e=>l.extBut _ o N.c e,r2.at fun o e=>l.extBut _ o N.d e⟩,fun b hb=>?_⟩
  ·exact QS (s:=s) (h':=h2) (t':=s.toks) (ch:=[z,TO,B,C]) (its:=[u1,u2]) I (fun b hb=>A b (sub b hb)) (zJ _) (fun b o hb e=>l.extBut _ o (fun q=>hb (by simp[q])) (hk b o hb e)) (by rw[sizeLine_eq];exact(by decide:2<=16777216)) (.cons ah (.cons ai .nil))
    (TupX.by (l.extBut _ _ (xK zl) hT))
  ·have a0:b<s.heap.objs.size:=by
    have e1:=Z.r1.obj;have e2:=Z.r2.obj;obtain⟨a,T,q⟩:=Z.to;simp only[qe,Zz,or_false] at hb;rcases hb with r | r | r | r | r
    ·subst r;exact zl
    ·subst r;exact zH Z.ti
    ·subst r;exact zH q
    ·subst r;obtain⟨o,e,_⟩:=e1;exact zH e
    ·subst r;obtain⟨o,e,_⟩:=e2;exact zH e
   rw[zp (qh a0)];exact(A b hb).1
 done:=by
  intro X Y hw U hc i Q s σ H E I A Z hg;subst Y hw U;obtain⟨xs,ys,f,g,aa⟩:=hg;obtain⟨M,D,p1,ae⟩:=I.seqK f;obtain⟨O,G,p2,af⟩:=I.seqK g;have sub:∀b∈[z,TO,B,C],b∈[z,TI,TO,B,C]:=fun b hb=>by
   simp only[qe,Zz,or_false] at hb ⊢;rcases hb with r | r | r | r<;>simp[r]
  have tr:∀b u,H b=some u->b∉[z,TO,B,C]:=fun b u e hb=>by rw[(A b (sub b hb)).1] at e;cases e
  refine zdu (I.ok.hd hc) N Z p1 p2 (fun b hb=>f.ne_fp I (A b (sub b hb))) (fun b hb=>g.ne_fp I (A b (sub b hb))) ?_ fun J hk=>⟨rfl,?_⟩
  ·have l1:=D.length
   have l2:=G.length;rcases aa with q | q
   ·exact .inl (by simp;omega)
   ·exact .inr (by simp;omega)
  ·refine I.step (g':=s.gens) (d':=s.drawn) (t':=s.toks) (ch:=[z,TO,B,C]) (fun b hb=>?_) (fun b o _ _ hc e _=>hk b o hc e) (fun b o _ _ hc e _=>⟨o.slots,hk b o hc e⟩) (fun _ _ _ _ n=>n) (fun b o hc e=>⟨o,hk b o hc e⟩)
    (fun _ _ e=>e) (fun _ _ _ e=>e) (fun b ps e=>⟨#[],by rw[e];simp⟩) (fun m hm=>?_) (fun b u e=>?_) I.bare
   ·obtain⟨_,g1,_,g3,g4,g5⟩:=A b (sub b hb)
    exact⟨g3,g1,g4,g5⟩
   ·obtain⟨o,es,ep,ho,r⟩:=hm
    exact⟨o,es,ep,hk _ o (fun z=>(A _ (sub _ z)).2.1 rfl) ho,r⟩
   ·refine(I.hok b u e).stay (fun c v hc q=>hk c v ?_ q) (fun _ q=>q) fun _ _ q=>q
    rcases hc with z | z
    ·rw[z];exact tr b u e
    ·exact tr c _ z
 self:=fun _ _ _ _ _ Z h=>wpAny_pyIter_zip Z.zz h
section
variable{X:Cx}
def zk8(K:W.Frag)(g:TA):TI:=fun σ H R=>g σ H fun l b=>∃c f a1 a2,l=[.ref a1,.ref a2]/\(∃s,SqK K c b a1 s)/\(∃w,SqK K f b a2 w)/\R (Itz K c f a1 a2) b
theorem zer{l m:Expr}{M:TA}{p B tp:Pos}{g:List Expr}{kk:Nat}(U:Gl X "zip")(Y:X.mg "zip" = none)(T:PA X [l,m] M)(hs:starEach [l,m] X.env=[(false,eval l X.env),(false,eval m X.env)]:=by rfl)(A:starEach [m] X.env=[(false,eval m X.env)]:=by rfl) :
  PI X (.Tuple g kk tp) (.Call (.Name "zip" p) [l,m] [] B) (zk8 X.K M):=by
 intro c s σ H R I h;refine Call_ (wc I U Y boot_zip (JI (thn (T B c s σ H _ I h) fun us s1 ⟨vs,G,f,r1,q1⟩=>?_) (by rw[hs,A]) (by rw[A];rfl)))
 obtain⟨k1,k2,a1,a2,e,⟨xs,C⟩,⟨ys,D⟩,q⟩:=q1;subst e;obtain⟨u,u',rfl,ru,E⟩:=Ww r1;cases ru;cases E;obtain⟨J,ac,p1,aa⟩:=f.seqK C;obtain⟨L,ae,p2,ab⟩:=f.seqK D;refine zdi p1 p2 fun Q Z hk a0=>wpAny_pyIter_zip Z.zz ?_
 have O:Inv X c σ G { s1 with heap:=Q }:=f.kept (t':=s1.toks) hk;have N:zb8 (s1.heap.objs.size+4) (s1.heap.objs.size+2) (s1.heap.objs.size+3) s1.heap.objs.size (s1.heap.objs.size+1):=by
  constructor<;>(intro e;have e':(_:Nat)=_:=e;omega)
 refine⟨s1.heap.objs.size+4,_,_,_,G,rfl,O,zdy N,Z,fun b hb=>?_,q⟩
 have w:s1.heap.objs.size<=b:=by
  simp only[qe,Zz,or_false] at hb;rcases hb with r | r | r | r | r<;>(rw[r];first| exact Nat.le_add_right _ _ | exact zJ _)
 exact f.fpOk w (f.hok.fresh w)
end
def TyN(K:W.Frag)(H:Hp)(x:V)(T:String):Prop:=match x with
 | .non=>T = "NoneType"
 | .bl _=>T = "bool"
 | .int _=>T = "int"
 | .str _=>T = "str"
 | .ref a=>(T = "list" /\ ∃b,SqL K H a b)\/(T = "tuple" /\ ∃b,SqT K H a b)
 | _=>False
def zjc(T C:String):Bool:=T==C||(T == "bool" && C == "int")
def Vk:List String:=["NoneType","bool","int","str","list","tuple"]
def VR:List String:=["bool","int","str","list","tuple","dict"]
theorem zgz{K:W.Frag}:∀T∈Vk,∀C∈VR,PySem.W.kitOne K (.type T) (.type C)=some (zjc T C):=by
 intro T c C b;simp only[Vk,VR,qe,Zz,or_false] at c b;rcases c with rfl | rfl | rfl | rfl | rfl | rfl<;>rcases b with rfl | rfl | rfl | rfl | rfl | rfl<;>kernel_rfl
theorem TyN.mem{K:W.Frag}{H:Hp}{x:V}{T:String}(h:TyN K H x T):T∈Vk:=by
 cases x with
 | non=>cases(show T=_ from h);decide
 | bl _=>cases(show T=_ from h);decide
 | int _=>cases(show T=_ from h);decide
 | str _=>cases(show T=_ from h);decide
 | ref a=>rcases(show _\/_ from h) with ⟨e,_⟩ | ⟨e,_⟩<;>(subst e;decide)
 | _=>exact(show False from h).elim
section
variable{X:Cx}{b:List (Addr×Obj)}{σ:St}{H:Hp}{s:Shared}
theorem zgy{x:V}{u:Value}{T:String}(I:Inv X b σ H s)(c:RelV x u)(ty:TyN X.K H x T):∃P:Heap->Prop,P s.heap/\PySem.W.KitX X.K u (.type T) P/\u≠.builtin "__main__.__loader__#opaque" :=by
 cases x with
 | non=>cases(show u=Value.none from c);cases(show T=_ from ty);exact⟨_,True.intro,PySem.W.kitx_none,fun z=>nomatch z⟩
 | bl y=>cases(show u=Value.bool y from c);cases(show T=_ from ty);exact⟨_,True.intro,PySem.W.kitx_bool,fun z=>nomatch z⟩
 | int i=>obtain⟨t,q⟩:=(show ∃t,u=Value.int i t from c);cases q;cases(show T=_ from ty);exact⟨_,True.intro,PySem.W.kitx_int,fun z=>nomatch z⟩
 | str y=>obtain⟨t,q⟩:=(show ∃t,u=Value.str y t from c);cases q;cases(show T=_ from ty);exact⟨_,True.intro,PySem.W.kitx_str,fun z=>nomatch z⟩
 | ref a=>
  cases(show u=Value.ref a from c)
  rcases(show _\/_ from ty) with ⟨e,g,hx⟩ | ⟨e,g,hx⟩
  ·subst e
   obtain⟨f,r,⟨o,n,e1,e2,_⟩,_⟩:=I.list hx;exact⟨_,⟨o,e1,e2⟩,PySem.W.kitx_list,fun z=>nomatch z⟩
  ·subst e
   obtain⟨f,r,⟨o,e1,e2,_⟩,_⟩:=I.tuple hx;exact⟨_,⟨o,e1,e2⟩,PySem.W.kitx_tuple,fun z=>nomatch z⟩
 | _=>exact(show False from ty).elim
end
section
variable{X:Cx}
inductive Xb(K:W.Frag)(b:List V)(H:Hp)(Q:VK):Prop
 | mk (x T C:_) (_:b=[x,.ty C]) (_:TyN K H x T) (_:C∈VR) (_:Q (.bl (zjc T C)) H):Xb K b H Q
theorem yz:jY X (.builtin "isinstance") (Xb X.K):=by
 intro c s σ H E D Q I r h;obtain⟨x,T,C,rfl,ty,f,q⟩:=h;obtain⟨u,B,rfl,w,b⟩:=Ww r;cases(show B=Value.type C from b)
 obtain⟨P,g,Z,l⟩:=zgy I w ty;exact PySem.W.kia_one Z I.kIn g (zgz T ty.mem C f) l fun A=>⟨.bl _,H,I.tok A,rfl,q⟩
end
inductive Dat where
 | non | bl (b:Bool) | int (i:Int) | str (x:Str) | lst (c:List Dat) | tup (c:List Dat)
mutual
def Rep(K:W.Frag)(H:Hp):Dat->V->Prop
 | .non,v=>v=.non
 | .bl b,v=>v=.bl b
 | .int i,v=>v=.int i
 | .str x,v=>v=.str x
 | .lst f,v=>∃a c,v=.ref a/\SqL K H a c/\Reps K H f c
 | .tup f,v=>∃a c,v=.ref a/\SqT K H a c/\Reps K H f c
def Reps(K:W.Frag)(H:Hp):List Dat->List V->Prop
 | [],b=>b=[]
 | d::c,b=>∃x r,b=x::r/\Rep K H d x/\Reps K H c r
end
theorem Same.sqT{K:W.Frag}{H b:Hp}{a:Addr}{c:List V}(e:Same H b)(h:SqT K H a c):SqT K b a c:=by
 rcases h with(h | ⟨o,h⟩) | h
 ·exact .inl (.inl (e _ _ h))
 ·exact .inl (.inr ⟨o,e _ _ h⟩)
 ·exact .inr h
mutual
theorem Rep.same{K:W.Frag}{H f:Hp}(e:Same H f):∀{d:Dat} {v:V},Rep K H d v->Rep K f d v
 | .non,_,h=>h
 | .bl _,_,h=>h
 | .int _,_,h=>h
 | .str _,_,h=>h
 | .lst _,_,h=>by
  obtain⟨a,c,e1,e2,b⟩:=h;exact⟨a,c,e1,e.seq e2,Reps.same e b⟩
 | .tup _,_,h=>by
  obtain⟨a,c,e1,e2,b⟩:=h;exact⟨a,c,e1,e.sqT e2,Reps.same e b⟩
theorem Reps.same{K:W.Frag}{H b:Hp}(e:Same H b):∀{c:List Dat} {f:List V},Reps K H c f->Reps K b c f
 | [],_,h=>h
 | _::_,_,h=>by
  obtain⟨x,r,e1,e2,g⟩:=h;exact⟨x,r,e1,Rep.same e e2,Reps.same e g⟩
end
theorem Reps.len{K:W.Frag}{H:Hp}:∀{b:List Dat} {xs:List V},Reps K H b xs->xs.length=b.length
 | [],_,h=>by rw[show _=_ from h];rfl
 | _::_,_,h=>by
  obtain⟨x,r,e1,e2,c⟩:=h;rw[e1,xP,xP,Reps.len c]
theorem Reps.get{K:W.Frag}{H:Hp}:∀{b:List Dat} {c:List V} {i:Nat} {x:V},Reps K H b c->c[i]? =some x->∃d,b[i]? =some d/\Rep K H d x
 | [],_,_,_,h,e=>by rw[show _=_ from h] at e;simp at e
 | d::b,_,i,x,h,e=>by
  obtain⟨y,r,e1,e2,g⟩:=h;subst e1;cases i with
  | zero=>simp at e;subst e;exact⟨d,rfl,e2⟩
  | succ i=>
   obtain⟨f,l,s⟩:=Reps.get (i:=i) g (by simpa using e)
   exact⟨f,by simpa using l,s⟩
theorem zb{H:Hp}{a:Addr}{o:HO}(h:H a=none):Same H (upd H a o):=fun b u e=>by rw[zp (zm e h)];exact e
def zde:List V->List V->Bool
 | [],[]=>true
 | x::b,y::c=>eqV x y&&zde b c
 | _,_=>false
theorem Jt:∀(b c:List V),(((List.range (min b.length c.length)).all fun j=>eqV (b.getD j .non) (c.getD j .non))&&(b.length==c.length))=zde b c
 | [],[]=>rfl
 | [],y::c=>by simp[zde]
 | x::b,[]=>by simp[zde]
 | x::b,y::c=>by
  have f:=Jt b c;have e1:min (x::b).length (y::c).length=min b.length c.length+1:=by simp only[xP];omega
  rw[e1,List.range_succ_eq_map,List.all_cons,List.all_map];unfold zde;rw[<- f,Bool.and_assoc];congr 1
  have e2:((x::b).length==(y::c).length)=(b.length==c.length):=by
   rw[xw];simp
  rw[e2];congr 1
section
variable{X:Cx}
end
structure Dfn(P:Program)(w:World)(K:W.Frag)(mg:Str->Option Value)(base:Heap)(x:Str)(k:Nat)(ps:List Str)(sp:Sp):Prop where
 ex:∃f fd,qY P w K mg base CX0 k f fd ps sp/\mg x=some (.ref f)/\PySem.W.keepIn K (.ref f)=true/\Binds K fd ps []
section
variable{X:Cx}{x:Str}{k:Nat}{l:List Str}{g:Sp}{p c:Pos}{e:Expr}{b:List Expr}{t:TA}
theorem zk(D:Dfn X.prog X.w X.K X.mg X.base x k l g)(E:Room k X.A)(B:Gl X x)(w:PA X (e::b) t)(A:(x==("__debug__":Str))=false:=by decide)
  (hs:starEach (e::b) X.env=(false,eval e X.env)::starEach b X.env:=by rfl) (s:(backTo c (starEach b X.env)).any (·.1)=false:=by rfl):PE X (.Call (.Name x p) (e::b) [] c) (zgZ g [] E0 t):=by
 obtain⟨f,G,F,C,hk,hb⟩:=D.ex;exact zgb F E B C hk hb .nil zjT w A hs s
end
theorem ifT{b:Bool}{A B:Prop}(h:b=true)(q:A):if b=true then A else B:=by rw[zv h];exact q
theorem ifF{b:Bool}{A B:Prop}(h:b=false)(q:B):if b=true then A else B:=by rw[zu (by rw[h];exact qR)];exact q
theorem zeY{K:W.Frag}{k1 k2:Bool}{a1 a2:Addr}{xs ys:List V}{g:TG}{M:TT}{L:TE}{w:St}{n:Nat}{R:List V->Hp->Prop}{H:Hp}(Pv:Nat->List V->Hp->Prop)(h0:Pv 0 [] H)
  (h1:∀i c H,Pv i c H->SqK K k1 H a1 xs/\SqK K k2 H a2 ys)
  (hs:∀i x y c H T,xs[i]? =some x->ys[i]? =some y->Pv i c H->H T=none->g (.ref T) w (upd H T (.tup [x,y])) fun l C=>l.drop n=w.drop n/\M l C fun b s=>
   if b=true then L l s fun v D=>c.length<sizeLine/\Pv (i+1) (c++[v]) D else Pv (i+1) c s)
  (Q:∀c H,Pv (min xs.length ys.length) c H->c.length<=sizeLine/\R c H) :
  ∃W:Nat->Nat->List V->Hp->Prop,(∃m,W 0 m [] H)/\∀i m c f,W i m c f ->
   ((Itz K k1 k2 a1 a2).stop i f/\c.length<=sizeLine/\R c f) \/
   ((Itz K k1 k2 a1 a2).go i f/\∃N:List V->Hp->Prop,(∀c A,N c A->∃J,J<m/\W (i+1) J c A)/\∀x B,(Itz K k1 k2 a1 a2).yld i f x B->g x w B fun l C=>l.drop n=w.drop n/\M l C fun b s=>
    if b=true then L l s fun y D=>c.length<sizeLine/\N (c++[y]) D else N c s):=by
 refine⟨fun i m c f=>m=min xs.length ys.length-i/\i<=min xs.length ys.length/\Pv i c f,⟨_,rfl,ji _,h0⟩,?_⟩
 rintro i m c f ⟨rfl,hi,p⟩;obtain⟨G,I⟩:=h1 i c f p;by_cases E:i<min xs.length ys.length
 ·have U:i<xs.length:=by omega
  have Y:i<ys.length:=by omega
  refine .inr ⟨⟨xs,ys,xs[i],ys[i],G,I,by simp[U],by simp[Y]⟩,Pv (i+1),fun a0 A p'=>⟨_,by omega,rfl,E,p'⟩,fun x B y=>?_⟩
  obtain⟨T,u,v,e1,O,e2,y1,y2⟩:=y;subst e1 e2;exact hs i u v c f T (y1 xs G) (y2 ys I) p O
 ·have e:i=min xs.length ys.length:=by omega
  subst e;obtain⟨z1,z2⟩:=Q c f p;exact .inl ⟨⟨xs,ys,G,I,by omega⟩,z1,z2⟩
theorem Jk{lo:Int}{N n:Nat}{g:TG}{J:TT}{I:TE}{A:St}{R:List V->Hp->Prop}{H:Hp}(Pv:Nat->List V->Hp->Prop)(h0:Pv 0 [] H)
  (hs:∀i c H,i<N->Pv i c H->g (.int (lo+i)) A H fun s D=>s.drop n=A.drop n/\J s D fun b w=>if b=true then I s w fun v E=>c.length<sizeLine/\Pv (i+1) (c++[v]) E else Pv (i+1) c w)
  (L:∀c H,Pv N c H->c.length<=sizeLine/\R c H) :
  ∃W:Nat->Nat->List V->Hp->Prop,(∃m,W 0 m [] H)/\∀i m c f,W i m c f ->
   ((Itr lo N).stop i f/\c.length<=sizeLine/\R c f) \/
   ((Itr lo N).go i f/\∃M:List V->Hp->Prop,(∀c B,M c B->∃G,G<m/\W (i+1) G c B)/\∀x C,(Itr lo N).yld i f x C->g x A C fun s D=>s.drop n=A.drop n/\J s D fun b w=>
    if b=true then I s w fun y E=>c.length<sizeLine/\M (c++[y]) E else M c w):=by
 refine⟨fun i m c f=>m=N-i/\i<=N/\Pv i c f,⟨_,rfl,ji _,h0⟩,?_⟩
 rintro i m c f ⟨rfl,Y,p⟩;by_cases l:i<N
 ·refine .inr ⟨l,Pv (i+1),fun U B O=>⟨_,by omega,rfl,l,O⟩,fun x C y=>?_⟩
  obtain⟨e1,e2⟩:=y;subst e1 e2;exact hs i c _ l p
 ·have e:i=N:=by omega
  subst e;obtain⟨Q,T⟩:=L c f p;exact .inl ⟨zJ _,Q,T⟩
def we(sn on:List (Str×NameKind))(N own b:List Str)(c:List Nat):Bool:=
 ZZ sn on N b c&&own.all (fun x=>sn.lookup x==some .local)&&decide (own++b).Nodup
theorem xZ{sn on:List (Str×NameKind)}{N own b:List Str}{c:List Nat}(h:we sn on N own b c=true):ZZ sn on N b c=true/\(∀x∈own,sn.lookup x=some .local)/\(own++b).Nodup:=by
 unfold we at h;rw[xO,xO,vN] at h;exact⟨h.1.1,fun x hx=>by simpa using h.1.2 x hx,jy h.2⟩
section
variable{X:Cx}{c b:Expr}{f:List Expr}{scope:Scope}{g l E G:Pos}{B:TI}{A:TT}{w:TE}{x y:Str}{D:Nat}
theorem xA{I:List Str}{C:Addr}{s:Shared}{H:Hp}{J:List Addr}{i:Nat}(L:scope.names.lookup x=some .local)(N:I.Nodup)(M:I[i]? =some x):PG (zK X I scope C s H J) (.Name x l) (xt i):=
 zq (X:=zK X I scope C s H J) N M (.inl (lookup_relabel_local L)) (.inr (lookup_relabel_local L))
theorem jv(J:List Str)(L:List Nat)(hc:X.calm=true)(hk:scope.kind=.function)(hb:we scope.names X.env.scope.names X.N [x] J L=true)(Q:PI X (.Name x l) b B)
  (O:∀C s H I,PF (zK X ([x]++J) scope C s H I) f A) (N:∀C s H I,PE (zK X ([x]++J) scope C s H I) c w)
  (hs:∀x,foldedSetIterable b X.env x=pure x:=by intro _;rfl):PE X (.ListComp c [⟨.Name x l,b,f,0⟩] scope g) (tLC B 1 L (xt 0) A w):=by
 obtain⟨h1,h2,M⟩:=xZ hb;exact zho [x] J L hc hk h1 Q (fun C s H I=>xA (h2 x (by simp)) M rfl) O N hs
theorem xh(J:List Str)(L:List Nat)(hc:X.calm=true)(hk:scope.kind=.function)(hb:we scope.names X.env.scope.names X.N [x,y] J L=true)(Q:PI X (.Tuple [.Name x l,.Name y E] D G) b B)
  (O:∀C s H I,PF (zK X ([x,y]++J) scope C s H I) f A) (N:∀C s H I,PE (zK X ([x,y]++J) scope C s H I) c w)
  (hs:∀x,foldedSetIterable b X.env x=pure x:=by intro _;rfl):PE X (.ListComp c [⟨.Tuple [.Name x l,.Name y E] D G,b,f,0⟩] scope g) (tLC B 2 L (VL X.K 2 (vk (xt 0) (vk (xt 1) Ys))) A w):=by
 obtain⟨h1,h2,M⟩:=xZ hb;refine zho [x,y] J L hc hk h1 Q (fun C s H I=>?_) O N hs
 exact qL (X:=zK X ([x,y]++J) scope C s H I) hc (zr (xA (h2 x (by simp)) M rfl) (zr (xA (h2 y (by simp)) M rfl) qk))
end
def tWk(t:TS):TS:=fun D σ H=>∃J:St->Hp->Prop,t { D with nx:=J } σ H/\∀c b,J c b->D.nx c b
theorem yR{X:Cx}{st:Stmt}{t:TS}(h:PS X st t):PS X st (tWk t):=by
 intro b s σ H D I w;obtain⟨J,A,B⟩:=w;refine thn (h b s σ H _ I A) fun f s1 q=>?_
 cases f with
 | next=>obtain⟨g,c,l,z⟩:=q;exact⟨g,c,l,B g c z⟩
 | brk=>exact q
 | cont=>exact q
 | ret u=>exact q
mutual
def Dat.py:Dat->PyData
 | .non=>.none
 | .bl b=>.bool b
 | .int i=>.int i
 | .str x=>.str x
 | .lst c=>.list (Dat.pys c)
 | .tup c=>.tuple (Dat.pys c)
def Dat.pys:List Dat->List PyData
 | []=>[]
 | d::b=>d.py::Dat.pys b
end
section
variable{X:Cx}
inductive QH(K:W.Frag)(c:List V)(H:Hp)(Q:VK):Prop
 | mk (p:Addr) (b:List Int) (_:c=[.ref p]) (_:SqL K H p (b.map V.int)) (_:(∀z∈b,0<=z/\z<=1000000)) (_:b.length<=100000) (_:Q (.int b.sum) H):QH K c H Q
theorem X5(hc:X.calm=true):jY X (.builtin "sum") (QH X.K):=by
 intro O s σ H xs us Q I r h;obtain⟨p,c,rfl,hq,hz,hn,q⟩:=h;obtain⟨u,rfl,ru⟩:=wU r;cases(show u=_ from ru)
 obtain⟨f,U,pl,_⟩:=I.list hq;have C:=pl.isList;have D:p≠s.heap.objs.size:=by
  obtain⟨o,e,_⟩:=C;exact qh (zH e)
 have B:f.length=c.length:=by have:=U.length;rw[zn] at this;omega
 have E:∀j,j<=c.length->0<=(c.take j).sum/\(c.take j).sum<=1000000*(j:Int):=by
  intro j;induction j with
  | zero=>intro _;simp
  | succ j ih=>
   intro N;have:=ih (by omega)
   have e:c.take (j+1)=c.take j++[c[j]'(by omega)]:=by rw[Ze]
   have b:=hz (c[j]'(by omega)) (vX _)
   rw[e,List.sum_append];simp only[wA,List.sum_nil];constructor
   ·omega
   ·have:(1000000:Int)*((j+1:Nat):Int)=1000000*(j:Int)+1000000:=by omega
    omega
 refine call_sum_walk (wpAny_pyIter_list C ?_)
 refine⟨s.heap.objs.size,_,_,_,_,_,fun i=>c.getD i 0,rfl,JJ (prog:=X.prog) (w:=X.w) (A:=X.A.in1) (I.ok.hd hc) _ p D f.toArray,⟨⟨_,zW _ rfl,rfl,rfl⟩,C.push _⟩,fun b hb=>?_,fun i v hP=>?_,fun j N=>?_,fun Y tk t' hk=>?_⟩
 ·have G:(s.heap.push { cls:=.type "list_iterator",data:=.fields #[.ref p,.int 0 0] }).objs.size=s.heap.objs.size+1:=jV ..
  show b<(s.heap.push _).objs.size;rw[G];rcases qe.mp hb with z | z
  ·rw[z];exact yE _
  ·rw[qD.mp z]
   obtain⟨o,e,_⟩:=C;exact wB (zH e)
 ·have e1:f[i]? =some v:=by simpa using hP
  have M:i<c.length:=by have h1:=(zC.mp e1).1;omega
  obtain⟨u',L,J⟩:=U.get (i:=i) (x:=.int c[i]) (by simp[M])
  rw[e1] at L;cases L
  obtain⟨t,e⟩:=J;exact⟨t,by rw[e];simp[M]⟩
 ·have l:j<c.length:=by simp only[zQ] at N;omega
  have a1:=hz c[j] (vX l);have a2:=E (j+1) (by omega)
  have g:(2:Int)^63=9223372036854775808:=by decide
  refine⟨?_,?_⟩
  ·show InLong (c.getD j 0)
   rw[show c.getD j 0=c[j] by simp[l]]
   unfold InLong;rw[g];omega
  ·rw[preSum_getD]
   unfold InLong;rw[g];have:((j+1:Nat):Int)<=100000:=by omega
   omega
 ·have k:∀b o,s.heap.get? b=some o->Y.get? b=some o:=fun b o e=>hk b o (by simp;exact qh (zH e)) (z7 _ e)
  refine⟨.int c.sum,H,I.kept k,⟨t',?_⟩,q⟩
  rw[preSum_getD];have:c.take f.toArray.size=c:=by rw[zQ,B,qz]
  rw[this]
end
section
variable{X:Cx}{b:Expr}
end
section
variable{X:Cx}
inductive zbv(x:V)(w:List V)(H:Hp)(Q:VK):Prop
 | mk (l:Addr) (s:List V) (i:Int) (y:V) (_:x=.ref l) (_:w=[.int i,y]) (_:H l=some (.lst s)) (_:0<=i) (_:i<2^62) (_:s.length<sizeLine) (_:Q .non (upd H l (.lst (s.take i.toNat++y::s.drop i.toNat)))):zbv  x w H Q
theorem zc0:MtM X "list.insert" zbv:=by
 intro G s σ H x vs v us Q I N M h;obtain⟨l,xs,i,y,rfl,rfl,C,T,U,hz,q⟩:=h;cases N;obtain⟨Y,B,rfl,J,L⟩:=Ww M;obtain⟨t,rfl⟩:=J;obtain⟨z,w,n,r,O,e⟩:=I.lstM C;have D:=r.length;refine call_meets F.slot_list_insert ⟨_,e,rfl⟩ F.entry_list_insert (F.args_list_insert_3 _ _ _) (AutoListH.list_insert_list_int_val_1 l w.toArray n i t B ?_ (by rw[zQ];omega)) ⟨e,?_⟩
 ·unfold Builtin.List.listFitsIndex
  simp;omega
 refine⟨.non,_,I.lset (its':=w.take i.toNat++B::w.drop i.toNat) C e ?_ ((r.take _).append (.cons L (r.drop _))) ?_,rfl,q⟩
 ·show(have k:=if i<0 then(i+((w.toArray.size:Nat):Int)).toNat else min i.toNat w.toArray.size;(w.toArray.extract 0 k).push B++w.toArray.extract k)=_
  have hk:(if i<0 then(i+((w.toArray.size:Nat):Int)).toNat else min i.toNat w.toArray.size)=min i.toNat w.length:=by
   rw[zu (by omega),zQ]
  simp only[hk];apply Array.toList_inj.mp
  simp;by_cases A:i.toNat<=w.length
  ·have h1:(w.drop i.toNat).take (w.length-i.toNat)=w.drop i.toNat:=JX (by rw[Qq];omega)
   rw[Nat.min_eq_left A,h1]
  ·have h1:w.length<=i.toNat:=by omega
   rw[Nat.min_eq_right h1,JX h1,List.drop_of_length_le h1];simp
 ·simp only[qo,qm,xP,Qq]
  omega
variable{e st:Expr}{f:TE}{g:TO}{b c:Pos}
end
theorem qQ{K:W.Frag}{a:Addr}{xs:List V}{g:TG}{J:TT}{I:TE}{A:St}{n:Nat}{R:List V->Hp->Prop}{H:Hp}(Pv:Nat->List V->Hp->Prop)(h0:Pv 0 [] H)
  (h1:∀i c H,Pv i c H->SqL K H a xs)
  (hs:∀i x c H,xs[i]? =some x->Pv i c H->g x A H fun l D=>l.drop n=A.drop n/\J l D fun b s=>
   if b=true then I l s fun v E=>c.length<sizeLine/\Pv (i+1) (c++[v]) E else Pv (i+1) c s)
  (L:∀c H,Pv xs.length c H->c.length<=sizeLine/\R c H) :
  ∃W:Nat->Nat->List V->Hp->Prop,(∃m,W 0 m [] H)/\∀i m c f,W i m c f ->
   ((Itl K a).stop i f/\c.length<=sizeLine/\R c f) \/
   ((Itl K a).go i f/\∃N:List V->Hp->Prop,(∀c B,N c B->∃G,G<m/\W (i+1) G c B)/\∀x C,(Itl K a).yld i f x C->g x A C fun l D=>l.drop n=A.drop n/\J l D fun b s=>
    if b=true then I l s fun y E=>c.length<sizeLine/\N (c++[y]) E else N c s):=by
 refine⟨fun i m c f=>m=xs.length-i/\i<=xs.length/\Pv i c f,⟨_,rfl,ji _,h0⟩,?_⟩
 rintro i m c f ⟨rfl,U,p⟩;have q:=h1 i c f p;by_cases w:i<xs.length
 ·refine .inr ⟨⟨xs,xs[i],q,by simp[w]⟩,Pv (i+1),fun T B M=>⟨_,by omega,rfl,w,M⟩,fun x C y=>?_⟩
  obtain⟨e,y⟩:=y;subst e;exact hs i x c _ (y xs q) p
 ·have e:i=xs.length:=by omega
  subst e;obtain⟨O,Q⟩:=L c f p;exact .inl ⟨⟨xs,q,zJ _⟩,O,Q⟩
theorem j6{K:W.Frag}{a:Addr}{xs:List V}{g:TG}{J:TT}{I:TE}{A:St}{n:Nat}{R:List V->Hp->Prop}{H:Hp}(Pv:Nat->List V->Hp->Prop)(h0:Pv 0 [] H)
  (h1:∀i c H,Pv i c H->SqT K H a xs)
  (hs:∀i x c H,xs[i]? =some x->Pv i c H->g x A H fun l D=>l.drop n=A.drop n/\J l D fun b s=>
   if b=true then I l s fun v E=>c.length<sizeLine/\Pv (i+1) (c++[v]) E else Pv (i+1) c s)
  (L:∀c H,Pv xs.length c H->c.length<=sizeLine/\R c H) :
  ∃W:Nat->Nat->List V->Hp->Prop,(∃m,W 0 m [] H)/\∀i m c f,W i m c f ->
   ((Itt K a).stop i f/\c.length<=sizeLine/\R c f) \/
   ((Itt K a).go i f/\∃N:List V->Hp->Prop,(∀c B,N c B->∃G,G<m/\W (i+1) G c B)/\∀x C,(Itt K a).yld i f x C->g x A C fun l D=>l.drop n=A.drop n/\J l D fun b s=>
    if b=true then I l s fun y E=>c.length<sizeLine/\N (c++[y]) E else N c s):=by
 refine⟨fun i m c f=>m=xs.length-i/\i<=xs.length/\Pv i c f,⟨_,rfl,ji _,h0⟩,?_⟩
 rintro i m c f ⟨rfl,U,p⟩;have q:=h1 i c f p;by_cases w:i<xs.length
 ·refine .inr ⟨⟨xs,xs[i],q,by simp[w]⟩,Pv (i+1),fun T B M=>⟨_,by omega,rfl,w,M⟩,fun x C y=>?_⟩
  obtain⟨e,y⟩:=y;subst e;exact hs i x c _ (y xs q) p
 ·have e:i=xs.length:=by omega
  subst e;obtain⟨O,Q⟩:=L c f p;exact .inl ⟨⟨xs,q,zJ _⟩,O,Q⟩
inductive DV(K:W.Frag)(F:Hp)(n:Nat):V->Prop
 | non:DV K F n .non
 | bl (b:Bool):DV K F n (.bl b)
 | int (i:Int) (h:i.natAbs<=10000000000+n):DV K F n (.int i)
 | str (x:Str) (h:x.length<=n):DV K F n (.str x)
 | lst (a:Addr) (c:List V) (h:SqL K F a c) (f:c.length<=n) (all:∀x∈c,DV K F n x):DV K F n (.ref a)
 | tup (a:Addr) (c:List V) (h:SqT K F a c) (f:c.length<=n) (all:∀x∈c,DV K F n x):DV K F n (.ref a)
def zeR:Expr->Bool
 | .Starred _ _=>false
 | _=>true
theorem jD{e:Expr}{c:List Expr}{b:Env}(h:zeR e=true):starEach (e::c) b=(false,eval e b)::starEach c b:=by
 cases e<;>first| rfl | cases h
theorem pa5{X:Cx}{b e1 e2 c f:Expr}{g l s w A:TE}(h0:PE X b g)(h1:PE X e1 l)(h2:PE X e2 s)(B:PE X c w)(C:PE X f A)(h:([b,e1,e2,c,f]).all zeR=true:=by rfl):PA X [b,e1,e2,c,f] (wo g (wo l (wo s (wo w (wo A zhC))))):=by
 have hz:=vN.mp h;exact(za h0 (za h1 (za h2 (za B (za C ze (jD (hz _ (by simp)))) (jD (hz _ (by simp)))) (jD (hz _ (by simp)))) (jD (hz _ (by simp)))) (jD (hz _ (by simp))))
theorem pa7{X:Cx}{b e1 e2 c f g l:Expr}{s w A B C D E:TE}(h0:PE X b s)(h1:PE X e1 w)(h2:PE X e2 A)(G:PE X c B)(H:PE X f C)(I:PE X g D)(J:PE X l E)(h:([b,e1,e2,c,f,g,l]).all zeR=true:=by rfl):PA X [b,e1,e2,c,f,g,l] (wo s (wo w (wo A (wo B (wo C (wo D (wo E zhC))))))):=by
 have hz:=vN.mp h;exact(za h0 (za h1 (za h2 (za G (za H (za I (za J ze (jD (hz _ (by simp)))) (jD (hz _ (by simp)))) (jD (hz _ (by simp)))) (jD (hz _ (by simp)))) (jD (hz _ (by simp)))) (jD (hz _ (by simp)))) (jD (hz _ (by simp))))
section
variable{X:Cx}{f G c:Expr}{l:List Expr}{scope:Scope}{w:Pos}{E:TI}{g:TG}{B:TT}{A:TE}
theorem zdw{y:Str}{py:Pos}{g2:TG}{s:List (Addr×Obj)}{σ:St}{M:Hp}{Q:St->Hp->Prop}{I:Shared}{D C:Addr}{m:Str->Option Value}(N:PG X (.Name y py) g2)(hn:I.heap.Ns C m)
  (all:∀h7:Heap,(∀b o,b≠C->I.heap.get? b=some o->h7.get? b=some o)->Inv X s σ M { I with heap:=h7 }) (Y:xo X s M C) (q:g2 (.ref D) σ M Q) :
  wpAny (model X.prog X.w) X.A (assign (.Name y py) X.env (.ref D)) (fun _ H=>∃m,H.heap.Ns C m/\∀h',Heap.SameBut C H.heap h'->∃σ' T,Inv X s σ' T { H with heap:=h' }/\Q σ' T) X.xe I:=by
 have J0:=all I.heap fun b o _ e=>e
 obtain⟨L,es,ep,J,hd,r⟩:=hn;have J1:=J0.pinned (fp:=[C]) (fun b hb=>by rw[qD.mp hb];exact Y) (fun b hb=>by rw[qD.mp hb];exact⟨L,J,fun v z=>by rw[hd] at z;cases z⟩)
 have mC:(C,L)∈s++qB [C] I.heap:=qI _ (jb (qD.mpr rfl) J);refine thn (N _ I σ _ (.ref D) (.ref D) _ J1 rfl q) fun _ s8 ⟨σ8,H8,U,q8⟩=>?_
 obtain⟨e8,n8,_⟩:=U.pin (C,L) (qI _ mC);obtain⟨_,g1,_,g3,g4,g5⟩:=Y;exact⟨m,⟨L,es,ep,e8,hd,r⟩,fun h9 O=>⟨σ8,H8,(U.unpinned).turned (t':=s8.toks) (it:=C) (fun b o hb e=>O.extBut b o hb e) n8 g1 g3 g4 g5,q8⟩⟩
theorem zen{y:Str}{U L:Pos}{g2:TG}(own N:List Str)(js:List Nat)(hc:X.calm=true)(hk:scope.kind=.function)(hb:ZZ scope.names X.env.scope.names X.N N js=true)(hi:PI X G c E)
  (hg:∀C s H M,PG (zK X (own++N) scope C s H M) G g) (hf:∀C s H M,PF (zK X (own++N) scope C s H M) l B) (he:∀C s H M,PE (zK X (own++N) scope C s H M) f A)
  (a0:PG X (.Name y U) g2) (aa:swapsWith (.ListComp f [⟨G,c,l,0⟩] scope w) (some (.Name y U)) L.line X.env=pure true:=by rfl)
  (hs:∀x,foldedSetIterable c X.env x=pure x:=by intro _;rfl):PS X (.Assign [.Name y U] (.ListComp f [⟨G,c,l,0⟩] scope w) L) (WB (tLC E own.length js g B A) g2):=by
 intro O s σ H Dn I h;rw[exec_Assign_Name_used _ _ _ _ aa];refine zg (vV (zg ?_))
 show wpAny _ X.A (do let _<-comprehension (.ListComp f [⟨G,c,l,0⟩] scope w) scope X.env _ (newList []) false (eval c X.env) (some (assign (.Name y U) X.env))) _ _ s
 refine zg (qN (zfl (rest:=[]) (use:=some (assign (.Name y U) X.env)) (Qx:=fun _ s'=>∃σ' H',Inv X O σ' H' s'/\Dn.nx σ' H') (Q:=fun v H1=>g2 v σ H1 Dn.nx) own N js hk hb hi hs I h (fun C D it fp tn J W H2 s3 s4 m0 R a b T tl j Y=>zbM hc hg hf he a b T tl j Y) fun s6 D C H6 m hn all fc q=>zdw a0 hn all fc q) (fun _ s' hq=>zw (zw hq)) fun _ _ e=>e)
theorem Jc{x y:Str}{N O b:Pos}{Q:TG}(I:List Str)(M:List Nat)(hc:X.calm=true)(hk:scope.kind=.function)(hb:we scope.names X.env.scope.names X.N [x] I M=true)(hi:PI X (.Name x N) c E)
  (Y:∀C s H D,PF (zK X ([x]++I) scope C s H D) l B) (U:∀C s H D,PE (zK X ([x]++I) scope C s H D) f A)
  (J:PG X (.Name y O) Q) (L:swapsWith (.ListComp f [⟨.Name x N,c,l,0⟩] scope w) (some (.Name y O)) b.line X.env=pure true:=by rfl)
  (hs:∀x,foldedSetIterable c X.env x=pure x:=by intro _;rfl):PS X (.Assign [.Name y O] (.ListComp f [⟨.Name x N,c,l,0⟩] scope w) b) (WB (tLC E 1 M (xt 0) B A) Q):=by
 obtain⟨h1,h2,T⟩:=xZ hb;exact zen [x] I M hc hk h1 hi (fun C s H D=>xA (h2 x (by simp)) T rfl) Y U J L hs
theorem Vr{x z y:Str}{O T Q b U:Pos}{N:Nat}{Y:TG}(I:List Str)(M:List Nat)(hc:X.calm=true)(hk:scope.kind=.function)(hb:we scope.names X.env.scope.names X.N [x,z] I M=true)(hi:PI X (.Tuple [.Name x O,.Name z T] N U) c E)
  (hf:∀C s H D,PF (zK X ([x,z]++I) scope C s H D) l B) (he:∀C s H D,PE (zK X ([x,z]++I) scope C s H D) f A)
  (J:PG X (.Name y Q) Y) (L:swapsWith (.ListComp f [⟨.Tuple [.Name x O,.Name z T] N U,c,l,0⟩] scope w) (some (.Name y Q)) b.line X.env=pure true:=by rfl)
  (hs:∀x,foldedSetIterable c X.env x=pure x:=by intro _;rfl):PS X (.Assign [.Name y Q] (.ListComp f [⟨.Tuple [.Name x O,.Name z T] N U,c,l,0⟩] scope w) b) (WB (tLC E 2 M (VL X.K 2 (vk (xt 0) (vk (xt 1) Ys))) B A) Y):=by
 obtain⟨h1,h2,h3⟩:=xZ hb;refine zen [x,z] I M hc hk h1 hi (fun C s H D=>?_) hf he J L hs
 exact qL (X:=zK X ([x,z]++I) scope C s H D) hc (zr (xA (h2 x (by simp)) h3 rfl) (zr (xA (h2 z (by simp)) h3 rfl) qk))
end
theorem Vals.mem{u:Value}:∀{b:List V} {c:List Value},Vals b c->u∈c->∃x∈b,RelV x u
 | _,_,.nil,h=>by cases h
 | x::b,v::g,.cons r t,h=>by
  rcases qe.mp h with e | h
  ·rw[e];exact⟨x,jm,r⟩
  ·obtain⟨y,hy,f⟩:=Vals.mem t h
   exact⟨y,jS _ hy,f⟩
section
variable{X:Cx}
theorem ziG{E:List (Addr×Obj)}{σ:St}{H:Hp}{s:Shared}(I:Inv X E σ H s){A:Around}(hu:A.units<cLine){a c:Addr}{l w:List V}(hx:SqT X.K H a l)(hy:SqT X.K H c w)(L:l.all xH=true)(M:w.all xH=true):∃b,SeqAt.EqAt A s (.ref a) (.ref c) b:=by
 by_cases B:a=c
 ·subst B
  exact⟨true,Zu _⟩
 ·obtain⟨C,G,Q,z1⟩:=I.tuple hx
  obtain⟨D,J,T,z2⟩:=I.tuple hy;have l1:=G.length;have l2:=J.length;refine⟨_,V7 B (zaG (e:=fun j=>eqV (l.getD j .non) (w.getD j .non)) Q T hu (fun j h1 h2=>?_))⟩
  have f:j<l.length:=by rw[zQ] at h1;omega
  have g:j<w.length:=by rw[zQ] at h2;omega
  obtain⟨w1,e1,U⟩:=G.get (i:=j) (x:=l[j]) (by simp[f])
  obtain⟨w2,e2,Y⟩:=J.get (i:=j) (x:=w[j]) (by simp[g])
  have N:C.toArray[j]=w1:=by simpa using (zC.mp e1).2
  have O:D.toArray[j]=w2:=by simpa using (zC.mp e2).2
  rw[N,O,show l.getD j .non=l[j] by simp[f],show w.getD j .non=w[j] by simp[g]]
  exact Ju U Y (vN.mp L _ (vX f)) (vN.mp M _ (vX g))
inductive Vg(K:W.Frag)(x:V)(y:V)(H:Hp)(Q:VK):Prop
 | mk (a p:Addr) (g f:List V) (_:x=.ref a) (_:y=.ref p) (_:SqT K H a g) (_:g.all xH=true) (_:SqL K H p f) (_:(∀v∈f,∃(c:Addr) (b:List V),v=.ref c/\SqT K H c b/\b.all xH=true)) (_:∀r:Bool,Q (.bl r) H):Vg K x y H Q
open Classical in
theorem zgd(hu:X.A.units+64<cLine):OpR X (compareOp .In) (Vg X.K):=by
 intro B s σ H x y v u Q I M N h;obtain⟨a,p,U,T,rfl,rfl,G,D,J,all,q⟩:=h;cases M;cases N;obtain⟨l,r,L,hz⟩:=I.list J;have C:∀w∈l,∃b,SeqAt.EqAt X.A.in1 s w (.ref a) b:=fun w g=>by
  obtain⟨x,hx,A⟩:=Vals.mem r g;obtain⟨c,O,rfl,hc,E⟩:=all x hx;cases A;exact ziG I (by show X.A.units+1<cLine;omega) hc G E D
 refine zax (fun w=>if h:∃b,SeqAt.EqAt X.A.in1 s w (.ref a) b then h.choose else false) L.isList (fun w g=>?_) ⟨.bl _,H,I,rfl,q _⟩
 have f:=C w (by simpa using g)
 simp only[f,dif_pos];exact f.choose_spec
inductive J9(K:W.Frag)(x:V)(y:V)(H:Hp)(Q:VK):Prop
 | mk (a b:Addr) (c:List V) (_:x=.ref a) (_:y=.ref b) (_:SqL K H a c) (_:SqL K H b []) (_:Q (.bl (!c.isEmpty)) H):J9 K x y H Q
theorem ZR(hu:X.A.units<cLine):OpR X (compareOp .NotEq) (J9 X.K):=by
 intro w s σ H x y v u Q I C D h;obtain⟨a,b,E,rfl,rfl,hx,hy,q⟩:=h;cases C;cases D;obtain⟨c,A,g,G⟩:=I.list hx;obtain⟨f,B,l,J⟩:=I.list hy;cases B;cases A with
 | nil=>exact zaL (e:=fun _=>true) g.isList l.isList rfl hu (fun j h1 _=>by simp at h1) _ _ _ _ ⟨.bl _,H,I,rfl,q⟩
 | cons r t=>exact SeqAt.RcNeAt.lists_lengths g.isList l.isList (by simp) hu _ _ _ _ ⟨.bl _,H,I,rfl,q⟩
inductive Xa(K:W.Frag)(x:V)(y:V)(H:Hp)(Q:VK):Prop
 | mk (a b:Addr) (c:List V) (_:x=.ref a) (_:y=.ref b) (_:SqL K H a c) (_:SqL K H b []) (_:Q (.bl c.isEmpty) H):Xa K x y H Q
theorem W5(hu:X.A.units<cLine):OpR X (compareOp .Eq) (Xa X.K):=by
 intro w s σ H x y v u Q I C D h;obtain⟨a,b,E,rfl,rfl,hx,hy,q⟩:=h;cases C;cases D;obtain⟨c,A,g,G⟩:=I.list hx;obtain⟨f,B,l,J⟩:=I.list hy;cases B;cases A with
 | nil=>exact zaC (e:=fun _=>true) g.isList l.isList rfl hu (fun j h1 _=>by simp at h1) _ _ _ _ ⟨.bl _,H,I,rfl,q⟩
 | cons r t=>exact SeqAt.RcAt.lists_lengths g.isList l.isList (by simp) hu _ _ _ _ ⟨.bl _,H,I,rfl,q⟩
theorem Wv:∀{b:List Value} {n k:Nat},b.length=n->(∀j v,b[j]? =some v->∃t,v=Value.int ((k+j:Nat):Int) t)->Vals ((List.range' k n).map fun i:Nat=>V.int (i:Int)) b
 | [],0,k,_,_=>.nil
 | v::b,n+1,k,f,h=>by
  rw[List.range'_succ,qO];obtain⟨t,e⟩:=h 0 v rfl;refine .cons ⟨t,by rw[e];rfl⟩ (Wv (by simpa using f) fun j w g=>?_)
  obtain⟨l,c⟩:=h (j+1) w (by simpa using g)
  exact⟨l,by rw[c,show k+(j+1)=k+1+j by omega]⟩
theorem ZP{a:Expr}{O:TA}{p G J c:Pos}(hc:X.calm=true)(hg:Gl X "list")(hm:X.mg "list" = none)(D:Gl X "range")(E:X.mg "range" = none)(hv:bootBuiltins "list" = some (.type "list"))(ha:PA X [a] O)(hs:starEach [a] X.env=[(false,eval a X.env)]:=by rfl)
  (M:starEach [.Call (.Name "range" G) [a] [] c] X.env=[(false,eval (.Call (.Name "range" G) [a] [] c) X.env)]:=by rfl) :
  PE X (.Call (.Name "list" p) [.Call (.Name "range" G) [a] [] c] [] J) (fun σ H Q=>O σ H fun T C=>∃j:Int,T=[.int j]/\0<=j/\j<=1000000/\∀l,C l=none->Q (.ref l) (upd C l (.lst ((List.range j.toNat).map fun i:Nat=>V.int (i:Int))))):=by
 intro w s σ H Q I h;refine wpAny_Call_Name_kw (wc I hg hm hv ?_ (by decide) (by decide))
 refine JI ?_ M rfl
 rw[M];refine ZC ?_
 refine Call_ (wc I D E boot_range (JI (thn (ha c w s σ H _ I h) fun us s1 ⟨T,C,U,r1,q1⟩=>?_) hs rfl))
 obtain⟨j,e,j0,j1,q⟩:=q1;subst e;cases r1 with
 | cons r rr=>
  cases rr;obtain⟨t,rfl⟩:=r;refine call_range_1 (JR ?_)
  have L:Inv X w σ C { s1 with heap:=s1.heap.push { cls:=.type "range",data:=.fields #[.int 0 s1.toks,.int j t,.int 1 (s1.toks+1)] },toks:=s1.toks+1+1 }:=U.kept fun b o e=>z7 _ e
  have g:=bGe;refine call_list_range (n:=j.toNat) (I.ok.hd hc) (IsRange.new ..) (small_one (by rw[g];omega) (by rw[g];omega) (by rw[g];omega) (by rw[g];omega)) (by rw[rangeSize_one];split<;>omega) (by omega) fun h' tk A Y B get f=>?_
  refine⟨.ref _,_,L.laid (t':=tk) (o:=.lst ((List.range j.toNat).map fun i:Nat=>V.int (i:Int))) B (zJ _) ?_,rfl,q _ (L.hok.fresh (zJ _))⟩
  refine⟨by rw[zn,vO,sizeLine_eq];omega,A.toList,Y,?_,by rw[Array.toArray_toList];exact get⟩
  rw[List.range_eq_range'];refine Wv (by rw[xz];exact f.1) fun i v hv=>?_
  obtain⟨N,e'⟩:=f.2 i v (by simpa using hv)
  exact⟨N,by rw[e'];congr 1;omega⟩
end
end L2
namespace L2
open PySem PySem.Spec PyProof.Rows
section
variable{b:Program}{w:World}{A:Around}{E:Value->Shared->Prop}{s:Shared}
end
section
variable{X:Cx}{A:Around}{R:Result->Shared->Prop}
end
section
variable{X:Cx}
theorem yu{K:W.Frag}(h:X.K=K):IxR X (zhW K):=by rw[<- h];exact qJ
theorem qM{K:W.Frag}(h:X.K=K):IxR X (zhV K):=by rw[<- h];exact je
theorem va{K:W.Frag}(h:X.K=K):jY X (.builtin "len") (vS K):=by rw[<- h];exact zI
theorem xB{K:W.Frag}(h:X.K=K):OpR X (compareOp .In) (rIn K false):=by rw[<- h];exact Qd
theorem j3{K:W.Frag}(h:X.K=K):OpR X (compareOp .NotIn) (rIn K true):=by rw[<- h];exact Vz
inductive Vf(x:V)(y:V)(H:Hp)(Q:VK):Prop
 | mk (a b:_) (_:x=.bl a) (_:y=.bl b) (_:Q (.bl (!decide (a=b))) H):Vf x y H Q
theorem zgc:OpR X (compareOp .IsNot) (Vf):=by
 intro c s σ H x y v u Q I f g h;obtain⟨a,b,rfl,rfl,q⟩:=h;cases f;cases g;refine wpAny_isNot_plain (by cases a<;>cases b<;>rfl) (qP I q ?_)
 cases a<;>cases b<;>rfl
end
section
open AutoSeq1 (wpAny_loadPart')
theorem yr(l:Addr)(b:Array Value)(n:Nat)(B:Option Addr)(H:Array (Option Value)) :
  Meets (Builtin.«enumerate.__new__» ⟨[.type "enumerate",.ref l],[]⟩) (fun _ R s=>s.heap.get? l=some { cls:=.type "tuple",dict:=B,data:=.seq b n,slots:=H } /\
   R (.ok (.ret (.ref (s.heap.push { cls:=.type "tuple_iterator",data:=.fields #[.ref l,.int 0 0] }).objs.size)))
    { s with heap:=(s.heap.push { cls:=.type "tuple_iterator",data:=.fields #[.ref l,.int 0 0] }).push { cls:=.type "enumerate",data:=.fields #[.none,.bool false,.ref s.heap.objs.size,rawInt 0,.none,.none] } }):=
 .of_wp fun E w A R s h=>by
  obtain⟨G,g,d,I,os⟩:=s;obtain⟨f,h⟩:=h
  have D:=sub_enumerate;have C:Heap.IsTuple (Shared.heap ⟨G,g,d,I,os⟩) l b:=⟨_,f,rfl,n,rfl⟩;wp_walk using wpAny_loadPart' f
  refine wpAny_stack_any fun st=>zw ?_
  split
  ·rename_i c _ _ _ _ _
   cases(c==Value.type "enumerate")
   ·wp_walk using wpAny_loadPart' f,wpAny_pyIter_tuple C
    exact⟨_,rfl,h⟩
   ·wp_walk using wpAny_loadPart' f,wpAny_pyIter_tuple C
    exact⟨_,rfl,h⟩
  ·wp_walk using wpAny_loadPart' f,wpAny_pyIter_tuple C
   exact⟨_,rfl,h⟩
end
section
variable{prog:Program}{w:World}{A:Around}{E:Value->Shared->Prop}{s:Shared}
theorem yA{l:Addr}{f:Array Value}{Q:Value->Shared->Prop}(I:s.heap.IsTuple l f)
  (h:∀g,IsEnum g (s.heap.objs.size+1) s.heap.objs.size 0 .none->g.IsTupleIter s.heap.objs.size l 0->g.objs.size=s.heap.objs.size+2 ->
   (∀b o,s.heap.get? b=some o->g.get? b=some o)->Q (.ref (s.heap.objs.size+1)) { s with heap:=g }) :
  wpAny (model prog w) A (call (.type "enumerate") [.ref l]) Q E s:=by
 obtain⟨⟨c,B,H,L⟩,J,hc,n,C⟩:=I;replace hc:c=.type "tuple" :=hc
 replace C:H=.seq f n:=C
 subst hc C;refine callType_new F.called_enumerate (by decide) (F.typeCall_enumerate_1 _) (F.newCall_enumerate_1 _) (fun D=>F.args_object_init_2 D _) F.entry_enumerate_new
  (yr l f n B L) ⟨J,?_⟩
 have hz:(s.heap.push { cls:=.type "tuple_iterator",data:=.fields #[.ref l,.int 0 0] }).objs.size=s.heap.objs.size+1:=jV ..;show _/\_;rw[hz];have G:IsEnum ((s.heap.push { cls:=.type "tuple_iterator",data:=.fields #[.ref l,.int 0 0] }).push
   { cls:=.type "enumerate",data:=.fields #[.none,.bool false,.ref s.heap.objs.size,rawInt 0,.none,.none] }) (s.heap.objs.size+1) s.heap.objs.size 0 .none:=by
  have:=zW (s.heap.push { cls:=.type "tuple_iterator",data:=.fields #[.ref l,.int 0 0] })
   (o:={ cls:=.type "enumerate",data:=.fields #[.none,.bool false,.ref s.heap.objs.size,rawInt 0,.none,.none] }) rfl
  rw[hz] at this;exact this
 refine⟨⟨_,G,rfl⟩,h _ G ⟨_,z7 _ (zW _ rfl),rfl,rfl⟩ (by rw[jV,hz]) fun b o x=>z7 _ (z7 _ x)⟩
theorem Draws.tuple{prog:Program}{w:World}{A:Around}(J:A.handled=none)(g l:Addr)(C:l≠g)(b:Array Value) :
  Draws prog w A g [g,l] b.size (fun i v=>b[i]? =some v) (fun i h=>h.IsTupleIter g l i/\h.IsTuple l b) where
 live:=fun _ _ st=>let ⟨o,L,_⟩:=st.1;⟨o,L⟩
 frame:=fun _ _ _ st hk=>⟨ItrK.at (kd:=false) st.1 fun o e=>hk g (by simp) o e,SeqK.at (kd:=false) st.2 fun o e=>hk l (by simp) o e⟩
 item:=fun i s Q E D st I=>by
  refine wI (kd:=false) st.1 st.2 (x:=b[i]) (by simp[D]) fun G c f=>?_
  exact I _ G s.toks (by simp[D]) ⟨c,SeqK.at (kd:=false) st.2 fun o e=>f.extBut l o C e⟩ f
 done:=fun s Q E st H=>yU (kd:=false) J st.1 st.2 (by simp) H
end
def YN(K:W.Frag)(a:Addr):It:=
 ⟨fun i H=>∃b x,SqT K H a b/\b[i]? =some x,fun i H x c=>∃T y,x=.ref T/\H T=none/\c=upd H T (.tup [.int i,y])/\∀b,SqT K H a b->b[i]? =some y,fun i H=>∃b,SqT K H a b/\b.length<=i⟩
theorem YZ{P:Program}{w:World}{K:W.Frag}{M:List Expr}{kk:Nat}{aj:Pos}(a e g:Addr)(G:e≠g) :
  ZE P w K (.Tuple M kk aj) (YN K a) [e,g] e (fun i h=>(∃C,IsEnum h e g i C)/\h.IsTupleIter g a i) where
 mem:=by simp
 obj:=fun i h st b hb=>by
  obtain⟨⟨C,l⟩,⟨o,ho,c,d⟩⟩:=st;rcases qe.mp hb with z | z
  ·subst z;exact⟨_,l,fun v q=>nomatch q⟩
  ·rw[qD.mp z];exact⟨o,ho,fun v q=>by rw[d] at q;cases q⟩
 keep:=fun i h h' st k=>by
  obtain⟨⟨C,l⟩,hi⟩:=st;exact⟨⟨C,k e (by simp) _ l⟩,ItrK.at (kd:=false) hi fun o q=>k g (by simp) o q⟩
 item:=by
  intro X hP hw hK hc i U s σ H E I hf st hg;subst hP hw hK;obtain⟨⟨C,l⟩,B⟩:=st;obtain⟨xs,x,hq,hx⟩:=hg;obtain⟨f,rv,p,hz⟩:=I.tuple hq;obtain⟨u,hu,ru⟩:=rv.get hx;have L:s.heap.IsTuple a f.toArray:=p;have N:a≠g:=fun z=>by
   obtain⟨o,e1,c1,_⟩:=L;obtain⟨o',e2,c2,_⟩:=B;rw[z,e2] at e1;cases e1;rw[c2] at c1;exact absurd (yK c1) (by decide)
  have aa:e≠a:=fun z=>by
   obtain⟨o,e1,c1,_⟩:=L;rw[<- z,l] at e1;cases e1;exact absurd (yK c1) (by decide)
  have D:=Draws.tuple (prog:=X.prog) (w:=X.w) (A:=X.A.in1) (I.ok.hd hc) g a N f.toArray;have hi:i<f.toArray.size:=by
   have h1:=(zC.mp hu).1;simpa using h1
  refine wpAny_pyNext_enum_itemD D l ⟨B,L⟩ hi G (by simp[G,aa]) fun x' h' tk a0 O Q Y am hk=>?_
  have ex:x'=u:=by
   have h2:f[i]? =some x':=by simpa using a0
   rw[hu] at h2;exact(jq h2).symm
  subst ex;refine⟨_,rfl,wpAny_letOwnedTupleGo_enum O fun h2 af J=>?_⟩
  have eT:s.heap.objs.size≠e:=xK (zH l);have k2:∀b o,b∉[e,g]->s.heap.get? b=some o->h2.get? b=some o:=fun b o hb q=>by
   have n1:b≠e:=fun z=>hb (by simp[z])
   have n2:b≠g:=fun z=>hb (by simp[z])
   exact(J.2 b n1).trans (hk b o n1 n2 q)
  have ai:h2.IsTupleIter g a (i+1):=ItrK.at (kd:=false) Q.1 fun o q=>J.extBut g o (z9 G) q
  refine⟨.ref s.heap.objs.size,upd H s.heap.objs.size (.tup [.int i,x]),?_,rfl,⟨_,x,rfl,I.hok.fresh (zJ _),rfl,fun ys hy=>by rw[I.tuple_inj hy hq];exact hx⟩,⟨⟨_,by simpa using af⟩,ai⟩,fun b hb=>?_⟩
  ·refine QS (s:=s) (h':=h2) (t':=tk+1) (its:=[.int i tk,x']) I hf (zJ _) k2 (by rw[sizeLine_eq];exact(by decide:2<=16777216)) (.cons ⟨tk,rfl⟩ (.cons ru .nil)) (TupX.by ((J.2 _ eT).trans Y))
  ·have ab:b<s.heap.objs.size:=by
    rcases qe.mp hb with z | z
    ·rw[z];exact zH l
    ·rw[qD.mp z]
     obtain⟨o',e',_⟩:=B;exact zH e'
   rw[zp (qh ab)];exact(hf b hb).1
 done:=by
  intro X hP hw hK hc i U s σ H E I hf st hg;subst hP hw hK;obtain⟨⟨C,l⟩,B⟩:=st;obtain⟨xs,hq,hx⟩:=hg;obtain⟨f,rv,p,hz⟩:=I.tuple hq;have L:s.heap.IsTuple a f.toArray:=p;have N:a≠g:=fun z=>by
   obtain⟨o,e1,c1,_⟩:=L;obtain⟨o',e2,c2,_⟩:=B;rw[z,e2] at e1;cases e1;rw[c2] at c1;exact absurd (yK c1) (by decide)
  obtain⟨f0,f1,f2,f3,f4,f5⟩:=hf g (by simp)
  have ag:f.toArray.size<=i:=by
   have:=rv.length;simp only[zQ];omega
  have Y:s.TypeIs (.ref e) "enumerate" :=⟨_,l,rfl⟩;unfold pyNext;refine zg (wR (yJ (name:=Str.ofString "__next__") Y We (xS We Y F.entry_enumerate_next ?_ (F.args_enumerate_next_1 _))))
  show wpAny _ _ (field (.ref e) 2 >>= _) _ _ _;refine zg (vm l rfl (x:=.ref g) rfl (zg (yU (kd:=false) (I.ok.hd hc) B L (by simpa using ag) fun h' x ae ah=>?_)))
  obtain⟨o,ho,ac⟩:=ah;refine zg (Za (T:= "StopIteration") (b:=true) ⟨o,ho,ac⟩ isSubtype_stop ?_)
  exact zw ⟨rfl,I.turned (t':=s.toks) (fun b o hb q=>ae b o hb q) f0 f1 f3 f4 f5⟩
 self:=fun _ _ _ _ _ st h=>let ⟨⟨_,l⟩,_⟩:=st;wpAny_pyIter_enum l h
section
variable{X:Cx}
def ziC(K:W.Frag)(c:TA):TI:=fun σ H R=>c σ H fun f b=>∃a,f=[.ref a]/\(∃g,SqT K b a g)/\R (YN K a) b
theorem yn{l:Expr}{D:TA}{p w tp:Pos}{f:List Expr}{T:Nat}(L:Gl X "enumerate")(N:X.mg "enumerate" = none)(J:PA X [l] D)(hs:starEach [l] X.env=[(false,eval l X.env)]:=by rfl) :
  PI X (.Tuple f T tp) (.Call (.Name "enumerate" p) [l] [] w) (ziC X.K D):=by
 intro c s σ H R I h;refine Call_ (wc I L N boot_enumerate (JI (thn (J w c s σ H _ I h) fun us s1 ⟨vs,B,A,r1,Y⟩=>?_) hs rfl))
 obtain⟨a,e,⟨xs,hq⟩,q⟩:=Y;subst e;obtain⟨u,rfl,ru⟩:=wU r1;cases ru;obtain⟨Q,rv,U,hz⟩:=A.tuple hq;refine yA U fun G C M O hk=>wpAny_pyIter_enum C ?_
 have E:Inv X c σ B { s1 with heap:=G }:=A.kept (t':=s1.toks) hk;refine⟨s1.heap.objs.size+1,[s1.heap.objs.size+1,s1.heap.objs.size],_,_,B,rfl,E,YZ a _ _ (Nat.succ_ne_self _),⟨⟨_,C⟩,M⟩,fun b hb=>?_,q⟩
 have g:s1.heap.objs.size<=b:=by
  rcases qe.mp hb with z | z
  ·rw[z];exact vt _
  ·rw[qD.mp z];exact zJ _
 exact A.fpOk g (A.hok.fresh g)
theorem Qh{K:W.Frag}{a:Addr}{xs:List V}{g:TG}{A:TS}{D:Xr}{σ:St}{H:Hp}(Pv:Nat->St->Hp->Prop)(h0:Pv 0 σ H)(G:∀i σ H,i<=xs.length->Pv i σ H->SqT K H a xs)
  (hs:∀i x σ H T,xs[i]? =some x->Pv i σ H->H T=none->g (.ref T) σ (upd H T (.tup [.int i,x])) fun s f=>A { D with nx:=Pv (i+1),ct:=Pv (i+1),bk:=D.nx } s f) (C:∀σ H,Pv xs.length σ H->D.nx σ H) :
  ∃W:Nat->Nat->St->Hp->Prop,(∃m,W 0 m σ H)/\∀i m σ H,W i m σ H ->
   ((YN K a).stop i H/\D.nx σ H)\/((YN K a).go i H/\∃N:St->Hp->Prop,(∀l b,N l b->∃w,w<m/\W (i+1) w l b)/\∀x b,(YN K a).yld i H x b->g x σ b fun s f=>A { D with nx:=N,ct:=N,bk:=D.nx } s f):=by
 refine⟨fun i m σ H=>m=xs.length-i/\i<=xs.length/\Pv i σ H,⟨xs.length,by simp,ji _,h0⟩,?_⟩
 rintro i m σ H ⟨rfl,E,p⟩;have q:=G i σ H E p;by_cases c:i<xs.length
 ·refine .inr ⟨⟨xs,xs[i],q,by simp[c]⟩,Pv (i+1),fun l b I=>⟨xs.length-(i+1),by omega,rfl,c,I⟩,fun x b y=>?_⟩
  obtain⟨T,z,e1,B,e2,y⟩:=y;subst e1 e2;exact hs i z σ H T (y xs q) p B
 ·have e:i=xs.length:=by omega
  subst e;exact .inl ⟨⟨xs,q,zJ _⟩,C σ H p⟩
end
end L2
namespace L2
open PySem PySem.Spec PyProof.Rows
section
variable{b:Program}{w:World}{A:Around}{R:Result->Shared->Prop}{s:Shared}
abbrev lc2(l D c:Expr)(f:List Expr)(E g:Expr)(B:List Expr)(scope:Scope)(C:Pos):Expr:=.ListComp l [⟨D,c,f,0⟩,⟨E,g,B,0⟩] scope C
theorem Yz(D H l:Expr)(B:List Expr)(J g:Expr)(E:List Expr)(scope:Scope)(G:Pos)(I C:Value)(f:Env) :
  compTurn (lc2 D H l B J g E scope G) 1 I C f=(do
   standAt g.pos
   match<-pyNext I with
   | none=>pure (.done .next)
   | some v=>
    letOwnedTupleGo J I v
    assign J f v
    let mut ok:=true
    for c in E do
     if ok then ok<-isTrue c f (eval c f)
    if ok then
     (do let _<-call (.builtin "list.append") [C,<- eval D f])
    again (.compLoop (lc2 D H l B J g E scope G) 1 I C f)):=by rfl
theorem VP(D B f:Expr)(l:List Expr)(I c:Expr)(E:List Expr)(scope:Scope)(G:Pos)(H C:Value)(g:Env) :
  compTurn (lc2 D B f l I c E scope G) 0 H C g=(do
   standAt f.pos
   match<-pyNext H with
   | none=>pure (.done .next)
   | some v=>
    letOwnedTupleGo B H v
    assign B g v
    let ok<-vB l g
    if ok=true then do
     let x<-eval c g
     standAt c.pos
     let x<-foldedSetIterable c g x
     let J<-holding [x] (pyIter x)
     let _<-runOwn (.compStart (lc2 D B f l I c E scope G) 1 J C g) g
     again (.compLoop (lc2 D B f l I c E scope G) 0 H C g)
    else again (.compLoop (lc2 D B f l I c E scope G) 0 H C g)):=by rfl
theorem yy{C G c g L f D scope E J B l}
  (h0:codeAny (model b w) A (.compLoop (lc2 C G c g L f D scope E) 1 J B l) R s)
  (h:wpAny (model b w) A (pyIter J) (fun H I=>codeAny (model b w) A (.compLoop (lc2 C G c g L f D scope E) 1 H B l) R I)
   (notedBy (model b w) A l fun x I=>R (.error x) I) s) :
  codeAny (model b w) A (.compStart (lc2 C G c g L f D scope E) 1 J B l) R s:=by
 refine codeAny_of_tree ?_
 show wpAny _ _ ((compStart (lc2 C G c g L f D scope E) 1 J B l).onRaise (fun x=>do noteFrame x l;standAt theWindowsPlace)) _ _ s
 refine wpAny_notedAt ?_
 unfold compStart;show wpAny _ _ (ask >>= _) _ _ s;refine zg (Qp (wpAny_ite ?_))
 split
 ·first
   | exact zg (zw (zw (And.intro rfl h0)))
   | exact zw (And.intro rfl h0)
 ·first
   | exact zg (vv (zg (vV (zg (qN h (fun H I M=>zw (And.intro rfl M)) fun _ _ x=>x)))))
   | (refine zg (vv ?_);show wpAny _ _ (standAt f.pos >>= _) _ _ s;exact zg (vV (zg (qN h (fun H I M=>zw (And.intro rfl M)) fun _ _ x=>x))))
theorem ziO{l I f:Expr}{B:List Expr}{U C:Expr}{D:List Expr}{scope:Scope}{H:Pos}{M g:Value}{c:Env}(J:Nat->Shared->Prop)
  (L:∀n s,J n s->wpAny (model b w) A (pyNext M) (fun r s1=>match r with
   | none=>R (.ok .next) s1
   | some v=>wpAny (model b w) A (letOwnedTupleGo U M v) (fun _ s2=>wpAny (model b w) A (assign U c v) (fun _ s3=>
     wpAny (model b w) A (vB D c) (fun ok N=>
      if ok=true then wpAny (model b w) A (eval l c) (fun x O=>
       wpAny (model b w) A (call (.builtin "list.append") [g,x]) (fun _ T=>∃m,m<n/\J m T) (fun _ _=>False) O) (fun _ _=>False) N
      else ∃m,m<n/\J m N) (fun _ _=>False) s3) (fun _ _=>False) s2) (fun _ _=>False) s1) (fun _ _=>False) s)
  (n:Nat) (h:J n s):codeAny (model b w) A (.compLoop (lc2 l I f B U C D scope H) 1 M g c) R s:=by
 have G:∀{α:Type} {t:Sem α} {Q:α->Shared->Prop} {E:Value->Shared->Prop} {s:Shared},wpAny (model b w) A t Q (fun _ _=>False) s->wpAny (model b w) A t Q E s:=fun x=>qN x (fun _ _ q=>q) fun _ _ q=>q.elim
 refine codeAny_loop rfl J (fun k u hJ=>?_) n h
 show wpAny _ A ((compTurn (lc2 l I f B U C D scope H) 1 M g c).onRaise (fun x=>do noteFrame x c;theTreesLotGoes x)) _ _ u
 refine wpAny_noted ?_
 rw[Yz];refine zg (vV (zg (G (qN (L k u hJ) (fun r s1 h1=>?_) fun _ _ q=>q))))
 cases r with
 | none=>exact zw h1
 | some v=>
  refine zg (G (qN h1 (fun _ s2 h2=>zg (G (qN h2 (fun _ s3 h3=>zg (G (qN h3 (fun ok N h4=>?_) fun _ _ q=>q))) fun _ _ q=>q))) fun _ _ q=>q))
  cases ok with
  | false=>exact zw ⟨rfl,h4⟩
  | true=>
   have Y:wpAny (model b w) A (eval l c) (fun x O=>wpAny (model b w) A (call (.builtin "list.append") [g,x]) (fun _ T=>∃m,m<k/\J m T) (fun _ _=>False) O) (fun _ _=>False) N:=h4
   refine zg (zg (G (qN Y (fun x O h5=>zg (G (qN h5 (fun _ T h6=>zw (zw ⟨rfl,h6⟩)) fun _ _ q=>q))) fun _ _ q=>q)))
theorem zgN{G C l:Expr}{B:List Expr}{tg c:Expr}{H:List Expr}{scope:Scope}{I:Pos}{O D:Value}{g:Env}(hs:∀x,foldedSetIterable c g x=pure x)(J:Nat->Shared->Prop)
  (M:∀n s,J n s->wpAny (model b w) A (pyNext O) (fun r s1=>match r with
   | none=>R (.ok .next) s1
   | some v=>wpAny (model b w) A (letOwnedTupleGo C O v) (fun _ s2=>wpAny (model b w) A (assign C g v) (fun _ s3=>
     wpAny (model b w) A (vB B g) (fun ok T=>
      if ok=true then wpAny (model b w) A (eval c g) (fun x U=>
       wpAny (model b w) A (pyIter x) (fun N Y=>codeAny (model b w) A (.compStart (lc2 G C l B tg c H scope I) 1 N D g) (fun r s7=>match r with | .ok _=>∃m,m<n/\J m s7 | .error _=>False) Y) (fun _ _=>False) U) (fun _ _=>False) T
      else ∃m,m<n/\J m T) (fun _ _=>False) s3) (fun _ _=>False) s2) (fun _ _=>False) s1) (fun _ _=>False) s)
  (n:Nat) (h:J n s):codeAny (model b w) A (.compLoop (lc2 G C l B tg c H scope I) 0 O D g) R s:=by
 have L:∀{α:Type} {t:Sem α} {Q:α->Shared->Prop} {E:Value->Shared->Prop} {s:Shared},wpAny (model b w) A t Q (fun _ _=>False) s->wpAny (model b w) A t Q E s:=fun x=>qN x (fun _ _ q=>q) fun _ _ q=>q.elim
 refine codeAny_loop rfl J (fun k u hJ=>?_) n h
 show wpAny _ A ((compTurn (lc2 G C l B tg c H scope I) 0 O D g).onRaise (fun x=>do noteFrame x g;theTreesLotGoes x)) _ _ u
 refine wpAny_noted ?_
 rw[VP];refine zg (vV (zg (L (qN (M k u hJ) (fun r s1 h1=>?_) fun _ _ q=>q))))
 cases r with
 | none=>exact zw h1
 | some v=>
  refine zg (L (qN h1 (fun _ s2 h2=>zg (L (qN h2 (fun _ s3 h3=>zg (L (qN h3 (fun ok T h4=>?_) fun _ _ q=>q))) fun _ _ q=>q))) fun _ _ q=>q))
  cases ok with
  | false=>exact zw ⟨rfl,h4⟩
  | true=>
   have a0:wpAny (model b w) A (eval c g) (fun x U=>
       wpAny (model b w) A (pyIter x) (fun N Y=>codeAny (model b w) A (.compStart (lc2 G C l B tg c H scope I) 1 N D g) (fun r s7=>match r with | .ok _=>∃m,m<k/\J m s7 | .error _=>False) Y) (fun _ _=>False) U) (fun _ _=>False) T:=h4
   refine zg (L (qN a0 (fun x U h5=>zg (vV (zg (wQ (hs x) (zg (xN (L (qN h5 (fun N Y h6=>?_) fun _ _ q=>q)))))))) fun _ _ q=>q))
   refine zg (wpAny_runOwn (h:=none) ?_)
   rw[Around.mark_none];refine codeAny_mono h6 fun r s7 h7=>?_
   cases r with
   | ok f=>exact zw ⟨rfl,h7⟩
   | error e=>exact h7.elim
end
def Sub:St->St->Prop
 | [],[]=>True
 | none::r,_::b=>Sub r b
 | some v::r,x::b=>x=some v/\Sub r b
 | _,_=>False
theorem Sub.len:∀{a b:St},Sub a b->a.length=b.length
 | [],[],_=>rfl
 | [],_::_,h=>h.elim
 | none::_,[],h=>h.elim
 | some _::_,[],h=>h.elim
 | none::r,_::c,h=>by rw[xP,xP,Sub.len (a:=r) (b:=c) h]
 | some _::r,_::c,h=>by rw[xP,xP,Sub.len (a:=r) (b:=c) h.2]
theorem Sub.get:∀{a b:St} {i:Nat} {v:V},Sub a b->a[i]? =some (some v)->b[i]? =some (some v)
 | [],[],_,_,_,e=>e
 | [],_::_,_,_,h,_=>h.elim
 | none::_,[],_,_,h,_=>h.elim
 | some _::_,[],_,_,h,_=>h.elim
 | none::r,_::c,0,v,h,e=>by simp at e
 | none::r,_::c,i+1,v,h,e=>by
  rw[List.getElem?_cons_succ] at e ⊢
  exact Sub.get (a:=r) (b:=c) h e
 | some _::r,_::c,0,v,h,e=>by
  rw[List.getElem?_cons_zero] at e ⊢
  rw[h.1];exact e
 | some _::r,_::c,i+1,v,h,e=>by
  rw[List.getElem?_cons_succ] at e ⊢
  exact Sub.get (a:=r) (b:=c) h.2 e
def tIn(O:TI)(g:TG)(M:TT)(L:TE)(Q:List V)(N:List V->Hp->Prop):St->Hp->Prop:=fun A G=>O A G fun J H=>
 ∃W:Nat->Nat->List V->Hp->Prop,(∃m,W 0 m Q H)/\∀i m c l,W i m c l ->
  (J.stop i l/\N c l) \/
  (J.go i l/\∃w:List V->Hp->Prop,(∀c C,w c C->∃E,E<m/\W (i+1) E c C)/\∀x D,J.yld i l x D->g x A D fun B I=>Sub A B/\M B I fun b f=>
   if b=true then L B f fun y s=>c.length<sizeLine/\w (c++[y]) s else w c f)
section
variable{X:Cx}{f C c:Expr}{s:List Expr}{B w:Expr}{l:List Expr}{scope:Scope}{A:Pos}{O L:TI}{g M:TG}{G H:TT}{E:TE}
theorem zgB{Y:Cx}{D:Addr}{Q:List (Addr×Obj)}{σ4:St}{H0:Hp}{s0:Shared}{it:Addr}{fp:List Addr}{tn:Nat->Heap->Prop}{J:It}{R:Result->Shared->Prop}{N:List V->Hp->Prop}{ys:List V}{a0:List Value}{z:Nat}{m0:Nat}{W:Nat->Nat->List V->Hp->Prop}
  (hc:Y.calm=true) (hx:Y.xe=fun _ _=>False) (hg:PG Y B g) (hf:PF Y l G) (he:PE Y f E)
  (T:ZE Y.prog Y.w Y.K B J fp it tn) (fD:∀U:Hp,U D=none->xo Y Q U D) (f2:∀b∈fp,∀U:Hp,U b=none->xo Y Q U b) (nD:∀b∈fp,D≠b)
  (I:Inv Y Q σ4 H0 s0) (st:tn 0 s0.heap) (fr:∀b∈fp,H0 b=none) (af:H0 D=none) (ho:s0.heap.get? D=some { cls:=.type "list",data:=.seq a0.toArray z }) (rv:Vals ys a0) (w0:W 0 m0 ys H0)
  (ab:∀i m zs H7,W i m zs H7 ->
   (J.stop i H7/\N zs H7) \/
   (J.go i H7/\∃N2:List V->Hp->Prop,(∀zs U,N2 zs U->∃m',m'<m/\W (i+1) m' zs U)/\∀x H8,J.yld i H7 x H8->g x σ4 H8 fun σ9 H9=>Sub σ4 σ9/\G σ9 H9 fun b aa=>
    if b=true then E σ9 aa fun y ac=>zs.length<sizeLine/\N2 (zs++[y]) ac else N2 zs aa))
  (ae:∀s',LcE Y D Q σ4 N s'->R (.ok .next) s') :
  codeAny (model Y.prog Y.w) Y.A (.compLoop (lc2 f C c s B w l scope A) 1 (.ref it) (.ref D) Y.env) R s0:=by
 refine ziO (LcJ Y D tn fp Q σ4 W) (fun n s5 j=>qN (zbL hc hx hg hf he T fD f2 nD (fun σ9 U s' J hd=>J.weak hd.len fun k v e=>hd.get e) ab j) (fun r s6 h6=>?_) fun _ _ q=>q) m0 ⟨0,ys,a0,H0,z,I,st,fr,af,ho,rv,w0⟩
 cases r with
 | some v=>exact h6
 | none=>exact ae s6 h6
end
def zi5(s:TI)(n:Nat)(E:List Nat)(O:TG)(l:TT)(Y:TI)(g:TG)(U:TT)(T:TE):TE:=fun σ H Q=>s σ H fun J L=>
 ∃W:Nat->Nat->List V->Hp->Prop,(∃m,W 0 m [] L)/\∀i m f c,W i m f c ->
  (J.stop i c/\f.length<=sizeLine/\∀D,c D=none->Q (.ref D) (upd c D (.lst f))) \/
  (J.go i c/\∃N:List V->Hp->Prop,(∀I A,N I A->∃G,G<m/\W (i+1) G I A)/\∀x B,J.yld i c x B->O x (upS n E σ) B fun w M=>w.drop n=(upS n E σ).drop n/\l w M fun b C=>
   if b=true then tIn Y g U T f N w C else N f C)
section
variable{X:Cx}{w l iter1:Expr}{f:List Expr}{E c:Expr}{A:List Expr}{scope:Scope}{pos:Pos}{M U:TI}{g O:TG}{L B:TT}{G:TE}
theorem zeZ{Y:Cx}{D it:Addr}{C:List Addr}{tn:Nat->Heap->Prop}{J:It}{σ4:St}{Kp:St->Prop}{W:Nat->Nat->List V->Hp->Prop}{N:List V->Hp->Prop}{n:Nat}{s5:Shared}
  (hc:Y.calm=true) (hx:Y.xe=fun _ _=>False) (hg:PG Y l O) (hf:PF Y f B) (bc:PI Y E c M) (bb:PG Y E g) (ba:PF Y A L) (he:PE Y w G) (T:ZE Y.prog Y.w Y.K l J C it tn)
  (fB:∀b∈D::C,∀s:Hp,s b=none->xo Y [] s b) (nD:∀b∈C,D≠b) (bk:∀σ9 s s',Inv Y [] σ9 s s'->Kp σ9->Inv Y [] σ4 s s')
  (au:∀i m zs H7,W i m zs H7->(J.stop i H7/\N zs H7)\/(J.go i H7/\∃N2:List V->Hp->Prop,(∀zs s,N2 zs s->∃m',m'<m/\W (i+1) m' zs s)/\∀x H8,J.yld i H7 x H8->O x σ4 H8 fun σ9 H9=>Kp σ9/\B σ9 H9 fun b am=>
    if b=true then tIn M g L G zs N2 σ9 am else N2 zs am)) (j:LcJ Y D tn C [] σ4 W n s5) :
  wpAny (model Y.prog Y.w) Y.A (pyNext (.ref it)) (fun r s1=>match r with
   | none=>LcE Y D [] σ4 N s1
   | some v=>wpAny (model Y.prog Y.w) Y.A (letOwnedTupleGo l (.ref it) v) (fun _ s2=>wpAny (model Y.prog Y.w) Y.A (assign l Y.env v) (fun _ s3=>
     wpAny (model Y.prog Y.w) Y.A (vB f Y.env) (fun ok s4=>
      if ok=true then wpAny (model Y.prog Y.w) Y.A (eval c Y.env) (fun x s5=>
       wpAny (model Y.prog Y.w) Y.A (pyIter x) (fun i2 s6=>codeAny (model Y.prog Y.w) Y.A (.compStart (lc2 w l iter1 f E c A scope pos) 1 i2 (.ref D) Y.env) (fun r Q=>match r with | .ok _=>∃m,m<n/\LcJ Y D tn C [] σ4 W m Q | .error _=>False) s6) (fun _ _=>False) s5) (fun _ _=>False) s4
      else ∃m,m<n/\LcJ Y D tn C [] σ4 W m s4) (fun _ _=>False) s3) (fun _ _=>False) s2) (fun _ _=>False) s1) (fun _ _=>False) s5:=by
 have af:=hg;have ae:=hf;have ag:=bc
 unfold PG at af;unfold PF at ae;unfold PI at ag
 rw[hx] at af ae ag;obtain⟨i,ys,ah,H5,z5,I5,as,ao,az,ap,aj,w5⟩:=j;have an:=I5.pinned (fp:=[D]) (fun b hb=>by rw[qD.mp hb];exact fB D jm _ az) (fun b hb=>by rw[qD.mp hb];exact⟨_,ap,fun v q=>nomatch q⟩)
 have mD:(D,({ cls:=.type "list",data:=.seq ah.toArray z5 }:Obj))∈[]++qB [D] s5.heap:=qI _ (jb (qD.mpr rfl) ap);have ac:∀{s:Hp},(∀b∈C,s b=none)->∀b∈C,xo Y ([]++qB [D] s5.heap) s b:=fun hn b hb=>by
  obtain⟨a1,a2,a3,a4,a5,a6⟩:=fB b (jS _ hb) _ (hn b hb);refine⟨a1,a2,a3,a4,a5,fun p H=>?_⟩
  rcases qU.mp H with q | q
  ·exact a6 p (jN _ q)
  ·rw[qD.mp (vD ((qU.mp q).resolve_left (by simp))).1];exact nD b hb
 rcases au i n ys H5 w5 with ⟨stop,q⟩ | ⟨go,N2,hN,step⟩
 ·refine thn (T.done Y rfl rfl rfl hc i _ s5 _ H5 _ an (ac ao) as stop) fun r s6 ⟨hr,I6⟩=>?_
  subst hr;obtain⟨o6,bf,_⟩:=I6.pin (D,_) (qI _ mD);exact⟨ys,ah,H5,z5,I6.unpinned,bf,o6,aj,q⟩
 ·refine thn (T.item Y rfl rfl rfl hc i _ s5 _ H5 _ an (ac ao) as go) fun r s6 ⟨u,hr,h6⟩=>?_
  subst hr;refine thn h6 fun _ Q ⟨x,H7,I7,r7,y7,ak,ax⟩=>?_
  refine thn (af _ Q _ H7 x u _ (I7.pinned (ac ax) (T.obj _ _ ak)) r7 (step x H7 y7)) fun _ s8 ⟨σ8,H8,I8,b0,q8⟩=>?_
  refine thn (ae _ s8 σ8 H8 _ I8 q8) fun ok s9 ⟨H9,I9,q9⟩=>?_
  have ai:=jN (qB C Q.heap) mD;have kp:∀{P:List (Addr×Obj)} {s:Hp} {s':Shared},Inv Y P σ8 s s'->(∀p∈qB C Q.heap,p∈P)->Inv Y [] σ4 s s'/\tn (i+1) s'.heap/\∀b∈C,s b=none:=fun {P s s'} J hP=>
   ⟨bk _ _ _ (J.pins_of fun p H=>absurd H (by simp)) b0,T.keep _ _ _ ak fun b hb o e=>(J.pin (b,o) (qI _ (hP _ (jb hb e)))).1,fun b hb=>by
    obtain⟨o,e,_⟩:=T.obj _ _ ak b hb;exact(J.pin (b,o) (qI _ (hP _ (jb hb e)))).2.1⟩
  cases ok with
  | false=>
   obtain⟨m',hm,w'⟩:=hN _ _ (show N2 ys H9 by simpa using q9)
   obtain⟨o9,bg,_⟩:=I9.pin (D,_) (qI _ ai);obtain⟨k1,k2,k3⟩:=kp I9 fun p H=>qI _ H
   exact⟨m',hm,i+1,ys,ah,H9,z5,k1,k2,k3,bg,o9,aj,w'⟩
  | true=>
   refine thn (ag _ s9 σ8 H9 _ I9 (show tIn M g L G ys N2 σ8 H9 by simpa using q9)) fun xv bo ay=>thn ay fun bn bj ⟨bd,aw,bp,J2,bm,ei,aa,T2,a0,ab,W2,⟨m2,w2⟩,al⟩=>?_
   subst ei;obtain⟨bh,ar,_⟩:=aa.pin (D,_) (qI _ ai);have av:∀b∈aw,∀s:Hp,s b=none->xo Y (qB C Q.heap) s b:=fun b hb s hn=>by
    obtain⟨_,a2,a3,a4,a5,a6⟩:=ab b hb;exact⟨hn,a2,a3,a4,a5,fun p H=>a6 p ((qU.mp H).elim (fun q=>jN _ q) fun q=>qI _ (qI _ q))⟩
   have fD:∀s:Hp,s D=none->xo Y (qB C Q.heap) s D:=fun s hn=>by
    obtain⟨a1,a2,a3,a4,a5,a6⟩:=fB D jm _ hn;refine⟨a1,a2,a3,a4,a5,fun p H=>?_⟩
    rcases qU.mp H with q | q
    ·exact a6 p (jN _ q)
    ·exact z9 (nD _ (vD q).1)
   have I:codeAny (model Y.prog Y.w) Y.A (.compLoop (lc2 w l iter1 f E c A scope pos) 1 (.ref bd) (.ref D) Y.env) (fun r Q=>match r with
     | .ok _=>∃m,m<n/\LcJ Y D tn C [] σ4 W m Q
     | .error _=>False) bj:=by
    refine zgB (N:=N2) hc hx bb ba he T2 fD av (fun b hb=>(ab b hb).2.2.2.2.2 (D,_) (qI _ ai)) (aa.pins_of fun p H=>aa.pin p (qI _ (qI _ H))) a0 (fun b hb=>(ab b hb).1) ar bh aj w2 al fun s' h'=>?_
    obtain⟨zs,aq,s,z',I',be,o',bi,q'⟩:=h';obtain⟨m',hm,w'⟩:=hN _ _ q';obtain⟨k1,k2,k3⟩:=kp I' fun p H=>H
    exact⟨m',hm,i+1,zs,aq,s,z',k1,k2,k3,be,o',bi,w'⟩
   exact yy I (T2.self Y.A 0 _ _ _ a0 I)
theorem ze0{C D it:Addr}{fp:List Addr}{tn:Nat->Heap->Prop}{J:It}{W:Nat->Nat->List V->Hp->Prop}{H2:Hp}{s3 s4:Shared}{m0 n:Nat}{R:Result->Shared->Prop}{js:List Nat}{σ:St}{Q:List Str}{N:List V->Hp->Prop}(hc:X.calm=true)
  (hg:∀C s H ex,PG (zK X Q scope C s H ex) l O) (hf:∀C s H ex,PF (zK X Q scope C s H ex) f B) (ag:∀C s H ex,PI (zK X Q scope C s H ex) E c M) (af:∀C s H ex,PG (zK X Q scope C s H ex) E g) (ae:∀C s H ex,PF (zK X Q scope C s H ex) A L) (he:∀C s H ex,PE (zK X Q scope C s H ex) w G)
  (ah:∀C x,foldedSetIterable c (compEnvC scope (jg X.env.cells scope.names []) C X.env) x=pure x) (ac:∀b∈D::fp,∀H':Hp,H' b=none->xo (zK X Q scope C s3 H2 (D::fp)) [] H' b) (fD:∀b∈fp,D≠b) (T:ZE X.prog X.w X.K l J fp it tn)
  (aa:∀i m zs H7,W i m zs H7->(J.stop i H7/\N zs H7)\/(J.go i H7/\∃N2:List V->Hp->Prop,(∀zs H',N2 zs H'->∃m',m'<m/\W (i+1) m' zs H')/\∀x H8,J.yld i H7 x H8->O x (upS n js σ) H8 fun σ9 H9=>σ9.drop n=(upS n js σ).drop n/\B σ9 H9 fun b a0=>
    if b=true then tIn M g L G zs N2 σ9 a0 else N2 zs a0))
  (j:LcJ (zK X Q scope C s3 H2 (D::fp)) D tn fp [] (upS n js σ) W m0 s4) (ab:∀s6,LcE (zK X Q scope C s3 H2 (D::fp)) D [] (upS n js σ) N s6->R (.ok .next) s6) :
  codeAny (model X.prog X.w) X.A (.compLoop (lc2 w l iter1 f E c A scope pos) 0 (.ref it) (.ref D) (compEnvC scope (jg X.env.cells scope.names []) C X.env)) R s4:=by
 have hl:=(let ⟨_,_,_,_,_,I,_,_,_,_,_,_⟩:=j;I.len:(upS n js σ).length=Q.length)
 refine zgN (ah C) (LcJ (zK X Q scope C s3 H2 (D::fp)) D tn fp [] (upS n js σ) W) (fun k s5 j=>qN (zeZ (iter1:=iter1) (scope:=scope) (pos:=pos) (Y:=zK X Q scope C s3 H2 (D::fp)) hc rfl (hg _ _ _ _) (hf _ _ _ _) (ag _ _ _ _) (af _ _ _ _) (ae _ _ _ _) (he _ _ _ _) T ac fD (fun σ9 H' s' J hd=>Wy hl J hd) aa j) (fun r s6 h6=>?_) fun _ _ q=>q) m0 j
 cases r with
 | some v=>exact h6
 | none=>exact ab s6 h6
theorem zh8(own Y:List Str)(js:List Nat)(hc:X.calm=true)(hk:scope.kind=.function)(hb:ZZ scope.names X.env.scope.names X.N Y js=true)(hi:PI X l iter1 U)
  (hg:∀C s H N,PG (zK X (own++Y) scope C s H N) l O) (hf:∀C s H N,PF (zK X (own++Y) scope C s H N) f B)
  (ac:∀C s H N,PI (zK X (own++Y) scope C s H N) E c M) (ab:∀C s H N,PG (zK X (own++Y) scope C s H N) E g) (aa:∀C s H N,PF (zK X (own++Y) scope C s H N) A L) (he:∀C s H N,PE (zK X (own++Y) scope C s H N) w G)
  (hs:∀x,foldedSetIterable iter1 X.env x=pure x:=by intro _;rfl) (ae:∀C x,foldedSetIterable c (compEnvC scope (jg X.env.cells scope.names []) C X.env) x=pure x:=by intro _ _;rfl):PE X (lc2 w l iter1 f E c A scope pos) (zi5 U own.length js O B M g L G):=by
 intro ag s σ H Q I h;rw[eval_ListComp];exact zfl own Y js hk hb hi hs I h (fun C D it fp tn J W H2 s3 s4 m0 R a b T tl j a0=>ze0 hc hg hf ac ab aa he ae a b T tl j a0) fun s6 D C H6 m hn all _ q=>⟨m,hn,fun h7 af=>⟨.ref D,H6,all h7 fun b o hb e=>af.extBut b o hb e,rfl,q⟩⟩
end
section
variable{X:Cx}
inductive yO(K:W.Frag)(c:List V)(H:Hp)(Q:VK):Prop
 | mk (p:Addr) (b:List Bool) (_:c=[.ref p]) (_:SqL K H p (b.map V.bl)) (_:Q (.bl (b.any id)) H):yO K c H Q
theorem X6(hc:X.calm=true):jY X (.builtin "any") (yO X.K):=by
 intro M s σ H xs us Q I r h;obtain⟨p,c,rfl,hq,q⟩:=h;obtain⟨u,rfl,G⟩:=wU r;cases G;obtain⟨f,J,pl,hz⟩:=I.list hq;have D:=pl.isList;have E:p≠s.heap.objs.size:=by
  obtain⟨o,e,_⟩:=D;exact qh (zH e)
 refine call_any_walk (wpAny_pyIter_list D ?_)
 refine⟨s.heap.objs.size,_,_,_,_,_,fun i=>c.getD i false,rfl,JJ (prog:=X.prog) (w:=X.w) (A:=X.A.in1) (I.ok.hd hc) _ p E f.toArray,⟨⟨_,zW _ rfl,rfl,rfl⟩,D.push _⟩,?_,fun Y tk hk=>?_⟩
 ·intro i v s' O E' C hQ
  have C:f.toArray[i]? =some v:=C;have e1:f[i]? =some v:=by simpa using C
  have g:i<c.length:=by
   have h1:=(zC.mp e1).1;have h2:=J.length;rw[zn] at h2;omega
  have e2:(c.map V.bl)[i]? =some (.bl c[i]):=by simp[g]
  obtain⟨u',L,G⟩:=J.get e2;rw[e1] at L;cases L;cases G;have T:c.getD i false=c[i]:=by simp[g]
  have l:O (c.getD i false) s':=hQ;rw[T] at l;exact Zb l
 ·have k:∀b o,s.heap.get? b=some o->Y.get? b=some o:=fun b o e=>hk b o (by simp;exact qh (zH e)) (z7 _ e)
  have U:(List.range f.toArray.size).any (fun i=>c.getD i false)=c.any id:=by
   have B:f.toArray.size=c.length:=by
    have:=J.length;rw[zn] at this;simp only[zQ];omega
   rw[B,xw,yF,yF];constructor
   ·rintro⟨i,g,e⟩
    have g:=xR.mp g;exact⟨c[i],vX g,by simpa [g] using e⟩
   ·rintro⟨b,hb,e⟩
    obtain⟨i,g,rfl⟩:=JV.mp hb;exact⟨i,xR.mpr g,by simpa [g] using e⟩
  exact⟨.bl (c.any id),H,I.kept k,by rw[U];rfl,q⟩
theorem JE:bootBuiltins "any" = some (.builtin "any"):=by decide +kernel
theorem Jq:∀{c:List Int} {b:List Value},Vals (c.map V.int) b->IntsAre b c
 | [],b,h=>by cases h;exact .nil
 | n::c,b,h=>by
  cases h with
  | cons r q=>
   obtain⟨t,rfl⟩:=r;exact .cons n t (Jq q)
theorem QB{k:Int}:∀{c:List Int} {b:List Value},Vals (c.map V.int) b->b.countP (isInt k)=c.count k
 | [],b,h=>by cases h;rfl
 | n::c,b,h=>by
  cases h with
  | cons r q=>
   obtain⟨t,rfl⟩:=r;rw[yD,yC,QB q];rfl
inductive zby(x:V)(c:List V)(H:Hp)(Q:VK):Prop
 | mk (l:Addr) (b:List Int) (k:Int) (_:x=.ref l) (_:c=[.int k]) (_:H l=some (.lst (b.map V.int))) (_:Q (.int (b.count k)) H):zby  x c H Q
theorem zc3:MtM X "list.count" zby:=by
 intro c s σ H x E v D Q I B A h;obtain⟨l,g,k,rfl,rfl,f,q⟩:=h;cases B;obtain⟨u,rfl,w⟩:=A.one;obtain⟨t,rfl⟩:=w;obtain⟨z,b,n,r,C,e⟩:=I.lstM f;refine call_meets F.slot_list_count ⟨_,e,rfl⟩ F.entry_list_count (F.args_list_count_2 _ _) (MeetsSeq.list_count l b.toArray n (.int k t) (isInt k) (fun y hy=>eq_isInt k t (Jq r) y (by simpa using hy))) ⟨e,?_⟩
 refine⟨.int (g.count k),H,I.tok _,⟨s.toks,?_⟩,q⟩
 show Value.int ((b.toArray.toList.countP (isInt k):Nat):Int) s.toks=_;rw[show b.toArray.toList=b by simp,QB r]
theorem X1{α β:Type}(f:α->β):∀(l:List α) (i:Nat),(l.eraseIdx i).map f=(l.map f).eraseIdx i
 | [],_=>rfl
 | _::_,0=>rfl
 | a::r,i+1=>by
  show f a::(r.eraseIdx i).map f=f a::(r.map f).eraseIdx i;rw[X1 f r i]
inductive WZ(x:V)(c:List V)(H:Hp)(Q:VK):Prop
 | mk (l:Addr) (b:List Int) (k:Int) (_:x=.ref l) (_:c=[.int k]) (_:H l=some (.lst (b.map V.int))) (_:k∈b) (_:Q .non (upd H l (.lst ((b.erase k).map V.int)))):WZ  x c H Q
theorem zad:MtM X "list.remove" WZ:=by
 intro E s σ H x vs v us Q I O N h;obtain⟨l,b,k,rfl,rfl,B,hk,q⟩:=h;cases O;obtain⟨u,rfl,w⟩:=N.one;obtain⟨t,rfl⟩:=w;obtain⟨z,c,n,r,L,e⟩:=I.lstM B;rw[zn] at L z;have T:b.idxOf k<b.length:=zaU hk;have f:∀i (C:i<c.length),isInt k c[i]=(b[i]'(by omega)==k):=fun i C=>by
  have e2:(b.map V.int)[i]? =some (.int (b[i]'(by omega))):=by simp[show i<b.length by omega]
  obtain⟨Y,A,w⟩:=r.get e2;rw[jh C] at A;cases A;obtain⟨U,G⟩:=w;rw[G];rfl
 refine call_meets F.slot_list_remove ⟨_,e,rfl⟩ F.entry_list_remove (F.args_list_remove_2 _ _) (MeetsSeq.list_remove l c.toArray n (.int k t) (isInt k) (fun y hy=>eq_isInt k t (Jq r) y (by simpa using hy)) (b.idxOf k) (by simp;omega) ?_ ?_ (by simp;omega)) ⟨e,?_⟩
 ·rw[List.getElem_toArray,f _ (by omega)]
  simp
 ·intro m M g
  rw[List.getElem_toArray,f _ (by simpa using M)]
  have:=List.not_of_lt_findIdx (p:=(·==k)) (xs:=b) (i:=m) (by exact g)
  simpa using this
 refine⟨.non,_,I.lset (its':=c.eraseIdx (b.idxOf k)) B e ?_ ?_ ?_,rfl,q⟩
 ·apply Array.toList_inj.mp
  simp[Array.toList_eraseIdxIfInBounds]
 ·have J:(b.erase k).map V.int=(b.map V.int).eraseIdx (b.idxOf k):=by rw[List.erase_eq_eraseIdx_of_idxOf rfl,X1]
  rw[J];exact r.eraseIdx _
 ·rw[zn]
  exact jk (List.length_erase_le) z
end
theorem Yk{K:W.Frag}{a:Addr}{xs:List V}{g:TG}{J:TT}{I:TE}{A:St}{n:Nat}{R:List V->Hp->Prop}{H:Hp}(Pv:Nat->List V->Hp->Prop)(h0:Pv 0 [] H)
  (h1:∀i c H,Pv i c H->SqT K H a xs)
  (hs:∀i x c H T,xs[i]? =some x->Pv i c H->H T=none->g (.ref T) A (upd H T (.tup [.int i,x])) fun l D=>l.drop n=A.drop n/\J l D fun b s=>
   if b=true then I l s fun v E=>c.length<sizeLine/\Pv (i+1) (c++[v]) E else Pv (i+1) c s)
  (M:∀c H,Pv xs.length c H->c.length<=sizeLine/\R c H) :
  ∃W:Nat->Nat->List V->Hp->Prop,(∃m,W 0 m [] H)/\∀i m c f,W i m c f ->
   ((YN K a).stop i f/\c.length<=sizeLine/\R c f) \/
   ((YN K a).go i f/\∃N:List V->Hp->Prop,(∀c B,N c B->∃G,G<m/\W (i+1) G c B)/\∀x C,(YN K a).yld i f x C->g x A C fun l D=>l.drop n=A.drop n/\J l D fun b s=>
    if b=true then I l s fun y E=>c.length<sizeLine/\N (c++[y]) E else N c s):=by
 refine⟨fun i m c f=>m=xs.length-i/\i<=xs.length/\Pv i c f,⟨_,rfl,ji _,h0⟩,?_⟩
 rintro i m c f ⟨rfl,hi,p⟩;have q:=h1 i c f p;by_cases w:i<xs.length
 ·refine .inr ⟨⟨xs,xs[i],q,by simp[w]⟩,Pv (i+1),fun Y B O=>⟨_,by omega,rfl,w,O⟩,fun x C y=>?_⟩
  obtain⟨T,z,e1,L,e2,y⟩:=y;subst e1 e2;exact hs i z c f T (y xs q) p L
 ·have e:i=xs.length:=by omega
  subst e;obtain⟨Q,U⟩:=M c f p;exact .inl ⟨⟨xs,q,zJ _⟩,Q,U⟩
theorem ze1{K:W.Frag}{a:Addr}{xs:List V}{g:TG}{L:TT}{M:TI}{G:TG}{A:TT}{J:TE}{B:St}{n:Nat}{R:List V->Hp->Prop}{H:Hp}(Pv:Nat->List V->Hp->Prop)(h0:Pv 0 [] H)
  (h1:∀i c H,Pv i c H->SqL K H a xs)
  (hs:∀i x c H,xs[i]? =some x->Pv i c H->g x B H fun l E=>l.drop n=B.drop n/\L l E fun b s=>
   if b=true then tIn M G A J c (Pv (i+1)) l s else Pv (i+1) c s)
  (O:∀c H,Pv xs.length c H->c.length<=sizeLine/\R c H) :
  ∃W:Nat->Nat->List V->Hp->Prop,(∃m,W 0 m [] H)/\∀i m c f,W i m c f ->
   ((Itl K a).stop i f/\c.length<=sizeLine/\R c f) \/
   ((Itl K a).go i f/\∃N:List V->Hp->Prop,(∀c C,N c C->∃I,I<m/\W (i+1) I c C)/\∀x D,(Itl K a).yld i f x D->g x B D fun l E=>l.drop n=B.drop n/\L l E fun b s=>
    if b=true then tIn M G A J c N l s else N c s):=by
 refine⟨fun i m c f=>m=xs.length-i/\i<=xs.length/\Pv i c f,⟨_,rfl,ji _,h0⟩,?_⟩
 rintro i m c f ⟨rfl,hi,p⟩;have q:=h1 i c f p;by_cases w:i<xs.length
 ·refine .inr ⟨⟨xs,xs[i],q,by simp[w]⟩,Pv (i+1),fun Y C Q=>⟨_,by omega,rfl,w,Q⟩,fun x D y=>?_⟩
  obtain⟨e,y⟩:=y;subst e;exact hs i x c _ (y xs q) p
 ·have e:i=xs.length:=by omega
  subst e;obtain⟨T,U⟩:=O c f p;exact .inl ⟨⟨xs,q,zJ _⟩,T,U⟩
theorem ziB{K:W.Frag}{a:Addr}{xs:List V}{g:TG}{L:TT}{J:TE}{A:St}{N:List V->Hp->Prop}{M:List V}{H:Hp}(Pv:Nat->List V->Hp->Prop)(h0:Pv 0 M H)
  (h1:∀i c H,Pv i c H->SqT K H a xs)
  (hs:∀i x c H,xs[i]? =some x->Pv i c H->g x A H fun l D=>Sub A l/\L l D fun b s=>
   if b=true then J l s fun v E=>c.length<sizeLine/\Pv (i+1) (c++[v]) E else Pv (i+1) c s)
  (O:∀c H,Pv xs.length c H->N c H) :
  ∃W:Nat->Nat->List V->Hp->Prop,(∃m,W 0 m M H)/\∀i m c f,W i m c f ->
   ((Itt K a).stop i f/\N c f) \/
   ((Itt K a).go i f/\∃G:List V->Hp->Prop,(∀c B,G c B->∃I,I<m/\W (i+1) I c B)/\∀x C,(Itt K a).yld i f x C->g x A C fun l D=>Sub A l/\L l D fun b s=>
    if b=true then J l s fun y E=>c.length<sizeLine/\G (c++[y]) E else G c s):=by
 refine⟨fun i m c f=>m=xs.length-i/\i<=xs.length/\Pv i c f,⟨_,rfl,ji _,h0⟩,?_⟩
 rintro i m c f ⟨rfl,U,p⟩;have q:=h1 i c f p;by_cases w:i<xs.length
 ·refine .inr ⟨⟨xs,xs[i],q,by simp[w]⟩,Pv (i+1),fun T B Q=>⟨_,by omega,rfl,w,Q⟩,fun x C y=>?_⟩
  obtain⟨e,y⟩:=y;subst e;exact hs i x c _ (y xs q) p
 ·have e:i=xs.length:=by omega
  subst e;exact .inl ⟨⟨xs,q,zJ _⟩,O c f p⟩
section
variable{X:Cx}{g b:Expr}{f:List Expr}{c:Expr}{l:List Expr}{scope:Scope}{B:Pos}{N A:TI}{L w:TT}{J:TE}{x y z:Str}{E G I M Q:Pos}{D O:Nat}
theorem zf8(U:List Str)(js:List Nat)(hc:X.calm=true)(hk:scope.kind=.function)(hb:we scope.names X.env.scope.names X.N [x,y,z] U js=true)(hi:PI X (.Tuple [.Name x E,.Name y G] D M) b A)
  (hf:∀C s H T,PF (zK X ([x,y,z]++U) scope C s H T) f w) (aa:∀C s H T,PI (zK X ([x,y,z]++U) scope C s H T) (.Name z I) c N) (a0:∀C s H T,PF (zK X ([x,y,z]++U) scope C s H T) l L) (he:∀C s H T,PE (zK X ([x,y,z]++U) scope C s H T) g J)
  (hs:∀x,foldedSetIterable b X.env x=pure x:=by intro _;rfl) (ab:∀C x,foldedSetIterable c (compEnvC scope (jg X.env.cells scope.names []) C X.env) x=pure x:=by intro _ _;rfl) :
  PE X (lc2 g (.Tuple [.Name x E,.Name y G] D M) b f (.Name z I) c l scope B) (zi5 A 3 js (VL X.K 2 (vk (xt 0) (vk (xt 1) Ys))) w N (xt 2) L J):=by
 obtain⟨h1,h2,Y⟩:=xZ hb;refine zh8 [x,y,z] U js hc hk h1 hi (fun C s H T=>?_) hf aa (fun C s H T=>xA (h2 z (by simp)) Y rfl) a0 he hs ab
 exact qL (X:=zK X ([x,y,z]++U) scope C s H T) hc (zr (xA (h2 x (by simp)) Y rfl) (zr (xA (h2 y (by simp)) Y rfl) qk))
end
section
variable{X:Cx}
theorem Vt{K:W.Frag}(h:X.K=K){f l:Expr}{b:TE}(c:PE X l b):PI X f l (zkr K b):=by rw[<- h];exact xg c
theorem W3{K:W.Frag}(h:X.K=K){f l:Expr}{b:TE}(c:PE X l b):PI X f l (zht K b):=by rw[<- h];exact qg c
def tLT(K:W.Frag)(t:TE):TT:=fun σ H Q=>t σ H fun x b=>∃a c,x=.ref a/\SqL K b a c/\Q (!c.isEmpty) b
theorem zf0{e:Expr}{t:TE}(h:PE X e t)(B:∀b,isTrue e X.env b=(do let v<-b;standAt e.pos;holding [v] (truthy v)):=by intro _;rfl):PT X e (tLT X.K t):=by
 intro c s σ H Q I D;refine isTrue_plain (thn (h c s σ H _ I D) fun v s1 ⟨x,w,f,J,G⟩=>?_) (B _)
 obtain⟨a,A,rfl,hq,q⟩:=G;cases(show v=_ from J)
 obtain⟨g,l,E,hz⟩:=f.list hq;have C:=l.length;refine wpAny_truthy_list E.isList (by rw[zQ,<- C];rw[sizeLine_eq] at hz;omega) ?_
 have e:(!A.isEmpty)=(!g.toArray.isEmpty):=by
  cases A with
  | nil=>cases l;rfl
  | cons y L=>cases l;rfl
 first
  | exact⟨w,f.tok _,by rw[e] at q;simpa using q⟩
  | exact⟨w,f,by rw[e] at q;simpa using q⟩
end
section
variable{X:Cx}{l C b:Expr}{c:List Expr}{N f:Expr}{s:List Expr}{scope:Scope}{A:Pos}{Q E:TI}{g G:TG}{M B:TT}{L:TE}{x z:Str}{I J O D:Pos}{H w:Nat}
end
def XZ:Nat->List Obj->PySem.W.Frag
 | _,[]=>[]
 | n,o::r=>match o.data with
  | .freed=>XZ (n+1) r
  | _=>(n,o)::XZ (n+1) r
def VM(h:Heap):PySem.W.Frag:=XZ 0 h.objs.toList
theorem Yu:∀{l:List Obj} {n a:Nat} {o:Obj},(XZ n l).lookup a=some o->n<=a/\l[a-n]? =some o/\o.data≠.freed
 | [],n,a,o,h=>by cases h
 | x::r,n,a,o,h=>by
  have b:(XZ (n+1) r).lookup a=some o->n<=a/\(x::r)[a-n]? =some o/\o.data≠.freed:=fun h=>by
   obtain⟨h1,h2,c⟩:=Yu h;refine⟨by omega,?_,c⟩
   rw[show a-n=(a-(n+1))+1 by omega];exact h2
  unfold XZ at h;split at h
  ·exact b h
  ·rename_i f
   rw[jX] at h;split at h
   ·rename_i e
    cases h;have:=xu.mp e;subst this;exact⟨zJ _,by simp,f⟩
   ·exact b h
theorem zdc(h:Heap):(VM h).In h:=fun a o e=>by
 obtain⟨_,h2,f⟩:=Yu e;have h2:h.objs[a]? =some o:=by simpa using h2
 unfold Heap.get?;rw[h2];obtain⟨c,d,b,g⟩:=o;cases b<;>first| rfl | exact absurd rfl f
inductive Fd(K:W.Frag)(b:Str)(st:Stmt):Prop
 | mk (f:Addr) (c:FuncData) (a:PySem.W.nsIn K mainGlobals b=some (some (.ref f))) (F:Fun K b b st f c):Fd K b st
def zkp:Value->Bool
 | .none=>true
 | _=>false
def VN(K:W.Frag)(c:Str):Option (Arguments×FuncBody×Scope×Bool):=match PySem.W.nsIn K mainGlobals c with
 | some (some (.ref f))=>(match K.lookup f with
  | some ⟨_,_,.func b,_⟩=>some (b.params,b.body,b.scope,b.name==c&&(b.qualname==c&&(b.globals==mainGlobals&&(b.closure.isEmpty&&(zkp b.defaults&&(b.builtins==builtinsNs&&PySem.W.codeIn K b.code c))))))
  | _=>none)
 | _=>none
def zbT(st:Stmt):Option (Arguments×FuncBody×Scope×Bool):=some (ZX st,.stmts (wL st),zy st,true)
theorem zkz{K:W.Frag}{G:Str}{st:Stmt}(e:VN K G=zbT st):Fd K G st:=by
 unfold VN zbT at e;split at e
 ·rename_i f J
  split at e
  ·rename_i c d I sl D
   simp only[zaF,Prod.mk.injEq,xO] at e;obtain⟨e1,e2,C,b,g,l,s,w,A,E⟩:=e;obtain⟨L,qn,Y,N,sc,T,Q,B,U,H,pm,M,O,ct,bl⟩:=I;dsimp only at e1 e2 C b g l s w A E;have b:=xu.mp b;have g:=xu.mp g;have l:=xu.mp l;have s:=List.isEmpty_iff.mp s;have A:=xu.mp A;have w:B=.none:=by cases B<;>first| rfl | exact Bool.noConfusion w
   subst e1 e2 C b g l s w A;exact⟨f,_,J,⟨⟨_,_,_,_,_,_,_,_,_,rfl,D,E⟩,by unfold PySem.W.keepIn;dsimp only;rw[D]⟩⟩
  ·cases e
 ·cases e
theorem ziF{K:W.Frag}{l:List (Str×Stmt)}(e:l.map (fun x=>VN K x.1)=l.map fun x=>zbT x.2)(i:Nat){b:Str}{st:Stmt}(h:l[i]? =some (b,st)):Fd K b st:=by
 have:=congrArg (fun z=>z[i]?) e
 simp only[zZ,h,Qo,zaF] at this;exact zkz this
theorem zgM{K:W.Frag}{l:List Str}(e:l.map (fun x=>PySem.W.nsIn K mainGlobals x)=l.map fun _=>some none){x:Str}(i:Nat)(h:l[i]? =some x):PySem.W.nsIn K mainGlobals x=some none:=by
 have:=congrArg (fun z=>z[i]?) e
 simpa only[zZ,h,Qo,zaF] using this
def ziY:List Value->Option (List Str)
 | []=>some []
 | .str x _::r=>(ziY r).map (x:: ·)
 | _=>none
def zhz(K:W.Frag)(c:Str):Option (List Str×Bool):=match PySem.W.nsIn K mainGlobals c with
 | some (some (.ref a))=>(match K.lookup a with
  | some ⟨.type t,_,.seq b _,_⟩=>(ziY b.toList).map fun l=>(l,t == "tuple" && decide (b.size<=1000))
  | _=>none)
 | _=>none
def zir(c:List (Str×Stmt))(b:List Str)(f:List (Str×List Str))(K:W.Frag):List (Option (Arguments×FuncBody×Scope×Bool))×List (Option (Option Value))×List (Option (List Str×Bool)):=
 (c.map fun x=>VN K x.1,b.map fun x=>PySem.W.nsIn K mainGlobals x,f.map fun x=>zhz K x.1)
def ziJ(c:List (Str×Stmt))(b:List Str)(f:List (Str×List Str)):List (Option (Arguments×FuncBody×Scope×Bool))×List (Option (Option Value))×List (Option (List Str×Bool)):=
 (c.map fun x=>zbT x.2,b.map fun _=>some none,f.map fun x=>some (x.2,true))
def ziK(s:Stmt):Pos:=match s with
 | .FunctionDef _ _ _ _ _ _ _ _ _ p=>p
 | _=>⟨0,0,0,0⟩
def defRec(x:Str)(s:Stmt):DefRec:=⟨x,ZX s,wL s,zy s,ziK s⟩
structure Tp(P:Program)(w:World)(K:W.Frag)(mg:Str->Option Value)(base h:Heap)(ds:List (Str×Stmt))(bs:List Str)(ts:List (Str×List Str)):Prop where
 x:K.In h
 g:h.Ns mainGlobals mg
 e:zir ds bs ts K=ziJ ds bs ts
section
variable{P:Program}{w:World}{K:W.Frag}{g:Str->Option Value}{c h:Heap}{l:List (Str×Stmt)}{s:List Str}{A:List (Str×List Str)}
theorem Tp.fd(Z:Tp P w K g c h l s A)(i:Nat){b:Str}{st:Stmt}(f:l[i]? =some (b,st)):Fd K b st:=ziF (congrArg Prod.fst Z.e) i f
theorem Tp.bl(Z:Tp P w K g c h l s A)(i:Nat){x:Str}(b:s[i]? =some x):g x=none:=PySem.W.mg_none_of Z.x Z.g (zgM (congrArg (fun z=>z.2.1) Z.e) i b)
theorem Tp.dfn(Z:Tp P w K g c h l s A)(i:Nat){C:Str}{st:Stmt}{k:Nat}{D:List Str}{I:Sp}(L:l[i]? =some (C,st))
  (ok:∀f fd,Fun K C C st f fd->g C=some (.ref f)->Binds K fd D []->qY P w K g c CX0 k f fd D I)
  (hb:∀(kV H M:Value) (J:Option Addr) (G ct:Value) (E:List Value),E.length=D.length->bindArgs (PySem.W.fnOf C C (ZX st) (wL st) (zy st) .none kV H M J G ct) ⟨E,[]⟩=pure (D.zip E):=by
   intro _ _ _ _ _ _ E B;first| (obtain⟨_,rfl⟩:=zko B;rfl) | (obtain⟨_,_,rfl⟩:=zkn B;rfl) | (obtain⟨_,_,_,rfl⟩:=zkm B;rfl) | (obtain⟨_,_,_,_,rfl⟩:=zkl B;rfl) | (obtain⟨_,_,_,_,_,rfl⟩:=zkk B;rfl) | (obtain⟨_,_,_,_,_,_,rfl⟩:=zkj B;rfl) | (exact match E,B with | [],_=>rfl)) :
  Dfn P w K g c C k D I:=by
 obtain⟨f,fd,a,F⟩:=Z.fd i L;have b:=F.binds hb;have m:=PySem.W.mg_of Z.x Z.g a;exact⟨f,fd,ok f fd F m b,m,F.kp,b⟩
end
inductive Seen{β:Type}(f:PySem.W.Frag->β)(v:β)(w:World)(h:Heap):Prop
 | mk (K:W.Frag) (k:K.In h) (e:f K=v):Seen f v w h
theorem Seen.keeps{β:Type}{f:PySem.W.Frag->β}{v:β}(w:World)(h c:Heap)(s:Seen f v w h)(k:∀b o,h.get? b=some o->c.get? b=some o):Seen f v w c:=by
 obtain⟨K,x,e⟩:=s;exact⟨K,x.keeps k,e⟩
theorem walkS{l:PySem.W.OpenLaw}{n k:Nat}{q:Program}{A:List Str}{T:(Str->Option Value)->Heap->Prop}{β:Type}{f:PySem.W.Frag->β}{v:β}{d:DefRec}{sp:PySem.W.Frag->Sp}{x:Str}
  (hn:l.most=some n) (M:n<=sizeLine) (J:d.params.defaults=[]) (hr:Room k callerA)
  (F:∀(w:World) (B:Str->Option Value) (D:Addr) (K:W.Frag) (h:Heap),K.In h->f K=v->h.Ns mainGlobals B->B d.name=some (.ref D) ->
   ∃I:FuncData,(∀(s:Shared) (u:Value),BindsTo s I ⟨[u],[]⟩ [(x,u)]) /\
    ∀b:Heap,K.In b->b.Ns mainGlobals B->qY l.prog w K B b CX0 k D I [x] (sp K))
  (N:∀(K:W.Frag) (H:Hp) (a:Addr) (E:List Int),E.length<=n->ziW H->SqL K H a (E.map V.int)->sp K [.ref a] H (fun v _=>v=.bl true) fun _ _ _=>False) :
  PySem.W.WalkO q A T (Seen f v) l.row.toRowW d [] (fun f Q=>PySem.call f Q):=by
 refine Att.attach_call hn J fun w s₀ s₁ B mb D o pm cd U a Q E G Y ho hd a0 L C g c hg=>?_
 obtain⟨K,O,e⟩:=Y;obtain⟨I,hb,hF⟩:=F w B D K _ O e G.T.g L;exact ze2 O G.T.g G.T.b G.T.builtins G.T.nolimit hg C g (jk c M) hr hF hb (fun H hO hS=>N K H a E c hO hS) fun H e s' z=>z
theorem ownHead{l:PySem.W.OpenLaw}{q:Program}{b:List Str}{β:Type}{f:PySem.W.Frag->β}{v:β}{d:DefRec}(N:Nat)
  (g:l.wellSaid=true)
  (left:∀w,(PySem.W.openEnds treeTable l.prog w N).map (fun s=>(PySem.W.openSeen q b (importedModules l.prog.main.body) (fun _=>true) true s,f (VM s.heap)))=some (PySem.W.openGood q b,v))
  (c:PySem.W.defOf q l.name=some (d,[])) (A:l.prog.theDef l.name=some (d.params,d.body,d.scope)) (hk:PySem.W.kwWritten? d.params.kwonlyargs d.params.kw_defaults=some [])
  (ok:(PySem.W.chainsOk q&&PySem.W.opensWell l.prog&&(PySem.W.frees l.row.toRowW&&l.row.within.isEmpty))=true) (hb:l.prog.bare) (B:l.row.toRowW.promised)
  (call:PySem.W.WalkO q b (fun _ _=>True) (Seen f v) l.row.toRowW d [] fun f D=>PySem.call f D):l.Holds:=
 PySem.W.holds_law g fun C=>PySem.W.holds_open (r:=l.row) (Yf:=fun s=>f (VM s.heap)) (Ya:=fun _=>v) left (fun _ s e=>⟨_,zdc s.heap,e⟩) Seen.keeps (fun _ _=>trivial) (fun _ _ _ _ _=>trivial) c A hk (fun _ _=>PySem.W.recFacts_nil rfl) (VY _) C ok hb B call
def topL(i:Nat):Stmt:=PySem.Challenge.pw_pickboard_k43_mended_right_and_least.main.body.getD i (.Pass ⟨0,0,0,0⟩)
structure Blt(mg:Str->Option Value):Prop where
 abs:mg "abs" = none
 all:mg "all" = none
 any:mg "any" = none
 bool:mg "bool" = none
 dict:mg "dict" = none
 divmod:mg "divmod" = none
 enumerate:mg "enumerate" = none
 int:mg "int" = none
 isinstance:mg "isinstance" = none
 len:mg "len" = none
 list:mg "list" = none
 max:mg "max" = none
 min:mg "min" = none
 range:mg "range" = none
 set:mg "set" = none
 sorted:mg "sorted" = none
 str:mg "str" = none
 sum:mg "sum" = none
 tuple:mg "tuple" = none
 zip:mg "zip" = none
theorem YG:bootBuiltins "abs" = some (.builtin "abs"):=by decide +kernel
theorem JD:bootBuiltins "max" = some (.builtin "max"):=by decide +kernel
theorem zfo:bootBuiltins "min" = some (.builtin "min"):=by decide +kernel
theorem YF:bootBuiltins "divmod" = some (.builtin "divmod"):=by decide +kernel
theorem yB:bootBuiltins "int" = some (.type "int"):=by decide +kernel
theorem xJ:bootBuiltins "list" = some (.type "list"):=by decide +kernel
theorem jM:bootBuiltins "tuple" = some (.type "tuple"):=by decide +kernel
theorem zdm:bootBuiltins "bool" = some (.type "bool"):=by decide +kernel
theorem jK:bootBuiltins "sorted" = some (.builtin "sorted"):=by decide +kernel
theorem X7:bootBuiltins "dict" = some (.type "dict"):=by decide +kernel
def zdq(i:Int):Int:=if i<0 then -i else i
def zjI:Str:= "abcdefghijklmnopqrstuvwxyz"
def Yj(c:Nat):Bool:=decide (97<=c)&&decide (c<=122)
theorem zeW:zjI.cps.toList=List.range' 97 26:=by decide +kernel
def zal:List (Str×Stmt):=[(("is_number":Str),topL 1),(("is_number_within":Str),topL 2),(("is_tuple_of":Str),topL 4),(("is_tuple_upto":Str),topL 5),(("turned":Str),topL 6),(("next_by":Str),topL 7),(("steps_from":Str),topL 8),(("all_from":Str),topL 9),(("ahead_of":Str),topL 10),(("feeders_for":Str),topL 11),(("picks_in":Str),topL 13),(("staying_picks":Str),topL 14),(("new_feeders":Str),topL 15),(("dropped_parts":Str),topL 16),(("mended_trip":Str),topL 17),(("mended_plan":Str),topL 18),(("restocked_job":Str),topL 19),(("flaw_at_pick":Str),topL 21),(("flaw_at_lay":Str),topL 22),(("flaw_in_trip":Str),topL 23),(("flaw_of":Str),topL 24),(("is_pick":Str),topL 26),(("are_picks":Str),topL 27),(("are_lays":Str),topL 28),(("is_trip":Str),topL 29),(("is_right":Str),topL 30),(("_law_box":Str),topL 32),(("_law_take":Str),topL 33),(("_law_folded":Str),topL 34),(("_law_spelled":Str),topL 35),(("_law_name":Str),topL 36),(("_law_names":Str),topL 37),(("_law_place":Str),topL 38),(("_law_places":Str),topL 39),(("_law_shuffled":Str),topL 40),(("_law_feeders":Str),topL 41),(("_law_aheads":Str),topL 42),(("_law_job":Str),topL 43),(("_law_order":Str),topL 44),(("_law_trip":Str),topL 45),(("_law_plan":Str),topL 46),(("_law_over":Str),topL 47),(("_law_stock_now":Str),topL 48),(("_law_all_picks":Str),topL 49),(("_law_broken":Str),topL 50),(("_law_trips_right":Str),topL 51),(("_law_staying":Str),topL 52),(("_law_want_right":Str),topL 53),(("_law_right":Str),topL 54),(("law":Str),topL 55)]
def zdn:List Str:=[("abs":Str),("all":Str),("any":Str),("bool":Str),("dict":Str),("divmod":Str),("enumerate":Str),("int":Str),("isinstance":Str),("len":Str),("list":Str),("max":Str),("min":Str),("range":Str),("set":Str),("sorted":Str),("str":Str),("sum":Str),("tuple":Str),("zip":Str)]
def zcD:List (Str×List Str):=[]
def zjm:List Str:=zal.dropLast.map (·.1)++[("__name__":Str)]
def zhN:Program:={ PySem.Challenge.pw_pickboard_k43_mended_right_and_least with main:={ PySem.Challenge.pw_pickboard_k43_mended_right_and_least.main with body:=[topL 55] } }
theorem head1:PySem.Challenge.rw_pickboard_k43_mended_right_and_least.wellSaid=true:=by kernel_rfl
theorem head2:∀w,(PySem.W.openEnds treeTable PySem.Challenge.pw_pickboard_k43_mended_right_and_least w 9999).map (fun s=>(PySem.W.openSeen zhN zjm (importedModules PySem.Challenge.pw_pickboard_k43_mended_right_and_least.main.body) (fun _=>true) true s,zir zal zdn zcD (VM s.heap)))=some (PySem.W.openGood zhN zjm,ziJ zal zdn zcD):=fun w=>by kernel_rfl
theorem head3:(PySem.W.chainsOk zhN&&PySem.W.opensWell PySem.Challenge.pw_pickboard_k43_mended_right_and_least&&(PySem.W.frees PySem.Challenge.rw_pickboard_k43_mended_right_and_least.row.toRowW&&PySem.Challenge.rw_pickboard_k43_mended_right_and_least.row.within.isEmpty))=true:=by kernel_rfl
section
variable{κ:Type}[DecidableEq κ]
def jr(b:List (κ×V))(k:κ):Option V:=(b.find? fun c=>decide (c.1=k)).map (·.2)
def xm(b:List (κ×V))(k:κ)(v:V):List (κ×V):=
 if(b.any fun c=>decide (c.1=k))=true then b.map (fun c=>if c.1=k then(c.1,v) else c) else b++[(k,v)]
theorem jF{p:κ×V}{r:List (κ×V)}{k:κ}(e:p.1=k):jr (p::r) k=some p.2:=by simp[jr,wj,e]
theorem jG{p:κ×V}{r:List (κ×V)}{k:κ}(e:¬p.1=k):jr (p::r) k=jr r k:=by simp[jr,wj,e]
theorem wm(k:κ):∀b:List (κ×V),(b.any fun c=>decide (c.1=k))=(jr b k).isSome
 | []=>rfl
 | p::r=>by
  rw[vQ];by_cases e:p.1=k
  ·simp only[jF e,zV e,Bool.true_or,zaK]
  ·rw[jG e,jd e,VZ];exact wm k r
theorem Wx(k j:κ)(y:V):∀b:List (κ×V),jr (b.map fun c=>if c.1=k then(c.1,y) else c) j=(jr b j).map fun x=>if j=k then y else x
 | []=>rfl
 | p::r=>by
  have f:=Wx k j y r;rw[qO];by_cases h:p.1=k
  ·rw[zv h]
   by_cases e:p.1=j
   ·rw[jF (p:=(p.1,y)) e,jF e,Qo,zv (e.symm.trans h)]
   ·rw[jG (p:=(p.1,y)) e,jG e,f]
  ·rw[zu h]
   by_cases e:p.1=j
   ·rw[jF (p:=p) e,jF e,Qo,zu (fun z=>h (e.trans z))]
   ·rw[jG (p:=p) e,jG e,f]
theorem Xx(k j:κ)(y:V):∀b:List (κ×V),jr b k=none->jr (b++[(k,y)]) j=if j=k then some y else jr b j
 | [],_=>by
  by_cases e:k=j
  ·rw[zv e.symm];exact jF (p:=(k,y)) e
  ·rw[zu (fun z=>e z.symm)];exact jG (p:=(k,y)) e
 | p::r,c=>by
  rw[List.cons_append];have hk:¬p.1=k:=fun z=>by rw[jF z] at c;cases c
  rw[jG hk] at c;have f:=Xx k j y r c;by_cases e:p.1=j
  ·rw[jF e,jF e,zu (fun z=>hk (e.trans z))]
  ·rw[jG e,jG e,f]
theorem QY(b:List (κ×V))(k j:κ)(y:V):jr (xm b k y) j=if j=k then some y else jr b j:=by
 unfold xm;by_cases a:(b.any fun c=>decide (c.1=k))=true
 ·rw[zv a,Wx]
  rw[wm] at a;by_cases e:j=k
  ·obtain⟨x,hx⟩:=Option.isSome_iff_exists.mp a
   rw[zv e,e,hx,Qo,zv rfl]
  ·rw[zu e]
   cases jr b j with
   | none=>rfl
   | some x=>rw[Qo,zu e]
 ·rw[zu a]
  refine Xx k j y b ?_
  rw[wm] at a;cases q:jr b k with
  | none=>rfl
  | some x=>rw[q] at a;exact(a rfl).elim
theorem vg(b:List (κ×V))(k:κ)(v:V):(xm b k v).length<=b.length+1:=by
 unfold xm;split
 ·rw[zn];omega
 ·rw[qo,xP,Zv];omega
theorem ZM{b:List (κ×V)}{k:κ}(v:V)(h:jr b k=none):xm b k v=b++[(k,v)]:=by
 unfold xm;rw[wm,h];exact zu (by decide)
theorem RelO.isSome_eq{o:Option V}{u:Option Value}(r:RelO o u):o.isSome=u.isSome:=by
 cases o with
 | none=>cases u with
  | none=>rfl
  | some _=>exact(show False from r).elim
 | some _=>cases u with
  | none=>exact(show False from r).elim
  | some _=>rfl
theorem RelO.getD{o:Option V}{u:Option Value}{d:V}{b:Value}(r:RelO o u)(c:RelV d b):RelV (o.getD d) (u.getD b):=by
 cases o with
 | none=>cases u with
  | none=>exact c
  | some _=>exact(show False from r).elim
 | some _=>cases u with
  | none=>exact(show False from r).elim
  | some _=>exact r
theorem KV.val{c:List (κ×V)}{l:List (κ×Value)}(r:KV c l)(k:κ):RelO (jr c k) (valueAt l k):=by
 unfold KV at r;induction r with
 | nil=>exact True.intro
 | @cons p q w g h t s=>
  obtain⟨h1,h2⟩:=h;by_cases e:p.1=k
  ·have f:q.1=k:=h1.symm.trans e
   have b:valueAt (q::g) k=some q.2:=by simp[valueAt,wj,f]
   rw[jF e,b];exact h2
  ·have f:¬q.1=k:=fun z=>e (h1.trans z)
   have b:valueAt (q::g) k=valueAt g k:=by simp[valueAt,wj,f]
   rw[jG e,b];exact s
theorem KV.any{b:List (κ×V)}{f:List (κ×Value)}(r:KV b f)(k:κ):(b.any fun c=>decide (c.1=k))=f.any fun c=>decide (c.1=k):=by
 unfold KV at r;induction r with
 | nil=>rfl
 | cons h t g=>rw[vQ,vQ,g,h.1]
theorem KV.repl{c:List (κ×V)}{f:List (κ×Value)}(r:KV c f)(k:κ){y:V}{u:Value}(l:RelV y u) :
  KV (c.map fun b=>if b.1=k then(b.1,y) else b) (f.map fun b=>if b.1=k then(b.1,u) else b):=by
 unfold KV at r ⊢;induction r with
 | nil=>exact .nil
 | @cons p q s w h t g=>
  rw[qO,qO];refine .cons ?_ g
  obtain⟨h1,h2⟩:=h;by_cases e:p.1=k
  ·rw[zv e,zv (h1.symm.trans e)];exact⟨h1,l⟩
  ·rw[zu e,zu (fun z=>e (h1.trans z))];exact⟨h1,h2⟩
theorem KV.put{b:List (κ×V)}{c:List (κ×Value)}(r:KV b c)(k:κ){y:V}{u:Value}(f:RelV y u):KV (xm b k y) (stored c k u):=by
 unfold xm stored;rw[r.any k];by_cases e:(c.any fun g=>decide (g.1=k))=true
 ·rw[zv e,zv e];exact r.repl k f
 ·rw[zu e,zu e];exact Paired.snoc r ⟨rfl,f⟩
theorem KV.length{kvs:List (κ×V)}{b:List (κ×Value)}(r:KV kvs b):kvs.length=b.length:=JM r
end
theorem wV{P:Program}{w:World}{k:Key}{u:Value}(r:RelV (kV k) u):(zO P w).is k u=true:=by
 cases k with
 | inl i=>obtain⟨t,e⟩:=(show ∃t,u=Value.int i t from r);subst e;exact Yd P w i t
 | inr x=>obtain⟨t,e⟩:=(show ∃t,u=Value.str x t from r);subst e;exact Yc P w x t
theorem XX{P:Program}{w:World}:∀{b:List Key} {c:List Value},Vals (b.map kV) c->ItemsAre (zO P w) b c
 | [],_,r=>by rw[vP] at r;cases r;exact .nil
 | k::b,_,r=>by
  rw[qO] at r;cases r with
  | cons h t=>exact .cons (wV h) (XX t)
abbrev KT(H:Hp):List (List Key×V)->List (List Key×Addr×Value)->Prop:=Paired fun p q=>p.1=q.1/\H q.2.1=some (.tup (p.1.map kV))/\RelV p.2 q.2.2
theorem KT.val{H:Hp}{c:List (List Key×V)}{l:List (List Key×Addr×Value)}(r:KT H c l)(k:List Key):RelO (jr c k) ((atKey l k).map (·.2)):=by
 induction r with
 | nil=>exact True.intro
 | @cons p q w g h t s=>
  obtain⟨h1,_,h2⟩:=h;by_cases e:p.1=k
  ·have f:q.1=k:=h1.symm.trans e
   have b:atKey (q::g) k=some q.2:=by simp[atKey,wj,f]
   rw[jF e,b];exact h2
  ·have f:¬q.1=k:=fun z=>e (h1.trans z)
   have b:atKey (q::g) k=atKey g k:=by simp[atKey,wj,f]
   rw[jG e,b];exact s
theorem KT.repl{H:Hp}{b:List (List Key×V)}{f:List (List Key×Addr×Value)}(r:KT H b f)(k:List Key){y:V}{u:Value}(s:RelV y u) :
  KT H (b.map fun c=>if c.1=k then(c.1,y) else c) (f.map (putAt k u)):=by
 induction r with
 | nil=>exact .nil
 | @cons p q w A h t l=>
  rw[qO,qO];refine .cons ?_ l
  obtain⟨h1,h2,g⟩:=h;unfold putAt;by_cases e:p.1=k
  ·rw[zv e,zv (h1.symm.trans e)];exact⟨h1,h2,s⟩
  ·rw[zu e,zu (fun z=>e (h1.trans z))];exact⟨h1,h2,g⟩
theorem KT.put{H:Hp}{c:List (List Key×V)}{f:List (List Key×Addr×Value)}(r:KT H c f)(k:List Key){b:Addr}{y:V}{u:Value}(hb:H b=some (.tup (k.map kV)))(g:RelV y u) :
  KT H (xm c k y) (storedH f k b u):=by
 have e:(c.any fun l=>decide (l.1=k))=(atKey f k).isSome:=by
  rw[wm,(r.val k).isSome_eq,Option.isSome_map]
 unfold xm storedH;rw[e];by_cases q:(atKey f k).isSome=true
 ·rw[zv q,zv q];exact r.repl k g
 ·rw[zu q,zu q];exact Paired.snoc r ⟨rfl,hb,g⟩
theorem KT.keeps{H f:Hp}{c:List (List Key×V)}{g:List (List Key×Addr×Value)}(r:KT H c g)(s:∀b l,H b=some (.tup l)->f b=some (.tup l)):KT f c g:=
 Paired.mapP r fun _ _ z=>⟨z.1,s _ _ z.2.1,z.2.2⟩
section
variable{P:Program}{w:World}{H:Hp}{h:Heap}{a:Addr}
theorem zhi{u:HO}(ok:HOk P w H h)(e:Rd H a u):ObjOk P w H h a u:=e.ok ok
theorem yw{b:List (Key×V)}(ok:HOk P w H h)(e:Rd H a (.dK b)):b.length<=sizeLine/\(a==sysModules)=false/\∃c,KV b c/\h.DictOf (zO P w) a c:=
 show ObjOk P w H h a (.dK b) from zhi ok e
theorem Yw{b:List (Key×V)}(ok:HOk P w H h)(e:H a=some (.dK b)):b.length<=sizeLine/\(a==sysModules)=false/\∃c,KV b c/\h.DictOf (zO P w) a c:=yw ok (.inl e)
theorem Jn{c:List Key}(ok:HOk P w H h)(e:H a=some (.tup (c.map kV))):(tupleKind (zO P w)).is h c a:=by
 obtain⟨_,b,r,⟨o,h1,h2,n,f⟩,_⟩:=(show ObjOk P w H h a (.tup (c.map kV)) from ok a _ e)
 exact⟨o,b.toArray,n,h1,h2,f,by simpa using XX r⟩
theorem X3{b:List (List Key×V)}(ok:HOk P w H h)(e:Rd H a (.dT b)):b.length<=sizeLine/\(a==sysModules)=false /\
  ∃c,KT H b c/\h.DictOfH (tupleKind (zO P w)) a c:=by
 obtain⟨z,y,c,r,o,g,f,h1,h2,s,A,B⟩:=(show ObjOk P w H h a (.dT b) from zhi ok e)
 refine⟨z,y,c,r,o,g,f,h1,h2,s,A,fun x hx=>?_,B⟩
 have all:∀{l:List (List Key×V)} {m:List (List Key×Addr×Value)},KT H l m->∀x∈m,(tupleKind (zO P w)).is h x.1 x.2.1:=by
  intro l m q;induction q with
  | nil=>intro x hx;exact nomatch hx
  | @cons p q D E hq t C=>
   intro x hx;rcases qe.mp hx with e | hx
   ·subst e
    exact Jn ok (by rw[<- hq.1];exact hq.2.1)
   ·exact C x hx
 exact all r x hx
theorem zkB{b:List (List Key×V)}(ok:HOk P w H h)(e:H a=some (.dT b)):b.length<=sizeLine/\(a==sysModules)=false /\
  ∃c,KT H b c/\h.DictOfH (tupleKind (zO P w)) a c:=X3 ok (.inl e)
end
def DGet(H:Hp)(a:Addr)(y:V)(r:Option V):Prop:=
 (∃c k,Rd H a (.dK c)/\y=kV k/\r=jr c k)\/∃c k b,Rd H a (.dT c)/\y=.ref b/\H b=some (.tup (k.map kV))/\r=jr c k
def DPut(H:Hp)(a:Addr)(y v:V)(f:Hp):Prop:=
 (∃c k,H a=some (.dK c)/\y=kV k/\c.length<sizeLine/\f=upd H a (.dK (xm c k v))) \/
 ∃c k b,H a=some (.dT c)/\y=.ref b/\H b=some (.tup (k.map kV))/\c.length<sizeLine/\f=upd H a (.dT (xm c k v))
theorem DGet.k{H:Hp}{a:Addr}{b:List (Key×V)}{k:Key}(e:H a=some (.dK b)):DGet H a (kV k) (jr b k):=.inl ⟨b,k,.inl e,rfl,rfl⟩
theorem DPut.k{H:Hp}{a:Addr}{b:List (Key×V)}{k:Key}{v:V}(e:H a=some (.dK b))(c:b.length<sizeLine):DPut H a (kV k) v (upd H a (.dK (xm b k v))):=.inl ⟨b,k,e,rfl,c,rfl⟩
section
variable{X:Cx}{f:List (Addr×Obj)}{σ:St}{H:Hp}{s:Shared}{a:Addr}{y v:V}{u r:Value}{o:Option V}{A:Around}{E:Value->Shared->Prop}
theorem Inv.big(I:Inv X f σ H s):sysModules<s.heap.objs.size:=by
 have h:mainGlobals<s.heap.objs.size:=(I.mod.glob.keeps I.bk).lt;exact Nat.lt_trans (by decide) h
theorem zdg{Q:Value->Shared->Prop}(hu:A.units+1<cLine)(I:Inv X f σ H s)(g:DGet H a y (some v))(M:RelV y u)(h:∀B N,Inv X f σ H N->RelV v B->Q B N) :
  wpAny (model X.prog X.w) A (getItem (.ref a) u) Q E s:=by
 rcases g with ⟨L,k,e,D,l⟩ | ⟨L,k,b,e,D,O,l⟩
 ·subst D
  obtain⟨z,T,Y,c,C⟩:=yw I.hok e;obtain⟨B,J,w⟩:=RelO.some_of (v:=v) (o:=valueAt Y k) (by rw[l];exact c.val k)
  exact wpAny_getItem_of (wV M) C.mapOf J (h B _ (I.tok _) w)
 ·subst D
  cases(show u=Value.ref b from M)
  obtain⟨z,T,xs,c,C⟩:=X3 I.hok e;obtain⟨B,J,w⟩:=RelO.some_of (v:=v) (o:=(atKey xs k).map (·.2)) (by rw[l];exact c.val k)
  obtain⟨p,U,G⟩:=qE.mp J;refine wpAny_getItem_heap (tupleKind_room_in1 hu) (Jn I.hok O) C U ?_
  rw[G];exact h B _ (I.tok _) w
theorem zgJ{Q:Value->Shared->Prop}(hu:A.units+1<cLine)(I:Inv X f σ H s)(g:DGet H a y o)(G:RelV y u)(h:∀J,Inv X f σ H J->Q (.bool (!o.isSome)) J) :
  wpAny (model X.prog X.w) A (compareOp .NotIn u (.ref a)) Q E s:=by
 rcases g with ⟨D,k,e,B,l⟩ | ⟨D,k,b,e,B,L,l⟩
 ·subst B
  obtain⟨z,C,M,c,w⟩:=yw I.hok e;refine wpAny_notIn_of (wV G) C w.mapOf ?_
  rw[<- (c.val k).isSome_eq,<- l];exact h _ (I.tok _)
 ·subst B
  cases(show u=Value.ref b from G)
  obtain⟨z,C,N,c,w⟩:=X3 I.hok e;refine wpAny_notIn_heap (tupleKind_room_in1 hu) (Jn I.hok L) C w ?_
  have q:=(c.val k).isSome_eq;rw[Option.isSome_map] at q;rw[<- q,<- l];exact h _ (I.tok _)
theorem ZY{c:Heap}{t':Nat}{l:HO}(I:Inv X f σ H s)(B:Mut (H a))(hs:Heap.SameBut a s.heap c)(w:∃q,c.get? a=some q)(g:ObjOk X.prog X.w (upd H a l) c a l) :
  Inv X f σ (upd H a l) { s with heap:=c,toks:=t' }:=
 I.write (x:=a) (e:=a) B (.inl rfl) (fun b q hb z=>(hs.2 b hb).trans z) w g
theorem Jw{P:Program}{w:World}{B:Hp}{l:Heap}{b:List (Key×V)}{g:List (Key×Value)}(z:b.length<=sizeLine)(D:(a==sysModules)=false)(c:KV b g)(C:l.DictOf (zO P w) a g) :
  ObjOk P w B l a (.dK b):=⟨z,D,g,c,C⟩
theorem zdf{O:Hp}{Q:Unit->Shared->Prop}(hu:A.units+1<cLine)(I:Inv X f σ H s)(g:DPut H a y v O)(ry:RelV y u)(rv:RelV v r)(h:∀s',Inv X f σ O s'->Q () s') :
  wpAny (model X.prog X.w) A (setItem (.ref a) u r) Q E s:=by
 rcases g with ⟨w,k,e,J,l,G⟩ | ⟨w,k,b,e,J,T,l,G⟩
 ·subst J G
  obtain⟨z,L,vs,B,D⟩:=Yw I.hok e;have hz:vs.length<=sizeLine:=by rw[<- B.length];exact z
  have M:(xm w k v).length<=sizeLine:=by have:=vg w k v;omega
  refine wpAny_setItem_pairs (hsz:=hz) (wV ry) D fun Y C hs=>h _ ?_
  have he:∃q,Y.get? a=some q:=let ⟨q,_,_,hq,_⟩:=C;⟨q,hq⟩
  exact ZY I (by rw[e];exact True.intro) hs he (Jw M L (B.put k rv) C)
 ·subst J G
  cases(show u=Value.ref b from ry)
  obtain⟨z,L,xs,B,D⟩:=zkB I.hok e;have hz:xs.length<=sizeLine:=by rw[<- JM B];exact z
  have M:(xm w k v).length<=sizeLine:=by have:=vg w k v;omega
  refine wpAny_setItem_heap (hsz:=hz) (tupleKind_room_in1 hu) (Jn I.hok T) D fun Y C hs=>h _ ?_
  obtain⟨q,es,ep,hq,h2,h3,h4,_,h5⟩:=C;refine ZY I (by rw[e];exact True.intro) hs ⟨q,hq⟩ ⟨M,L,_,(B.put k T rv).keeps fun c ys U=>?_,q,es,ep,hq,h2,h3,h4,h5⟩
  rw[zp (zbH U e (fun z=>nomatch z))]
  exact U
end
section
variable{X:Cx}{b:List (Addr×Obj)}{σ:St}{H:Hp}{s:Shared}{a:Addr}{c:List (Key×V)}{k:Key}{u:Value}{A:Around}{E:Value->Shared->Prop}
end
def zkH(i:Expr):Prop:=∀c b,subscripted i false c b=operate [c,b] (getItem c b)
theorem zfQ{b:Program}{w:World}{A:Around}{E:Value->Shared->Prop}{s:Shared}{g:Env}{f c:Expr}{D:Pos}{T id:String}{Q:Value->Shared->Prop}
  (J:typeLookup (.type T) "__getitem__" = pure (some (.builtin id))) (hs:zkH c)
  (h:wpAny (model b w) A (eval f g) (fun o H=>wpAny (model b w) A (eval c g) (fun i B=>B.TypeIs o T/\wpAny (model b w) A (getItem o i) Q E B) E H) E s) :
  wpAny (model b w) A (eval (.Subscript f c D) g) Q E s:=by
 refine Subscript_ (qN h (fun o H L=>qN L (fun i B C=>?_) fun _ _ x=>x) fun _ _ x=>x)
 obtain⟨G,C⟩:=C;unfold subscriptTail;refine zg ?_
 rw[getitemInPython_of_ne G.not_modules];refine zg (wpAny_specialOf G J ?_)
 have l:wpAny (model b w) A (subscripted c false o i) (fun r I=>wpAny (model b w) A (letTemporaryGo f o r >>= fun _=>pure r) Q E I) E B:=by
  rw[hs o i];exact wpAny_operating (qN C (fun r I M=>zg (wpAny_letTemporaryGo (zw M))) fun _ _ x=>x)
 first
  | exact zw (zg l)
  | exact zg (zw (zg l))
  | exact zg l
theorem Yy{X:Cx}{c:List (Addr×Obj)}{σ:St}{H:Hp}{s:Shared}{a:Addr}{y:V}{o:Option V}(I:Inv X c σ H s)(g:DGet H a y o):s.TypeIs (.ref a) "dict" :=by
 rcases g with ⟨l,k,e,_,_⟩ | ⟨l,k,b,e,_,_,_⟩
 ·obtain⟨_,_,w,_,f⟩:=yw I.hok e
  exact f.typeIs
 ·obtain⟨_,_,A,_,f⟩:=X3 I.hok e
  exact f.typeIs
def zi9(f ty:TE):TE:=fun σ H Q=>f σ H fun x c=>ty σ c fun y b=>∃a v,x=.ref a/\DGet b a y (some v)/\Q v b
def zfO(ty f:TE):TE:=fun σ H Q=>ty σ H fun y c=>f σ c fun x b=>∃a o,x=.ref a/\DGet b a y o/\Q (.bl (!o.isSome)) b
def zjJ(l ty s:TE):TS:=fun D σ H=>s σ H fun v c=>l σ c fun x f=>ty σ f fun y g=>∃a b,x=.ref a/\DPut g a y v b/\D.nx σ b
section
variable{X:Cx}{o i e b:Expr}{f c w:Pos}{l ty A:TE}
theorem Vw(hu:X.A.units+1<cLine)(O:PE X o l)(N:PE X i ty)(hs:zkH i):PE X (.Subscript o i f) (zi9 l ty):=by
 intro B s σ H Q I h;refine zfQ PySem.F.slot_dict_getitem.lookup hs (thn (O B s σ H _ I h) fun u s1 ⟨x,E,J,Y,T⟩=>thn (N B s1 σ E _ J T) fun iv s2 ⟨y,G,D,ry,a,v,M,g,U⟩=>?_)
 subst M;obtain rfl:u=Value.ref a:=Y;exact⟨Yy D g,zdg hu D g ry fun w' s3 L C=>⟨v,G,L,C,U⟩⟩
theorem XS(hu:X.A.units+1<cLine)(M:PE X i ty)(N:PE X o l):PC X .NotIn i o (zfO ty l):=by
 intro B s σ H Q I h;refine thn (M B s σ H _ I h) fun iv s1 ⟨y,C,E,ry,T⟩=>thn (N B s1 σ C _ E T) fun u s2 ⟨x,D,G,Y,a,O,L,g,U⟩=>?_
 subst L;obtain rfl:u=Value.ref a:=Y;exact zgJ hu G g ry fun s3 J=>⟨.bl (!O.isSome),D,J,rfl,U⟩
theorem zbB(hu:X.A.units+1<cLine)(T:PE X o l)(Q:PE X i ty)(hv:PE X b A)(hs:swapsWith b (some (.Subscript o i c)) f.line X.env=pure false) :
  PS X (.Assign [.Subscript o i c] b f) (zjJ l ty A):=by
 intro B s σ H D I h;refine wpAny_Assign_Subscript (thn (hv B s σ H _ I h) fun r s1 ⟨v,C,J,rv,U⟩=>thn (T B s1 σ C _ J U) fun u s2 ⟨x,E,L,rx,Y⟩=>thn (Q B s2 σ E _ L Y) fun iv s3 ⟨y,H3,M,ry,a,G,O,g,q3⟩=>?_) hs
 subst O;obtain rfl:u=Value.ref a:=rx;exact zdf hu M g ry rv fun s4 N=>⟨σ,G,N,q3⟩
end
theorem Yx{P:Program}{w:World}{H:Hp}(h:Heap)(hb:sysModules<h.objs.size):ObjOk P w H (h.push { cls:=.type "dict",data:=.dict #[] }) h.objs.size (.dK []):=
 ⟨ji _,beq_eq_false_iff_ne.mpr (z9 (qh hb)),[],.nil,Heap.DictOf.new h⟩
def zhD:TE:=fun _ H Q=>∀p,H p=none->Q (.ref p) (upd H p (.dK []))
section
variable{X:Cx}{b:Pos}
theorem zev:PE X (.Dict [] [] b) zhD:=fun c s σ H Q I h=>
 wpAny_Dict_empty ⟨.ref s.heap.objs.size,_,I.laid (a:=s.heap.objs.size) (o:=.dK []) (t':=s.toks) (fun _ _ q=>z7 _ q) (zJ _) (Yx s.heap I.big),rfl,h _ (I.hok.fresh (zJ _))⟩
end
def Y0:List (TE×TE)->St->Hp->(List (V×V)->Hp->Prop)->Prop
 | [],_,H,Q=>Q [] H
 | (l,s)::r,σ,H,Q=>l σ H fun x b=>s σ b fun y c=>Y0 r σ c fun g f=>Q ((x,y)::g) f
abbrev VV:List (V×V)->List (Value×Value)->Prop:=Paired fun p q=>RelV p.1 q.1/\RelV p.2 q.2
def PPs(X:Cx)(g:Pos)(f:List (Option Expr))(b:List Expr)(l:List (TE×TE)):Prop:=
 ∀(c:List (Addr×Obj)) (s:Shared) (σ:St) (H:Hp) (Q:List (V×V)->Hp->Prop),Inv X c σ H s->Y0 l σ H Q ->
  wpAny (model X.prog X.w) X.A (evalPairs (pairTrees f b X.env g)) (fun C B=>∃A w,Inv X c σ w B/\VV A C/\Q A w) X.xe s
theorem zf2{X:Cx}{b:Pos}:PPs X b [] [] []:=fun c s σ H Q I h=>pairTrees_nil_walk ⟨[],H,I,.nil,h⟩
theorem zep{X:Cx}{c:Pos}{k v:Expr}{l:List (Option Expr)}{B:List Expr}{w A:TE}{f:List (TE×TE)}(hk:PE X k w)(hv:PE X v A)(M:PPs X c l B f) :
  PPs X c (some k::l) (v::B) ((w,A)::f):=fun b s σ H Q I h=>
 pairTrees_cons_walk (thn (hk b s σ H _ I h) fun u s1 ⟨x,C,G,Y,O⟩=>thn (hv b s1 σ C _ G O) fun w2 s2 ⟨y,D,J,ry,T⟩=>
  thn (M b s2 σ D _ J T) fun ws s3 ⟨N,E,L,g,U⟩=>⟨(x,y)::N,E,L,.cons ⟨Y,ry⟩ g,U⟩)
def jL(f b:List (Key×V)):List (Key×V):=b.foldl (fun c g=>xm c g.1 g.2) f
theorem KV.merge:∀{c:List (Key×V)} {g:List (Key×Value)} {b:List (Key×V)} {f:List (Key×Value)},KV c g->KV b f->KV (jL b c) (merged f g):=by
 intro c g b f r;unfold KV at r;induction r generalizing b f with
 | nil=>intro q;exact q
 | @cons p q w A h t l=>
  intro s;have e:KV (xm b p.1 p.2) (stored f q.1 q.2):=by
   have:=s.put p.1 h.2;rw[<- h.1];exact this
  exact l e
theorem x9:∀(c b:List (Key×V)),(jL b c).length<=b.length+c.length
 | [],b=>by show b.length<=b.length+0;omega
 | p::r,b=>by
  have h1:=x9 r (xm b p.1 p.2);have h2:=vg b p.1 p.2;show(jL (xm b p.1 p.2) r).length<=_;rw[xP];omega
theorem JA{P:Program}{w:World}:∀{f:List (Key×V)} {s:List (Value×Value)},VV (f.map fun l=>(kV l.1,l.2)) s->∃g,Carries (zO P w) s g/\KV f g
 | [],_,r=>by rw[vP] at r;cases r;exact⟨[],True.intro,.nil⟩
 | p::f,_,r=>by
  rw[qO] at r;cases r with
  | @cons a b A B h t=>
   obtain⟨g,c,q⟩:=JA (P:=P) (w:=w) t;obtain⟨b1,b2⟩:=b;exact⟨(p.1,b2)::g,⟨wV h.1,rfl,c⟩,.cons ⟨rfl,h.2⟩ q⟩
def zi7(c:List (TE×TE)):TE:=fun σ H Q=>∀p,H p=none->Y0 c σ (upd H p (.dK [])) fun l f=>f p=some (.dK [])/\∃b:List (Key×V),l=b.map (fun g=>(kV g.1,g.2))/\b.length<=15/\Q (.ref p) (upd f p (.dK (jL [] b)))
theorem zga{X:Cx}{C:Pos}{b:List (Option Expr)}{f:List Expr}{D:List (TE×TE)}(h:PPs X C b f D)(l:b.all (·.isSome)=true)(Y:b.length=f.length)(h0:b≠[])
  (E:b.length<=15):PE X (.Dict b f C) (zi7 D):=by
 intro B s σ H Q I q;have hn:=I.hok.fresh (zJ s.heap.objs.size);have M:=I.laid (a:=s.heap.objs.size) (o:=.dK []) (h':=s.heap.push { cls:=.type "dict",data:=.dict #[] }) (t':=s.toks) (fun _ _ q=>z7 _ q) (zJ _) (Yx s.heap I.big)
 refine wpAny_Dict_walk (knd:=zO X.prog X.w) l Y h0 E (thn (h B _ σ _ _ M (q _ hn)) fun ws s2 ⟨ps,H2,J,G,e,A,O,lk,q2⟩=>?_)
 subst O;obtain⟨rs,c,rk⟩:=JA (P:=X.prog) (w:=X.w) G;obtain⟨z,T,aa,r0,N⟩:=Yw J.hok e;cases r0;refine⟨rs,c,N,fun L g hs=>⟨.ref s.heap.objs.size,_,?_,rfl,q2⟩⟩
 have hz:(jL [] A).length<=sizeLine:=by
  have h1:=x9 A [];rw[Zv] at h1;rw[sizeLine_eq];omega
 have U:∃q,L.get? s.heap.objs.size=some q:=let ⟨q,_,_,hq,_⟩:=g;⟨q,hq⟩
 exact ZY J (by rw[e];exact True.intro) hs U (Jw hz T (rk.merge .nil) g)
structure M1(X:Cx)(o:Expr)(m:Str)(apos:Pos)(e:Expr)(cpos:Pos):Prop where
 base:attributeBase o m X.env (eval o X.env)=eval o X.env
 few:((backTo cpos (starEach [e] X.env)).all (fun x=>!x.1)&&(backToKw cpos (keywordEach [] X.env)).all (fun x=>x.1.isSome)
  && decide (([e]:List Expr).length+([]:List Keyword).length+(if([]:List Keyword).isEmpty then 0 else 1)<30))=true
 line:(apos.endLine==cpos.line)=true
 trees:backTo cpos (starEach [e] X.env)=[(false,eval e X.env)]
structure M2(X:Cx)(o:Expr)(m:Str)(apos:Pos)(e f:Expr)(cpos:Pos):Prop where
 base:attributeBase o m X.env (eval o X.env)=eval o X.env
 few:((backTo cpos (starEach [e,f] X.env)).all (fun x=>!x.1)&&(backToKw cpos (keywordEach [] X.env)).all (fun x=>x.1.isSome)
  && decide (([e,f]:List Expr).length+([]:List Keyword).length+(if([]:List Keyword).isEmpty then 0 else 1)<30))=true
 line:(apos.endLine==cpos.line)=true
 trees:backTo cpos (starEach [e,f] X.env)=[(false,eval e X.env),(false,eval f X.env)]
def IsD(H:Hp)(a:Addr):Prop:=(∃b,Rd H a (.dK b))\/∃b,Rd H a (.dT b)
theorem VH{X:Cx}{g:List (Addr×Obj)}{σ:St}{H:Hp}{s:Shared}{a:Addr}(I:Inv X g σ H s)(d:IsD H a) :
  s.TypeIs (.ref a) "dict" /\ (∀b,Value.ref a=.ref b->∃c,s.heap.get? b=some c/\c.dict=none)/\(a==sysModules)=false:=by
 rcases d with ⟨w,e⟩ | ⟨w,e⟩
 ·obtain⟨_,l,A,_,f⟩:=yw I.hok e
  refine⟨f.typeIs,fun b q=>?_,l⟩
  cases q;obtain⟨c,_,_,h1,h2,_⟩:=f;exact⟨c,h1,h2.2.1⟩
 ·obtain⟨_,l,B,_,f⟩:=X3 I.hok e
  refine⟨f.typeIs,fun b q=>?_,l⟩
  cases q;obtain⟨c,_,_,h1,h2,_⟩:=f;exact⟨c,h1,h2.2.1⟩
section
variable{X:Cx}{c:List (Addr×Obj)}{σ:St}{H:Hp}{s:Shared}{a:Addr}{y d:V}{u r:Value}{o:Option V}{A:Around}{E:Value->Shared->Prop}
theorem ziM{Q:Value->Shared->Prop}(hu:A.units+1<cLine)(I:Inv X c σ H s)(g:DGet H a y o)(J:RelV y u)(G:RelV d r)(h:∀M L,Inv X c σ H L->RelV (o.getD d) M->Q M L) :
  wpAny (model X.prog X.w) A (call (.builtin "dict.get") [.ref a,u,r]) Q E s:=by
 rcases g with ⟨D,k,e,B,l⟩ | ⟨D,k,b,e,B,N,l⟩
 ·subst B
  obtain⟨z,C,T,f,w⟩:=yw I.hok e;refine call_meetsIn zaO w.typeIs PySem.F.entry_dict_get (PySem.F.args_dict_get_3 _ _ _) (meets_dict_get_default (zO X.prog X.w) a (wV J) C r) ⟨_,w.mapOf,h _ _ (I.tok _) ?_⟩
  rw[l];exact(f.val k).getD G
 ·subst B
  cases(show u=Value.ref b from J)
  obtain⟨z,C,O,f,w⟩:=X3 I.hok e;refine call_meetsIn zaO w.typeIs PySem.F.entry_dict_get (PySem.F.args_dict_get_3 _ _ _) (meetsH_dict_get_default (tupleKind (zO X.prog X.w)) a b C r) ⟨tupleKind_room_in1 hu,k,O,Jn I.hok N,w,h _ _ (I.tok _) ?_⟩
  rw[l];exact(f.val k).getD G
end
def zhE(g ty l:TE):TE:=fun σ H Q=>g σ H fun x b=>∃a,x=.ref a/\IsD b a/\ty σ b fun y f=>l σ f fun z c=>∃o,DGet c a y o/\Q (o.getD z) c
section
variable{X:Cx}{o e f:Expr}{b c:Pos}{l ty w:TE}
theorem zew(hu:X.A.units+1<cLine)(U:PE X o l)(O:PE X e ty)(T:PE X f w)(m:M2 X o "get" b e f c):PE X (.Call (.Attribute o "get" b) [e,f] [] c) (zhE l ty w):=by
 intro A s σ H Q I h;refine wpAny_Call_method m.base m.few m.line Wh zaO PySem.F.type_dict_get (thn (U A s σ H _ I h) fun u s1 ⟨x,D,C,rx,a,N,d,Y⟩=>?_)
 subst N;obtain rfl:u=Value.ref a:=rx;obtain⟨t1,t2,_⟩:=VH C d;refine⟨t1,t2,?_⟩
 rw[m.trees];refine JY rfl (Wb (ZC (thn (O A s1 σ D _ C Y) fun iv s2 ⟨y,E,J,ry,q2⟩=>
  ZC (thn (T A s2 σ E _ J q2) fun fv s3 ⟨z,G,L,rz,ov,g,q3⟩=>JR ?_))))
 exact ziM hu L g ry rz fun w' s4 M B=>⟨_,G,M,B,q3⟩
end
section
variable{X:Cx}{b:List (Addr×Obj)}{σ:St}{H:Hp}{s:Shared}{a:Addr}{c:List (Key×V)}{A:Around}{E:Value->Shared->Prop}
end
section
variable{X:Cx}{b:List (Addr×Obj)}{σ:St}{H:Hp}{s:Shared}{a:Addr}{y:V}{u:Value}{A:Around}{E:Value->Shared->Prop}
end
end L2
namespace PySem
open PySem PySem.W PySem.Calls PyProof.Rows PyProof.V PySem.Spec
end PySem
namespace L2
open PySem PySem.Spec PyProof.Rows
section
variable{X:Cx}
end
section
variable{X:Cx}{b:Expr}
end
section
variable{X:Cx}
end
section
variable{X:Cx}
variable{e st:Expr}{f:TE}{g:TO}{b c:Pos}
end
end L2
namespace PySem
def RawD(h:Heap)(d:Addr)(c:Array DictEntry)(b:Nat):Prop:=∃o,h.get? d=some o/\o.ExactDict/\o.data=.dict c b
theorem RawD.at{h g:Heap}{d:Addr}{f:Array DictEntry}{c:Nat}(x:RawD h d f c)(e:∀o,h.get? d=some o->g.get? d=some o):RawD g d f c:=let ⟨o,a,b⟩:=x;⟨o,e _ a,b⟩
section
variable{g:Program}{w:World}{A:Around}{E:Value->Shared->Prop}{s:Shared}{d f:Addr}{c:Array DictEntry}{l i:Nat}
theorem WY{Q:Value->Shared->Prop}(D:(d==sysModules)=false)(G:RawD s.heap d c l)
  (C:Q (.ref s.heap.objs.size) { s with heap:=s.heap.push { cls:=.type "dict_keyiterator",data:=.fields #[.ref d,.int 0 0,.int c.size 0,.int l 0] } }):wpAny (model g w) A (pyIter (.ref d)) Q E s:=by
 obtain⟨o,B,hc,b⟩:=G;have ty:s.TypeIs (.ref d) "dict" :=⟨o,B,hc.1⟩;refine wpAny_pyIter_slot ty F.slot_dict_iter (xS F.slot_dict_iter ty F.entry_dict_iter ?go (F.args_dict_iter_1 _))
 unfold Builtin.«dict.__iter__» Builtin.Dict.dictSlotNone;refine zg (zg (wpAny_notOrdered_dict ty ?go2));refine(zw ?go3:wpAny _ _ (pure (Value.ref d)) _ _ s)
 refine(?go7:wpAny _ _ (Builtin.Dict.showsAll d >>= _) _ _ s);unfold Builtin.Dict.showsAll
 rw[zu (by rw[D];exact qR)];refine zg (zw ?go5)
 refine zg (wpAny_dictEntries B b (zg (wpAny_dictEpoch B b (zg (xc (zw ⟨_,rfl, "dict_keyiterator",_,⟨_,zW _ rfl,rfl⟩,J6.lookup,?go6⟩))))))
 simpa [rawInt] using C
theorem zej{e:DictEntry}{Q:Option Value->Shared->Prop}(C:s.heap.IsKeyIter f d i c.size l)(O:RawD s.heap d c l)(hx:c[i]? =some e)
  (M:∀H,H.IsKeyIter f d (i+1) c.size l->Heap.SameBut f s.heap H->Q (some e.key) { s with heap:=H }):wpAny (model g w) A (pyNext (.ref f)) Q E s:=by
 obtain⟨o,I,hc,G⟩:=id C;obtain⟨U,D,N,B⟩:=O;have ty:=C.typeIs;obtain⟨T,L⟩:∃h:i<c.size,c[i]=e:=Wm.mp hx;unfold pyNext;refine zg (wR (yJ (name:=Str.ofString "__next__") ty J6 (xS J6 ty zfD ?a (zfF _))))
 refine zg (zw ?a1);refine zg (zg ?a2)
 first| refine zg (wpAny_typeNameOfWhole_keyiter ty (zw ?a3)) | refine zg (wpAny_typeNameOf_keyiter ty (zw ?a3))
 refine zg (wpAny_fieldsOf I G ?a4)
 simp only[show Builtin.Dict_items.ownsTuple "dict_keyiterator" = false by decide,ZB,if_false]
 refine(?a5:wpAny _ _ (if(Value.ref d==Value.none)=true then _ else _) _ _ s)
 rw[zu (show ¬((Value.ref d==Value.none)=true) from qR)];refine zg (zw (zg (wpAny_dictEntries D B ?a6)))
 rw[zu (by simp)];refine zg (zw (zg (wpAny_dictEpoch D B ?a7)))
 rw[zu (by simp)];refine zw ?a8
 simp only[show ¬((i:Int)<0) from by omega,if_false,jR,vz T];refine zg ?a9
 first| refine zg (wpAny_typeNameOfWhole_keyiter ty (zw ?b1)) | refine zg (wpAny_typeNameOf_keyiter ty (zw ?b1))
 refine zg (wpAny_isOneOf_keyiter ty ?b2);refine(?b3:wpAny _ _ (setField (.ref f) 1 (rawInt ((i:Int)+1)) >>= _) _ _ s)
 have b:(s.heap.update f (Obj.mapFields (·.setIfInBounds 1 (rawInt ((i:Int)+1))))).IsKeyIter f d (i+1) c.size l:=
  ⟨_,vY _ I (zaP (JT G _)),(zaH ..).trans hc,(by rw[JT G];simp[rawInt])⟩
 refine zg (wg I G (by simp) (zg (xN (zg (wpAny_isOneOf_keyiter (s:={ s with heap:=s.heap.update f (Obj.mapFields (·.setIfInBounds 1 (rawInt ((i:Int)+1)))) }) b.typeIs ?b4)))))
 refine(?b5:wpAny _ _ (pure c[i].key) _ _ _)
 rw[L];exact zw (zw ⟨_,rfl,zw (M _ b (Zc ..))⟩)
theorem zfY{Q:Option Value->Shared->Prop}(N:A.handled=none)(C:s.heap.IsKeyIter f d i c.size l)(O:RawD s.heap d c l)(hx:c.size<=i)
  (L:∀G,Heap.ExtBut f s.heap G->Q none { s with heap:=G }):wpAny (model g w) A (pyNext (.ref f)) Q E s:=by
 obtain⟨o,I,hc,H⟩:=id C;obtain⟨U,D,M,B⟩:=O;have ty:=C.typeIs;unfold pyNext;refine zg (wR (yJ (name:=Str.ofString "__next__") ty J6 (xS J6 ty zfD ?a (zfF _))))
 refine zg (zw ?a1);refine zg (zg ?a2)
 first| refine zg (wpAny_typeNameOfWhole_keyiter ty (zw ?a3)) | refine zg (wpAny_typeNameOf_keyiter ty (zw ?a3))
 refine zg (wpAny_fieldsOf I H ?a4)
 simp only[show Builtin.Dict_items.ownsTuple "dict_keyiterator" = false by decide,ZB,if_false]
 refine(?a5:wpAny _ _ (if(Value.ref d==Value.none)=true then _ else _) _ _ s)
 rw[zu (show ¬((Value.ref d==Value.none)=true) from qR)];refine zg (zw (zg (wpAny_dictEntries D B ?a6)))
 rw[zu (by simp)];refine zg (zw (zg (wpAny_dictEpoch D B ?a7)))
 rw[zu (by simp)];refine zw ?a8
 simp only[show ¬((i:Int)<0) from by omega,if_false,jR,Wg hx];refine zg ?a9
 first| refine zg (wpAny_typeNameOfWhole_keyiter ty (zw ?b1)) | refine zg (wpAny_typeNameOf_keyiter ty (zw ?b1))
 refine(?b3:wpAny _ _ (setField (.ref f) 0 .none >>= _) _ _ s);refine zg (wg I H (by simp) ?b4)
 refine(?b5:wpAny _ _ (newExc (.type "StopIteration") [] >>= _) _ _ _);refine zg ?b6
 simp only[newExc,newTuple];refine zg (xc ?b7 (by size_fits))
 refine zg (m:=firstArgMember _ _) (wQ (a:=Value.none) (by first| rfl | (simp only[firstArgMember];rfl)) (xc ?b8 (by size_fits)))
 simp only[raiseNew];refine zg (wpAny_handled ?b9)
 rw[show A.in1.handled=none from N];refine zg (zw (Zs ?c1))
 exact zg (Za (T:= "StopIteration") (b:=true) ⟨_,zW _ rfl,rfl⟩ isSubtype_stop (zw (L _ (((Zc ..).extBut.push _).push _))))
end
end PySem
namespace L2
open PySem PySem.Spec PyProof.Rows
section
variable{X:Cx}{b:Expr}
end
section
variable{b:Program}{w:World}{A:Around}{R:Result->Shared->Prop}{s:Shared}
end
section
variable{X:Cx}{N Y J f:Expr}{w:List Expr}{Q A:Expr}{D:List Expr}{scope:Scope}{E:Pos}{wi L:TI}{g M:TG}{O G:TT}{T U:TE}
theorem zaq{aa:List (Addr×Obj)}{σ:St}{H:Hp}{s:Shared}{fp:List Addr}(own fr:List Str)(js:List Nat)(I:Inv X aa σ H s)(B:zfK scope.names X.env.scope.names X.N fr js)(hk:scope.kind=.function)
  (f2:∀b∈fp,xo X aa H b) (fl:∀b∈fp,b<s.heap.objs.size) {C:Addr} (hC:C=s.heap.objs.size) {h1:Heap} {m:Str->Option Value} (ag:h1.Ns C m) (k4:∀b o,s.heap.get? b=some o->h1.get? b=some o) {t4:Nat} :
  Inv (zK X (own++fr) scope C s H fp) [] (upS own.length js σ) H { s with heap:=h1,toks:=t4 }:=by
 have a0:∀y∈scope.names,y.2=NameKind.free->∃c,X.env.cells.lookup y.1=some c:=fun y hy e=>I.ok.has y.1 (B.free y hy e)
 refine⟨⟨I.ok.mod,hk,I.ok.glob,I.ok.blt,wf hC.symm,fun x y c e1 e2=>?_,fun x hx=>?_,fun x c hf=>(nomatch hf),fun hc=>I.ok.hd hc,I.ok.frames,.inl rfl,fun b hb=>?_,I.bs,jk I.ok.bsz I.sz,fun b o e hb=>?_,fun b hb hf=>?_,I.stack,I.stkFree⟩,
  rfl,I.bare,Un.kept k4,⟨m,ag,fun i x v e1 e2 ah=>?_⟩,fun x c e=>?_,?_,fun x c e=>?_,fun p hp=>absurd (show p∈([]:List (Addr×Obj)) from hp) (by simp),I.hok.kept k4,?_⟩
 ·exact I.ok.inj x y c (qw e1 a0) (qw e2 a0)
 ·obtain⟨k,e,z⟩:∃k,scope.names.lookup x=some k/\(k=.free):=by
   rcases hx with hx | hx
   ·obtain⟨k,e,z⟩:=vH hx
    rcases z with z | z
    ·subst z;exact absurd rfl (B.cell _ (wZ e))
    ·exact⟨k,e,z.1⟩
   ·obtain⟨k,e,z⟩:=vH hx
    rcases z with z | z
    ·subst z;exact⟨_,e,rfl⟩
    ·exact⟨k,e,z.1⟩
  subst z;exact⟨_,vF e⟩
 ·refine⟨by rw[hC];exact qh (fl b hb),fun x c e=>?_⟩
  exact(f2 b hb).2.2.2.2.1 x c (qw e a0)
 ·rcases(f2 b hb).2.2.2.1 with z | z
  ·exact I.ok.noex b o e z
  ·exact absurd (xj (zH (I.ok.bs b o e).1) z) (vw _)
 ·rcases qe.mp (I.stkSub b hf) with y | y
  ·exact(f2 b hb).2.1 y
  ·exact(f2 b hb).2.2.1 y
 ·obtain⟨hn,_,j,ej,es⟩:=wn e2
  have ex:fr[i-own.length]? =some x:=by rw[wC hn] at e1;exact e1
  obtain⟨ab,j',ac,eN⟩:=B.fr _ x ex;have:j'=j:=by rw[ej] at ac;exact(jq ac).symm
  subst this;have ae:=B.free _ (wZ ab) rfl;obtain⟨m0,_,hl⟩:=I.loc;obtain⟨u,r,l⟩:=hl j' x v eN es (by rcases ae with z | z;exact .inr (.inl z);exact .inr (.inr z))
  refine⟨u,r,.inr ?_⟩
  rcases l with ⟨kl,_⟩ | ⟨_,c,ec,o,eo,ed⟩
  ·have af:X.env.scope.names.lookup x=some .local:=kl
   rcases ae with z | z
   ·exact absurd (z.symm.trans af) (by decide)
   ·exact absurd (z.symm.trans af) (by decide)
  ·obtain⟨k',e',z⟩:=wF (env:=X.env) ab
   have eq:(jg X.env.cells scope.names []).lookup x=some c:=by rw[vF ab,ec];rfl
   refine⟨?_,c,eq,o,k4 c o eo,ed⟩
   rcases z with z | z
   ·subst z;exact .inl e'
   ·subst z;exact .inr e'
 ·obtain⟨v,o,eo,ed⟩:=I.cell x c (qw e a0)
  exact⟨v,o,k4 c o eo,ed⟩
 ·exact I.hok.fresh (wf hC.symm)
 ·exact I.freeC x c (qw e a0)
 ·rw[Vj,<- B.len]
  show _=(own++fr).length;rw[qo]
end
abbrev xi(X:Cx)(b:List Str)(scope:Scope)(x:Str)(C:Addr)(s:Shared)(H:Hp)(ex:List Addr):Cx where
 prog:=X.prog
 w:=X.w
 K:=X.K
 mg:=X.mg
 base:=X.base
 A:=X.A
 N:=b
 s₀:=s
 H₀:=H
 env:=compEnvC scope ((x,C+1)::jg X.env.cells scope.names []) C X.env
 outer:=X.stack
 stack:=X.stack
 ex:=ex
 fn:=fun y=>y==x
 calm:=X.calm
 pn:=[]
 xe:=fun _ _=>False
def VS(sn on:List (Str×NameKind))(N:List Str)(x:Str)(b:List Str)(c:List Nat):Bool:=
 (sn.filter fun y=>y.2==.cell)==[(x,.cell)]&&sn.lookup x==some .cell&&decide ([x]++b).Nodup&&sn.all (fun y=>(y.2 != .local||sn.lookup y.1==some .local)&&(y.2 != .free||(on.lookup y.1==some .cell||on.lookup y.1==some .free)))&&b.length==c.length
  && (b.zip c).all fun p=>sn.lookup p.1==some .free&&N[p.2]? ==some p.1
structure BlkOkC(sn on:List (Str×NameKind))(N:List Str)(x:Str)(fr:List Str)(js:List Nat):Prop where
 one:(sn.filter fun y=>y.2==.cell)=[(x,.cell)]
 lk:sn.lookup x=some .cell
 nd:([x]++fr).Nodup
 loc:∀y∈sn,y.2=NameKind.local->sn.lookup y.1=some .local
 free:∀y∈sn,y.2=NameKind.free->on.lookup y.1=some .cell\/on.lookup y.1=some .free
 len:fr.length=js.length
 fr:∀(k:Nat) (x:Str),fr[k]? =some x->sn.lookup x=some .free/\∃j:Nat,js[k]? =some j/\N[j]? =some x
theorem BlkOkC.is{sn on:List (Str×NameKind)}{N:List Str}{x:Str}{b:List Str}{c:List Nat}(B:BlkOkC sn on N x b c){y:Str×NameKind}(h:y∈sn)(e:y.2=.cell):y.1=x:=by
 have:y∈sn.filter fun y=>y.2==.cell:=qG.mpr ⟨h,by rw[e];rfl⟩
 rw[B.one,qD] at this;rw[this]
theorem X8{sn on:List (Str×NameKind)}{N:List Str}{x:Str}{c:List Str}{b:List Nat}(h:VS sn on N x c b=true):BlkOkC sn on N x c b:=by
 unfold VS at h;simp only[xO,vN,xu,decide_eq_true_eq] at h;obtain⟨⟨⟨⟨⟨h0,h1⟩,w⟩,h2⟩,g⟩,l⟩:=h;refine⟨h0,h1,w,fun y hy e=>?_,fun y hy e=>?_,g,fun k x e=>?_⟩
 ·have:=(h2 y hy).1
  simp only[JP,bne_iff_ne,xu] at this;exact this.resolve_left fun z=>z e
 ·have:=(h2 y hy).2
  simp only[JP,bne_iff_ne,xu] at this;exact this.resolve_left fun z=>z e
 ·have hk:k<c.length:=(zC.mp e).1
  have f:k<b.length:=by omega
  have s:(x,b[k])∈c.zip b:=by
   refine qr (i:=k) ?_
   rw[zfv];exact⟨e,by simp[f]⟩
  have:=l _ s;exact⟨this.1,b[k],by simp[f],this.2⟩
theorem Jz:∀{names:List (Str×NameKind)} (n:Nat) (b:List (Str×Addr)) (h:Heap),(names.filter fun y=>y.2==.cell)=[]->cellsFrom n names b=b/\pushCells h names=h
 | [],_,_,_,_=>⟨rfl,rfl⟩
 | (a,k)::r,n,b,h,e=>by
  by_cases q:(k==NameKind.cell)=true
  ·rw[vM,zv (show((a,k).2==NameKind.cell)=true from q)] at e
   cases e
  ·rw[vM,zu (show ¬((a,k).2==NameKind.cell)=true from q)] at e
   unfold cellsFrom pushCells;rw[zu q,zu q];exact Jz n b h e
theorem X4{x:Str}:∀{names:List (Str×NameKind)} (n:Nat) (b:List (Str×Addr)) (h:Heap),(names.filter fun y=>y.2==.cell)=[(x,.cell)]->cellsFrom n names b=(x,n)::b/\pushCells h names=h.push { cls:=.type "cell",data:=.cell none }
 | [],_,_,_,e=>by cases e
 | (a,k)::r,n,b,h,e=>by
  by_cases q:(k==NameKind.cell)=true
  ·rw[vM,zv (show((a,k).2==NameKind.cell)=true from q)] at e
   injection e with e1 e2;cases e1;unfold cellsFrom pushCells;rw[zv q,zv q];exact Jz _ _ _ e2
  ·rw[vM,zu (show ¬((a,k).2==NameKind.cell)=true from q)] at e
   unfold cellsFrom pushCells;rw[zu q,zu q];exact X4 n b h e
theorem zac{M:Model}{A:Around}{E:Value->Shared->Prop}{s:Shared}{scope:Scope}{globals:Addr}{c:List (Str×Addr)}{qual:Str}{b:Env}{x:Str}{Q:Env->Shared->Prop}(g:(scope.names.filter fun y=>y.2==.cell)=[(x,.cell)])
  (w:Q { scope:=scope,locals:=s.heap.objs.size,globals:=globals,cells:=(x,s.heap.objs.size+1)::c,qual:=qual,func:=none,code:=b.code,frame:=b.frame,builtins:=b.builtins } { s with heap:=(s.heap.push { cls:=.type "dict",data:=.dict #[] }).push { cls:=.type "cell",data:=.cell none } }) :
  wpAny M A (newFunctionEnv scope globals c [] qual none .none (some b)) Q E s:=by
 simp only[newFunctionEnv,zaK,if_true];refine zg (wpAny_alloc (zg (wpAny_layCells _ (fun l kind cells=>by cases f:kind==NameKind.cell<;>simp[f]) _ _ _ _ ?_)))
 obtain⟨e1,e2⟩:=X4 (names:=scope.names) (x:=x) (s.heap.push { cls:=.type "dict",data:=.dict #[] }).objs.size c (s.heap.push { cls:=.type "dict",data:=.dict #[] }) g;rw[e1,e2,jV];exact zg (zw (zw w))
theorem Zj{b:Env}{x:Str}:∀{names:List (Str×NameKind)},names.lookup x=some .cell->(names.map fun(n,k)=>if(k==NameKind.free&&b.scope.kind==.function&&b.kindOf n==some .cell) then(n,NameKind.cell) else(n,k)).lookup x=some .cell
 | [],h=>by simp at h
 | (n,k)::r,h=>by
  show List.lookup x ((if(k==NameKind.free&&b.scope.kind==.function&&b.kindOf n==some .cell)=true then(n,NameKind.cell) else(n,k))::_)=some NameKind.cell
  by_cases hx:(x==n)=true
  ·rw[jX,hx] at h
   cases(jq h);split<;>simp[jX,hx]
  ·have c:(x==n)=false:=by simpa using hx
   rw[jX,c] at h;split
   ·rw[jX,c];exact Zj h
   ·rw[jX,c];exact Zj h
section
variable{X:Cx}{w L f:Expr}{A:List Expr}{scope:Scope}{E:Pos}{M:TI}{g:TG}{J:TT}{G:TE}{x:Str}
theorem zap{T:List (Addr×Obj)}{σ:St}{H:Hp}{s:Shared}{fp:List Addr}(fr:List Str)(js:List Nat)(I:Inv X T σ H s)(B:BlkOkC scope.names X.env.scope.names X.N x fr js)(hk:scope.kind=.function)
  (f2:∀b∈fp,xo X T H b) (fl:∀b∈fp,b<s.heap.objs.size) {D C:Addr} (hD:D=s.heap.objs.size) {U h1:Heap} (e3:U=s.heap.push { cls:=.type "list",dict:=none,data:=.seq ([]:List Value).toArray }) (hC:C=U.objs.size)
  {m:Str->Option Value} (ah:h1.Ns C m) (a0:h1.IsCell (C+1) none) (k4:∀b o,U.get? b=some o->h1.get? b=some o) {t4:Nat} :
  Inv (xi X ([x]++fr) scope x C { s with heap:=U } H (D::fp)) [] (upS 1 js σ) H { s with heap:=h1,toks:=t4 }:=by
 have k3:∀b o,s.heap.get? b=some o->U.get? b=some o:=fun b o e=>by rw[e3];exact z7 _ e
 have I3:Inv X T σ H { s with heap:=U }:=I.kept (t':=s.toks) k3;have hz:U.objs.size=s.heap.objs.size+1:=by rw[e3,jV]
 have N:∀y∈scope.names,y.2=NameKind.free->∃c,X.env.cells.lookup y.1=some c:=fun y hy e=>I.ok.has y.1 (B.free y hy e)
 have O:∀x c,X.env.cells.lookup x=some c->c<s.heap.objs.size:=fun x c e=>by
  obtain⟨v,q⟩:=I.cell x c e;exact q.lt
 have aa:∀y c,(jg X.env.cells scope.names []).lookup y=some c->c<C:=fun y c e=>by
  have:=O y c (qw e N);rw[hC,hz];exact wB this
 have look:∀y c,((x,C+1)::jg X.env.cells scope.names []).lookup y=some c->(y=x/\c=C+1)\/(y≠x/\(jg X.env.cells scope.names []).lookup y=some c):=fun y c e=>by
  rw[jX] at e;by_cases q:(y==x)=true
  ·rw[q] at e
   exact .inl ⟨by simpa using q,(jq e).symm⟩
  ·rw[(Bool.not_eq_true _).mp q] at e
   exact .inr ⟨fun z=>q (by simpa using z),e⟩
 refine⟨⟨I.ok.mod,hk,I.ok.glob,I.ok.blt,wf hC.symm,fun y1 y2 c e1 e2=>?_,fun y hy=>?_,fun y c hf e=>?_,fun hc=>I.ok.hd hc,I.ok.frames,.inl rfl,fun b hb=>?_,I3.bs,jk I.ok.bsz I3.sz,fun b o e hb=>?_,fun b hb hf=>?_,I3.stack,I3.stkFree⟩,
  rfl,I.bare,Un.kept k4,⟨m,ah,fun i y v e1 e2 ai=>?_⟩,fun y c e=>?_,?_,fun y c e=>?_,fun p hp=>absurd (show p∈([]:List (Addr×Obj)) from hp) (by simp),I3.hok.kept k4,?_⟩
 ·rcases look _ _ e1 with ⟨a1,a2⟩ | ⟨a1,a2⟩<;>rcases look _ _ e2 with ⟨b1,b2⟩ | ⟨b1,b2⟩
  ·rw[a1,b1]
  ·have:=aa _ _ b2
   rw[a2] at this;exact absurd this (Nat.not_lt.mpr (vt _))
  ·have:=aa _ _ a2
   rw[b2] at this;exact absurd this (Nat.not_lt.mpr (vt _))
  ·exact I.ok.inj _ _ c (qw a2 N) (qw b2 N)
 ·by_cases q:y=x
  ·subst q
   exact⟨C+1,by show List.lookup y ((y,C+1)::_)=_;simp[jX]⟩
  obtain⟨k,e,z⟩:∃k,scope.names.lookup y=some k/\(k=.free):=by
   rcases hy with hx | hx
   ·obtain⟨k,e,z⟩:=vH hx
    rcases z with z | z
    ·subst z;exact absurd (B.is (wZ e) rfl) q
    ·exact⟨k,e,z.1⟩
   ·obtain⟨k,e,z⟩:=vH hx
    rcases z with z | z
    ·subst z;exact⟨_,e,rfl⟩
    ·exact⟨k,e,z.1⟩
  subst z;refine⟨(X.env.cells.lookup y).getD 0,?_⟩
  show List.lookup y ((x,C+1)::_)=_;rw[jX,show(y==x)=false from by simpa using q]
  exact vF e
 ·rcases look _ _ e with ⟨a1,a2⟩ | ⟨a1,a2⟩
  ·rw[a2]
   show U.objs.size<=C+1;rw[hC];exact vt _
  ·exact absurd (by simpa using hf) a1
 ·have Q:∀b,b<C->∀y c,((x,C+1)::jg X.env.cells scope.names []).lookup y=some c->(∀y c,X.env.cells.lookup y=some c->c≠b)->c≠b:=fun b hb y c e h=>by
   rcases look _ _ e with ⟨a1,a2⟩ | ⟨a1,a2⟩
   ·rw[a2];exact xK (wB hb)
   ·exact h y c (qw a2 N)
  rcases qe.mp hb with z | hb
  ·subst z
   refine⟨by rw[hD,hC,hz];exact qh (yE _),fun y c e=>Q _ (by rw[hD,hC,hz];exact yE _) y c e fun y c e=>?_⟩
   have:=O y c e;rw[hD];exact qh this
  ·have af:b<C:=by rw[hC,hz];exact wB (fl b hb)
   exact⟨qh af,fun y c e=>Q _ af y c e fun y c e=>(f2 b hb).2.2.2.2.1 y c e⟩
 ·rcases qe.mp hb with z | hb
  ·have:=zH (I.bk b o e)
   rw[z,hD] at this;exact vw _ this
  ·rcases(f2 b hb).2.2.2.1 with z | z
   ·exact I.ok.noex b o e z
   ·exact absurd (xj (zH (I.ok.bs b o e).1) z) (vw _)
 ·have ac:=qe.mp (I.stkSub b hf)
  rcases qe.mp hb with z | hb
  ·rcases ac with y | y
   ·have:=I.lt
    rw[<- y,z,hD] at this;exact vw _ this
   ·exact I.nofs (a:=b) (by rw[z,hD];exact zJ _) y
  ·rcases ac with y | y
   ·exact(f2 b hb).2.1 y
   ·exact(f2 b hb).2.2.1 y
 ·obtain⟨hn,_,j,ej,es⟩:=wn e2
  have ex:fr[i-1]? =some y:=by
   rw[wC (show([x]:List Str).length<=i from hn)] at e1
   exact e1
  obtain⟨Y,j',ab,eN⟩:=B.fr _ y ex;have:j'=j:=by rw[ej] at ab;exact(jq ab).symm
  subst this;have ae:=B.free _ (wZ Y) rfl;obtain⟨m0,_,hl⟩:=I.loc;obtain⟨u,r,l⟩:=hl j' y v eN es (by rcases ae with z | z;exact .inr (.inl z);exact .inr (.inr z))
  refine⟨u,r,.inr ?_⟩
  have yx:y≠x:=fun z=>by
   have:=B.lk;rw[<- z,Y] at this;cases this
  rcases l with ⟨kl,_⟩ | ⟨_,c,ec,o,eo,ed⟩
  ·have ag:X.env.scope.names.lookup y=some .local:=kl
   rcases ae with z | z
   ·exact absurd (z.symm.trans ag) (by decide)
   ·exact absurd (z.symm.trans ag) (by decide)
  ·obtain⟨k',e',z⟩:=wF (env:=X.env) Y
   have eq:((x,C+1)::jg X.env.cells scope.names []).lookup y=some c:=by
    rw[jX,show(y==x)=false from by simpa using yx]
    show(jg X.env.cells scope.names []).lookup y=some c;rw[vF Y,ec];rfl
   refine⟨?_,c,eq,o,k4 c o (k3 c o eo),ed⟩
   rcases z with z | z
   ·subst z;exact .inl e'
   ·subst z;exact .inr e'
 ·rcases look _ _ e with ⟨a1,a2⟩ | ⟨a1,a2⟩
  ·rw[a2];exact⟨none,a0⟩
  ·obtain⟨v,o,eo,ed⟩:=I.cell y c (qw a2 N)
   exact⟨v,o,k4 c o (k3 c o eo),ed⟩
 ·exact I3.hok.fresh (wf hC.symm)
 ·rcases look _ _ e with ⟨a1,a2⟩ | ⟨a1,a2⟩
  ·rw[a2]
   exact I3.hok.fresh (by show U.objs.size<=C+1;rw[hC];exact vt _)
  ·exact I.freeC y c (qw a2 N)
 ·rw[Vj,<- B.len]
  show _=([x]++fr).length;rw[qo];rfl
end
end L2
namespace L2
end L2
namespace L2
open PySem PySem.W PySem.Spec PyProof.Rows
abbrev bmV:List Value:=[.type "ValueError",.type "Exception",.type "BaseException",.type "object"]
def zkS(K:Frag)(C:Addr)(c:Option Value):Bool:=match K.lookup C with
 | some ⟨.type "type",_,.cls b,l⟩=>(match b.mro with
  | .ref f::g=>(match l.toList with
   | [_,_,_,_,some (.builtin n),_]=>f==C&&(n == "ValueError.__new__" && (!b.hasDel&&(tailIn K bmV g&&(nsOkIn K b.ns&&nsIn K b.ns "__init__" == some c))))
   | _=>false)
  | _=>false)
 | _=>false
structure Xc(h:Heap)(C:Addr)(ini:Option Value):Prop where
 is:∃(bm:List Value) (N:Addr) (nm qn:Str) (bs:List Value) (hd:Bool) (sn:List Str) (sub:List Value) (ab:Bool) (col:Option Bool) (dd:Option Addr) (k0 k1 k2 k3 k5:Option Value) (mN:Str->Option Value),
  h.get? C=some (excClassObj nm qn C N bs bm hd sn sub ab col dd k0 k1 k2 k3 k5 "ValueError.__new__")/\h.Ns N mN/\mN "__init__" = ini/\OwnTail h bmV bm
end L2
namespace L2
open PySem PySem.W PySem.Spec PyProof.Rows
section
variable{P:Program}{w:World}{H:Hp}{h b:Heap}{a:Addr}{o:HO}
theorem ObjOk.has(x:ObjOk P w H h a o):∃u,h.get? a=some u:=by
 cases o with
 | lst g=>obtain⟨_,_,_,_,e⟩:=x;exact⟨_,e⟩
 | tup g=>obtain⟨_,_,_,⟨u,e,_⟩,_⟩:=x;exact⟨u,e⟩
 | dK c=>obtain⟨_,_,_,_,u,_,_,e,_⟩:=x;exact⟨u,e⟩
 | dT c=>obtain⟨_,_,_,_,u,_,_,e,_⟩:=x;exact⟨u,e⟩
 | set S n=>obtain⟨u,_,_,_,e,_⟩:=x;exact⟨u,e⟩
 | ins C l fs=>obtain⟨_,_,_,e,_⟩:=x;exact⟨_,e⟩
 | own y=>obtain⟨u,e⟩:=x;exact⟨u,e⟩
 | xd fs=>obtain⟨_,⟨u,_,_,e,_⟩,_⟩:=x;exact⟨u,e⟩
 | rng lo s=>obtain⟨_,_,_,e⟩:=x;exact⟨_,e⟩
 | frz A u=>obtain⟨e,_⟩:=x;exact⟨_,e⟩
 | tbl B=>exact⟨_,show h.get? a=some _ from x⟩
 | met f y=>exact⟨_,show h.get? a=some _ from x⟩
 | ext φ=>obtain⟨_,⟨u,e⟩,_⟩:=x;exact⟨u,e⟩
theorem HOk.none_of(x:HOk P w H h)(e:h.get? a=none):H a=none:=by
 cases q:H a with
 | none=>rfl
 | some u=>obtain⟨z,c⟩:=(x a u q).has;rw[e] at c;cases c
end
section
variable{X:Cx}{f:List (Addr×Obj)}{σ:St}{H:Hp}{s:Shared}{g:Heap}
theorem Inv.laidN{a:Addr}{o:HO}{t':Nat}(I:Inv X f σ H s)(k:∀b u,s.heap.get? b=some u->g.get? b=some u)(A:s.heap.get? a=none)(w:ObjOk X.prog X.w (upd H a o) g a o) :
  Inv X f σ (upd H a o) { s with heap:=g,toks:=t' }:=by
 have C:=I.hok.none_of A;have ne:∀b u,s.heap.get? b=some u->b≠a:=fun b u q z=>by rw[z,A] at q;cases q
 have l:∀b u,H b=some u->b≠a:=fun b u q z=>by rw[z,C] at q;cases q
 refine I.un ⟨fun b u q _ _ _=>k b u q,fun b u q _ _ _=>⟨u.slots,k b u q⟩,fun b u q n _=>by rw[zp (ne b u q)];exact n,fun b u q _=>⟨u,k b u q⟩,
  fun b B q=>by rw[zp (l b _ q)];exact q,fun b u B q=>by rw[zp (l b _ q)];exact q,fun b D q=>⟨#[],by rw[zp (l b _ q),q];simp⟩⟩ ?_
 intro b u e;by_cases hb:b=a
 ·subst hb;rw[zd] at e;cases e;exact w
 ·rw[zp hb] at e
  exact(I.hok b u e).stay (fun c v _ q=>k c v q) (fun c q=>by rw[zp (l c _ q)];exact q) fun c B q=>by rw[zp (l c _ q)];exact q
end
section
variable{b:Program}{w:World}{A:Around}{E:Value->Shared->Prop}{h:Heap}{g:Array GenState}{d:Drawn}{t:Nat}{os:OsState}{C:Addr}
end
section
variable{c:Program}{w:World}{A:Around}{E:Value->Shared->Prop}{h:Heap}{g:Array GenState}{d:Drawn}{t:Nat}{os:OsState}
variable{M q:Str}{C N:Addr}{B s:List Value}{b:Bool}{sn:List Str}{sub:List Value}{l:Bool}{f:Option Bool}{D:Option Addr}{G H I J L:Option Value}
end
end L2
namespace L2
open PySem PySem.W PySem.Spec PyProof.Rows
structure XK2(K:Frag)(C:Addr)(ini:Option Value):Prop where
 cls:zkS K C ini=true
 sa:findIn K (.ref C) "__setattr__" = some (some (.builtin "object.__setattr__"))
 ga:findIn K (.ref C) "__getattribute__" = some (some (.builtin "BaseException.__getattribute__"))
 gh:findIn K (.ref C) "__getattr__" = some none
 ob:mroIn K C (.type "object")=some true
 be:mroIn K C (.type "BaseException")=some true
 hd:hasDictIn K C=true
section
variable{b:Program}{w:World}{A:Around}{E:Value->Shared->Prop}{h:Heap}{g:Array GenState}{d:Drawn}{t:Nat}{os:OsState}{K:Frag}{C e l:Addr}{c:Option Value}{f:Str}{v:Value}
end
end L2
namespace L2
open PySem PySem.W PySem.Spec PyProof.Rows
section
variable{b:Program}{w:World}{A:Around}{E:Value->Shared->Prop}{h:Heap}{g:Array GenState}{d:Drawn}{t:Nat}{os:OsState}{K:Frag}{C e D l:Addr}{B:Option Addr}{c:Option Value}{f:Str}{v:Value}{s:Str->Option Value}
end
end L2
namespace L2
open PySem PySem.W PySem.Spec PyProof.Rows
structure XKc(K:Frag)(C:Addr):Prop where
 lk:findIn K (.ref C) "__class__" = some (some (.builtin "object.__class__"))
 gt:specialIn K (.builtin "object.__class__") "__get__" = some (some (.builtin "getset_descriptor.__get__"))
 tk:takesIn K (.builtin "object.__class__")=some true
section
variable{b:Program}{w:World}{A:Around}{E:Value->Shared->Prop}{h:Heap}{g:Array GenState}{d:Drawn}{t:Nat}{os:OsState}{K:Frag}{C f e B:Addr}{l:Option Addr}{c:Option Value}{s:Option Obj}
end
end L2
namespace L2
open PySem PySem.W PySem.Spec PyProof.Rows
structure XOk(K:Frag)(C:Addr)(ini:Option Value):Prop where
 k:XK2 K C ini
 c:XKc K C
 kp:keepIn K (.ref C)=true
 ty:typeIn K (.ref C)=some (.type "type")
 cd:∃cd,clsIn K C=some cd
 ve:mroIn K C (.type "ValueError")=some true
section
variable{X:Cx}{w:CXT}{k:Nat}{f C:Addr}{D:FuncData}{G:List Str}{A:List Value}{g:List V}{H:Sp}{E:XK}{x m:Str}{p s c:Pos}{e o b:Expr}{B:List Expr}{t:TA}{I J:TE}{l:Option Value}
end
end L2
namespace L2
open PySem PySem.W PySem.Spec PyProof.Rows
section
variable{X:Cx}
inductive YL(K:W.Frag)(x:V)(y:V)(H:Hp)(Q:VK):Prop
 | mk (a b:Addr) (c:List V) (_:x=.ref a) (_:y=.ref b) (_:SqL K H a c) (_:SqL K H b c) (_:c.all xH=true) (_:(∀v∈c,eqV v v=true)) (_:Q (.bl false) H):YL K x y H Q
theorem zeE(hu:X.A.units<cLine):OpR X (compareOp .NotEq) (YL X.K):=by
 intro B s σ H x y v u Q I U Y h;obtain⟨a,b,l,rfl,rfl,hx,hy,G,E,q⟩:=h;cases U;cases Y;obtain⟨f,C,M,z1⟩:=I.list hx;obtain⟨g,D,N,z2⟩:=I.list hy;have l1:=C.length;have l2:=D.length;refine zaL (e:=fun _=>true) M.isList N.isList (by rw[zQ,zQ];omega) hu (fun j h1 h2=>?_) _ _ _ _ ⟨.bl _,H,I,rfl,?_⟩
 ·have c:j<l.length:=by rw[zQ] at h1;omega
  obtain⟨w1,e1,O⟩:=C.get (i:=j) (x:=l[j]) (by simp[c])
  obtain⟨w2,e2,T⟩:=D.get (i:=j) (x:=l[j]) (by simp[c])
  have J:f.toArray[j]=w1:=by simpa using (zC.mp e1).2
  have L:g.toArray[j]=w2:=by simpa using (zC.mp e2).2
  have w:=vN.mp G _ (vX c);have z:=Ju (A:=X.A.in1) (s:=s) O T w w;rw[E _ (vX c)] at z;rw[J,L];exact z
 ·rw[show((List.range f.toArray.size).all fun _=>true)=true from vN.mpr fun _ _=>rfl]
  exact q
end
structure Xs(K:Frag)(mg:Str->Option Value)(x:Str)(C:Addr)(ini:Option Value):Prop where
 ok:XOk K C ini
 gl:mg x=some (.ref C)
structure XsI(P:Program)(w:World)(K:Frag)(mg:Str->Option Value)(base:Heap)(x:Str)(C f:Addr)(k:Nat)(ps:List Str)(sp:Sp):Prop extends Xs K mg x C (some (.ref f)) where
 ex:∃fd oF,qY P w K mg base CX0 k f fd ps sp/\K.lookup f=some oF/\oF.cls=.type "function" /\ Binds K fd ps []
section
variable{X:Cx}{x:Str}{k:Nat}{C f:Addr}{g:List Str}{l:Sp}{p b:Pos}{e:Expr}{c:List Expr}{t:TA}
end
end L2
namespace L2
open PySem PySem.Spec PyProof.Rows
theorem ZF:∀{c:List Value} {b:List Int},IntsAre c b->Vals (b.map V.int) c
 | _,_,.nil=>.nil
 | _,_,.cons n t r=>.cons ⟨t,rfl⟩ (ZF r)
theorem Xv:∀{c:List Value} {b:List Str},StrsAre c b->Vals (b.map V.str) c
 | _,_,.nil=>.nil
 | _,_,.cons n t r=>.cons ⟨t,rfl⟩ (Xv r)
section
variable{X:Cx}
inductive yN(K:W.Frag)(f:List V)(H:Hp)(Q:VK):Prop
 | mk (a:Addr) (c:List Int) (_:f=[.ref a]) (_:SqL K H a (c.map V.int)) (_:c.length<64) (_:∀(p:Addr) (b:List Int),H p=none->b.Perm c->b.Pairwise (·<= ·)->Q (.ref p) (upd H p (.lst (b.map V.int)))):yN K f H Q
theorem xn:jY X (.builtin "sorted") (yN X.K):=by
 intro l s σ H M L Q I r h;obtain⟨a,G,rfl,hx,E,q⟩:=h;obtain⟨u,rfl,D⟩:=ua r;cases(show u=Value.ref a from D)
 obtain⟨c,w,C,hz⟩:=I.list hx;have f:=w.length;rw[zn] at f;refine sorted_ints C.isList (Jr w) (by omega) fun b g a1 a2 a3=>?_
 obtain⟨e,A⟩:=sortedAll_at s.heap c b;have B:H (s.heap.objs.size+1)=none:=I.hok.fresh (vt _);refine⟨.ref (s.heap.objs.size+1),_,I.laid (a:=s.heap.objs.size+1) (o:=.lst (g.map V.int)) (t':=s.toks) (fun _ _=>sortedAll_old) (vt _) ⟨?_,b.toList,e,ZF a1,?_⟩,rfl,q _ g B a2 a3⟩
 ·rw[zn,a2.length_eq,sizeLine_eq];omega
 ·rw[A]
end
section
variable{f:Program}{w:World}{κ:Type}[DecidableEq κ]{c:PySem.KeyKind f w κ}{A:Around}{E:Value->Shared->Prop}{s:Shared}
theorem zd3{d:Addr}{g:List (κ×Value)}{k:κ}{T dflt:Value}{Q:Value->Shared->Prop}(B:c.is k T=true)(hm:s.heap.DictOf c d g)(ag:g.length<=sizeLine)
  (H:∀v,valueAt g k=some v->Q v { s with toks:=s.toks+1 })
  (N:valueAt g k=none->∀h',h'.DictOf c d (stored g k dflt)->Heap.SameBut d s.heap h'->Q dflt { s with heap:=h',toks:=s.toks+1 }) :
  wpAny (model f w) A (dictSetDefault d T dflt) Q E s:=by
 obtain⟨o,C,ep,O,hc,I,hk,hp,hn⟩:=id hm;obtain⟨o',ae,ac,G,-,L,-,hf⟩:=hm.mapOf;rw[O] at G;injection G with G;subst G;rw[I] at L;injection L with aa af;subst aa;have ab:C.size<=sizeLine:=by
  have e1:=hp.length;have e2:C.toList.length=C.size:=by simp
  omega
 have Y:(C.findIdx? fun en=>c.is k en.key)=g.findIdx? fun p=>decide (p.1=k):=by
  obtain⟨l⟩:=C;rw[<- hp.findIdx k];simp
 unfold dictSetDefault;refine xN (zg (c.pyHash B (zg (wpAny_dictFind_of (s:={ s with toks:=s.toks+1 }) B O I hk ?_))))
 cases U:C.findIdx? fun en=>c.is k en.key with
 | some i=>
  have M:i<C.size:=(Array.findIdx?_eq_some_iff_findIdx_eq.mp U).1
  have D:valueAt g k=(C[i]?).map (·.val):=by rw[<- hf k,findBy_of_findIdx?,U]
  rw[vz M] at D;refine zg (wpAny_dictEntries (s:={ s with toks:=s.toks+1 }) O I ?_)
  rw[vz M];exact zg (vv (zw (H _ D)))
 | none=>
  have fresh:k∉g.map (·.1):=not_mem_of_findIdx_none (Y▸U)
  have J:¬(g.any fun kv=>decide (kv.1=k))=true:=fun z=>by
   obtain⟨kv,h1,h2⟩:=yF.mp z;exact fresh (zN.mpr ⟨kv,h1,jy h2⟩)
  have D:valueAt g k=none:=by rw[<- hf k,findBy_of_findIdx?,U]
  have a0:stored g k dflt=g++[(k,dflt)]:=by rw[stored,zu J]
  refine zg (vv (zg (wpAny_updateDictKeys (s:={ s with toks:=s.toks+1 }) (hz:=ab) O I (zw (N D _ ?_ (Zc ..))))))
  rw[a0];refine⟨_,_,ep+1,vY _ O (Obj.isFreed_of_dict (Obj.data_mapDictKeys I _)),hc.mapDictKeys _,Obj.data_mapDictKeys I _,hk.push B _,?_,?_⟩
  ·have z:=hp.append B (c.hash k) dflt
   obtain⟨l⟩:=C;simpa using z
  ·rw[zP,ZA]
   refine⟨hn,by simp,fun a ha b hb z=>fresh ?_⟩
   rw[show List.map (·.1) [(k,dflt)]=[k] from rfl,qD] at hb
   rw[<- hb,<- z];exact ha
end
section
variable{b:Program}{w:World}{κ:Type}[DecidableEq κ]{knd:PySem.KeyKind b w κ}
theorem zeU{d:Addr}{k:κ}{f x:Value}(l:knd.is k f=true)(hs:(d==sysModules)=false) :
  MeetsIn b w (Builtin.«dict.setdefault» ⟨[.ref d,f,x],[]⟩) (fun _ R s=>∃c,s.heap.DictOf knd d c/\c.length<=sizeLine/\(∀v,valueAt c k=some v->R (.ok (.ret v)) { s with toks:=s.toks+1 }) /\
   (valueAt c k=none->∀g,g.DictOf knd d (stored c k x)->Heap.SameBut d s.heap g->R (.ok (.ret x)) { s with heap:=g,toks:=s.toks+1 })):=
 .of_wp fun A R s ⟨c,E,hz,h1,h2⟩=>by
  delta Builtin.«dict.setdefault» Builtin.Dict.keyAndDefault;refine zg (zg (wpAny_notOrdered_dict E.typeIs (zw (a:=(d,f,some x)) ?_)))
  have D:¬(d==sysModules)=true:=by rw[hs];exact qR
  refine(show wpAny _ _ (if(d==sysModules)=true then _ else(dictSetDefault d f x >>= _)) _ _ _ from ?_)
  rw[zu D];exact zg (zd3 l E hz (fun v hv=>zw ⟨v,rfl,h1 v hv⟩) fun G g B C=>zw ⟨x,rfl,h2 G g B C⟩)
end
section
variable{X:Cx}{g ty w:TE}{o e f:Expr}{b c:Pos}
def zk3(g ty w:TE):TE:=fun σ H Q=>g σ H fun x A=>∃a,x=.ref a/\IsD A a/\ty σ A fun y B=>w σ B fun z s=>∃l k,s a=some (.dK l)/\y=kV k/\l.length<sizeLine /\
 (∀v,jr l k=some v->Q v s)/\(jr l k=none->Q z (upd s a (.dK (xm l k z))))
theorem zia(ho:PE X o g)(he:PE X e ty)(hf:PE X f w)(m:M2 X o "setdefault" b e f c):PE X (.Call (.Attribute o "setdefault" b) [e,f] [] c) (zk3 g ty w):=by
 intro B s σ H Q I h;refine wpAny_Call_method m.base m.few m.line Wh zfB PySem.F.type_dict_setdefault (thn (ho B s σ H _ I h) fun u s1 ⟨x,H1,M,rx,a,ex,d,q1⟩=>?_)
 subst ex;obtain rfl:u=Value.ref a:=rx;obtain⟨t1,t2,_⟩:=VH M d;refine⟨t1,t2,?_⟩
 rw[m.trees];refine JY rfl (Wb (ZC (thn (he B s1 σ H1 _ M q1) fun iv s2 ⟨y,H2,I2,ry,q2⟩=>
  ZC (thn (hf B s2 σ H2 _ I2 q2) fun fv s3 ⟨z,H3,J,U,A,k,O,ey,l,g1,g2⟩=>JR ?_))))
 subst ey;obtain⟨zz,T,Y,C,N⟩:=Yw J.hok O;have hz:Y.length<=sizeLine:=by rw[<- C.length];exact zz
 refine call_meetsIn zfB N.typeIs PySem.F.entry_dict_setdefault (PySem.F.args_dict_setdefault_3 _ _ _) (zeU (knd:=zO X.prog X.w) (wV ry) T) ⟨Y,N,hz,fun v hv=>?_,fun hn h' G hs=>?_⟩
 ·have D:=C.val k
  rw[hv] at D;cases E:jr A k with
  | none=>rw[E] at D;exact D.elim
  | some L=>
   rw[E] at D;exact⟨L,H3,J.tok _,D,g1 L E⟩
 ·have D:=C.val k
  rw[hn] at D;have E:jr A k=none:=by
   cases E:jr A k with
   | none=>rfl
   | some L=>rw[E] at D;exact D.elim
  have hl:(xm A k z).length<=sizeLine:=by have:=vg A k z;omega
  have ee:∃q,h'.get? a=some q:=let ⟨q,_,_,hq,_⟩:=G;⟨q,hq⟩
  exact⟨z,_,ZY J (by rw[O];exact True.intro) hs ee (Jw hl T (C.put k U) G),U,g2 E⟩
end
theorem Yp{P:Program}{w:World}{k:Key}{u:Value}(h:(zO P w).is k u=true):RelV (kV k) u:=by
 rw[zae] at h;rcases jw h with ⟨i,t,rfl,rfl⟩ | ⟨x,t,rfl,rfl⟩
 ·exact⟨t,rfl⟩
 ·exact⟨t,rfl⟩
theorem KV.get:∀{b:List (Key×V)} {c:List (Key×Value)} {j:Nat} {q:Key×Value},KV b c->c[j]? =some q->∃p,b[j]? =some p/\p.1=q.1/\RelV p.2 q.2
 | _,_,j,_,.nil,e=>by simp at e
 | _,_,0,_,.cons h _,e=>by simp at e;subst e;exact⟨_,rfl,h⟩
 | _,_,j+1,_,.cons _ t,e=>by
  obtain⟨p,e1,r⟩:=KV.get (j:=j) t (by simpa using e)
  exact⟨p,by simpa using e1,r⟩
theorem Vi:∀{c:List V} {b:List Value},c.length=b.length->(∀(j:Nat) u,b[j]? =some u->∃x,c[j]? =some x/\RelV x u)->Vals c b
 | [],[],_,_=>.nil
 | [],_::_,h,_=>by simp at h
 | _::_,[],h,_=>by simp at h
 | x::c,u::b,h,f=>by
  refine .cons ?_ (Vi (by simpa using h) fun j v e=>?_)
  ·obtain⟨y,e1,r⟩:=f 0 u rfl
   cases e1;exact r
  ·obtain⟨y,e1,r⟩:=f (j+1) v (by simpa using e)
   exact⟨y,by simpa using e1,r⟩
section
variable{X:Cx}
inductive Zf(c:List V)(H:Hp)(Q:VK):Prop
 | mk (a:Addr) (b:List (Key×V)) (_:c=[.ref a]) (_:Rd H a (.dK b)) (_:∀p,H p=none->Q (.ref p) (upd H p (.lst (b.map fun f=>kV f.1)))):Zf c H Q
theorem YC(O:X.A.handled=none):jY X (.type "list") (Zf):=by
 intro D s σ H xs us Q I r h;obtain⟨a,l,rfl,hx,q⟩:=h;obtain⟨u,rfl,ru⟩:=ua r;cases(show u=Value.ref a from ru)
 obtain⟨zz,N,vs,A,J⟩:=yw I.hok hx;obtain⟨C,G⟩:=J.dictAt;have ln:=A.length;refine PySem.W.kdl_call (PySem.W.kdl_dict (prog:=X.prog) (w:=X.w) (knd:=zO X.prog X.w) (d:=a) (kvs:=vs) (ep:=C) N) O G (by omega) fun h' tk b c g B f=>?_
 have T:H s.heap.objs.size=none:=I.hok.fresh (zJ _);refine⟨.ref s.heap.objs.size,_,I.laid (a:=s.heap.objs.size) (o:=.lst (l.map fun Y=>kV Y.1)) (t':=tk) g (zJ _) ⟨by rw[zn];exact zz,b.toList,c,Vi ?_ ?_,by rw[B]⟩,rfl,q _ T⟩
 ·have z:=f.1
  have y:b.toList.length=b.size:=xz;rw[zn];omega
 ·intro j u e
  rw[Zd] at e;obtain⟨k,x,e1,e2⟩:=f.2 j u e;obtain⟨p,L,M,_⟩:=KV.get A e1;exact⟨kV p.1,by rw[zZ,L];rfl,by rw[M];exact Yp e2⟩
end
section
variable{X:Cx}{g ty:TE}{o e:Expr}{c f:Pos}
def zi8(g ty:TE):TE:=fun σ H Q=>g σ H fun x A=>∃a,x=.ref a/\IsD A a/\ty σ A fun y w=>∃b s l,y=.ref b/\a≠b/\w a=some (.dK s)/\w b=some (.dK l)/\s.length+l.length<=sizeLine/\Q .non (upd w a (.dK (jL s l)))
theorem zf9(ho:PE X o g)(he:PE X e ty)(m:M1 X o "update" c e f):PE X (.Call (.Attribute o "update" c) [e] [] f) (zi8 g ty):=by
 intro w s σ H Q I h;refine wpAny_Call_method m.base m.few m.line Wh PySem.F.slot_dict_update PySem.F.type_dict_update (thn (ho w s σ H _ I h) fun u s1 ⟨x,N,E,rx,a,Y,d,q1⟩=>?_)
 subst Y;obtain rfl:u=Value.ref a:=rx;obtain⟨t1,t2,_⟩:=VH E d;refine⟨t1,t2,?_⟩
 rw[m.trees];refine JY rfl (Wb (ZC (thn (he w s1 σ N _ E q1) fun iv s2 ⟨y,H2,C,ry,b,D,B,ey,ne,J,T,l,q2⟩=>JR ?_)))
 subst ey;obtain rfl:iv=Value.ref b:=ry;obtain⟨_,sa,vs,L,G⟩:=Yw C.hok J;obtain⟨_,sb,ws,M,O⟩:=Yw C.hok T;have la:=L.length;have lb:=M.length;refine call_meetsIn PySem.F.slot_dict_update G.typeIs PySem.F.entry_dict_update (PySem.F.args_dict_update_2 _ _) (meets_dict_update (zO X.prog X.w) a b ne sb) ⟨vs,ws,G,O,by omega,fun h' A _ hs=>?_⟩
 have U:∃q,h'.get? a=some q:=let ⟨q,_,_,hq,_⟩:=A;⟨q,hq⟩
 exact⟨.non,_,ZY (t':=s2.toks) C (by rw[J];exact True.intro) hs U (Jw (jk (x9 B D) l) sa (M.merge L) A),rfl,q2⟩
end
theorem zbQ:∀{b:List Int} {c:List Value},b.length=c.length->(∀(j:Nat) u,c[j]? =some u->∃i t,b[j]? =some i/\u=.int i t)->IntsAre c b
 | [],[],_,_=>.nil
 | [],_::_,h,_=>by simp at h
 | _::_,[],h,_=>by simp at h
 | n::b,u::c,h,f=>by
  obtain⟨i,t,e1,e2⟩:=f 0 u rfl;cases e1;subst e2;refine .cons n t (zbQ (by simpa using h) fun j v e=>?_)
  obtain⟨i,t,e1,e2⟩:=f (j+1) v (by simpa using e)
  exact⟨i,t,by simpa using e1,e2⟩
section
variable{X:Cx}
inductive yg(g:List V)(H:Hp)(Q:VK):Prop
 | mk (a:Addr) (b:List (Int×V)) (_:g=[.ref a]) (_:Rd H a (.dK (b.map fun f=>(Sum.inl f.1,f.2)))) (_:b.length<64) (_:∀(p:Addr) (c:List Int),H p=none->c.Perm (b.map (·.1))->c.Pairwise (·<= ·)->Q (.ref p) (upd H p (.lst (c.map V.int)))):yg g H Q
theorem Xn(hh:X.A.handled=none):jY X (.builtin "sorted") (yg):=by
 intro Y s σ H xs us Q I r h;obtain⟨a,C,rfl,hx,aa,q⟩:=h;obtain⟨u,rfl,ru⟩:=ua r;cases(show u=Value.ref a from ru)
 obtain⟨zz,hd,vs,E,dd⟩:=yw I.hok hx;obtain⟨N,da⟩:=dd.dictAt;have ln:=E.length;rw[zn] at ln;have sz:sizeLine=16777216:=sizeLine_eq;refine zaT kind_sorted plain_sorted entry_sorted (args_sorted1 _) ?_
 delta Builtin.«sorted»;refine zg (m:=checkCount "sorted" 1 1 _) (zw (zg (PySem.W.kdu_collect (PySem.W.kdl_dict (prog:=X.prog) (w:=X.w) (knd:=zO X.prog X.w) (d:=a) (kvs:=vs) (ep:=N) hd) hh da (by omega) fun l tk c f B=>?_)))
 have al:c.toList.length=vs.length:=by rw[xz];exact B.1
 have hI:IntsAre c.toList (C.map (·.1)):=zbQ (by rw[zn];omega) fun j u e=>by
  rw[Zd] at e;obtain⟨k,x,e1,e2⟩:=B.2 j u e;obtain⟨p,M,G,_⟩:=KV.get E e1;rw[zZ] at M;obtain⟨O,e5,rfl⟩:=qE.mp M;have G:Sum.inl O.1=k:=G;subst G;obtain⟨t,rfl⟩:=Yp e2;exact⟨O.1,t,by rw[zZ,e5];rfl,rfl⟩
 refine zg (wpAny_newList ?_ (by omega))
 have g:(l.push (seqObj "list" c.toList.toArray 0)).get? l.objs.size=some (seqObj "list" c.toList.toArray 0):=zW _ rfl;refine zg (xN (xS slot_list_sort ⟨_,g,rfl⟩ entry_list_sort (list_sort_tree (s:={ s with heap:=l.push (seqObj "list" c.toList.toArray 0),toks:=tk }) g hI (by omega) fun A U a1 a2 a3=>⟨_,rfl,?_⟩) (args_list_sort _)))
 have D:s.heap.get? l.objs.size=none:=by
  cases z:s.heap.get? l.objs.size with
  | none=>rfl
  | some o=>exact absurd (zH (f _ _ z)) (vw _)
 obtain⟨J,L⟩:=sortedHeap_at (out:=A) g;refine zw ⟨_,rfl,.ref l.objs.size,_,I.laidN (a:=l.objs.size) (o:=.lst (U.map V.int)) (t':=tk) (fun b o e=>?_) D ⟨?_,A.toList,J,ZF a1,?_⟩,rfl,q _ U (I.hok.none_of D) a2 a3⟩
 ·have T:=zH (f b o e)
  rw[sortedHeap_old (qh T) (by rw[jV];exact wB T)]
  exact z7 _ (f b o e)
 ·rw[zn,a2.length_eq,zn];omega
 ·rw[L]
end
def zds(d:Addr)(o:Obj)(b:List (Key×V)):It:=
 ⟨fun i H=>H d=some (.frz o (.dK b))/\i<b.length,fun i H x c=>c=H/\∃k v,b[i]? =some (k,v)/\x=kV k,fun i H=>H d=some (.frz o (.dK b))/\b.length<=i⟩
theorem XT{P:Program}{w:World}:∀{c:List DictEntry} {f:List (Key×Value)},Pairs (zO P w) c f->∀{i:Nat} {q:Key×Value},f[i]? =some q->∃b,c[i]? =some b/\(zO P w).is q.1 b.key=true
 | _,_,.nil,_,_,h=>by simp at h
 | _,_,.cons h1 _ t,0,_,h=>by simp at h;subst h;exact⟨_,rfl,h1⟩
 | _,_,.cons _ _ t,i+1,_,h=>by
  obtain⟨b,e,r⟩:=XT t (i:=i) (by simpa using h)
  exact⟨b,by simpa using e,r⟩
theorem KV.back:∀{b:List (Key×V)} {c:List (Key×Value)} {j:Nat} {p:Key×V},KV b c->b[j]? =some p->∃q,c[j]? =some q/\p.1=q.1
 | _,_,j,_,.nil,e=>by simp at e
 | _,_,0,_,.cons h _,e=>by simp at e;subst e;exact⟨_,rfl,h.1⟩
 | _,_,j+1,_,.cons _ t,e=>by
  obtain⟨q,e1,r⟩:=KV.back (j:=j) t (by simpa using e)
  exact⟨q,by simpa using e1,r⟩
theorem Yt{P:Program}{w:World}{H:Hp}{h:Heap}{d:Addr}{o:Obj}{b:List (Key×V)}{c:Array DictEntry}{l:Nat}(ok:HOk P w H h)(e:H d=some (.frz o (.dK b)))(B:o.data=.dict c l):RawD h d c l/\c.size=b.length /\
  ∀(i:Nat) (k:Key) (v:V),b[i]? =some (k,v)->∃f:DictEntry,c[i]? =some f/\RelV (kV k) f.key:=by
 obtain⟨e1,z,y,Q,r,O,G,E,h1,h2,s,I,A,J⟩:=(show ObjOk P w H h d (.frz o (.dK b)) from ok d _ e)
 rw[e1] at h1;cases h1;rw[B] at s;cases s;have L:=A.length;have M:=r.length;have N:c.toList.length=c.size:=xz;refine⟨⟨o,e1,h2,B⟩,by omega,fun i k v hk=>?_⟩
 obtain⟨q,e2,g⟩:=KV.back r hk;obtain⟨f,C,D⟩:=XT A e2;have g:k=q.1:=g;exact⟨f,by rw[<- Zd];exact C,by rw[g];exact Yp D⟩
theorem Q5{P:Program}{w:World}{K:W.Frag}{tg:Expr}(d g:Addr)(o:Obj)(l:List (Key×V))(es:Array DictEntry)(ep:Nat)(he:o.data=.dict es ep):ZE P w K tg (zds d o l) [g] g (fun i h=>h.IsKeyIter g d i es.size ep) where
 mem:=by simp
 obj:=fun i h st b hb=>by
  have e:b=g:=by simpa using hb
  subst e;obtain⟨o,e,c,d⟩:=st;exact⟨o,e,fun v z=>by rw[d] at z;cases z⟩
 keep:=fun i h B st k=>st.at fun o e=>k g (by simp) o e
 item:=by
  intro X O Y N hc i f s σ H E I C st U;subst O Y N;obtain⟨Q,hi⟩:=U;obtain⟨rd,sz,all⟩:=Yt I.hok Q he;obtain⟨⟨k,v⟩,hx⟩:∃p,l[i]? =some p:=⟨l[i],by simp[hi]⟩
  obtain⟨en,T,ek⟩:=all i k v hx;obtain⟨D,G,f2,J,L,M⟩:=C g (by simp)
  refine zej st rd T fun B A sb=>?_
  have I1:Inv X f σ H { s with heap:=B }:=I.turned (t':=s.toks) (fun b o hb e=>(sb.2 b hb).trans e) D G J L M
  obtain⟨o',e',c',d'⟩:=id A;exact⟨_,rfl,zbR (s:={ s with heap:=B }) e' c' d' (by decide) ⟨kV k,H,I1,ek,⟨rfl,k,v,hx,rfl⟩,A,fun b hb=>(C b hb).1⟩⟩
 done:=by
  intro X O Y N hc i f s σ H E I C st U;subst O Y N;obtain⟨Q,hi⟩:=U;obtain⟨rd,sz,_⟩:=Yt I.hok Q he;obtain⟨D,G,f2,J,L,M⟩:=C g (by simp)
  exact zfY (I.ok.hd hc) st rd (by omega) fun B eb=>⟨rfl,I.turned (t':=s.toks) (fun b o hb e=>eb b o hb e) D G J L M⟩
 self:=fun _ _ _ _ _ st h=>wpAny_pyIter_keyiter st h
section
variable{X:Cx}{c:Expr}
def ziD(g:TE):TI:=fun σ H R=>g σ H fun x f=>∃d b,x=.ref d/\f d=some (.dK b)/\∀o,R (zds d o b) (upd f d (.frz o (.dK b)))
theorem zes{l:Expr}{G:TE}(O:PE X l G):PI X c l (ziD G):=by
 intro f s σ H R I h;refine thn (O f s σ H _ I h) fun v s1 ⟨x,E,w,T,Q⟩=>?_
 obtain⟨d,g,e,D,q⟩:=Q;subst e;cases T;obtain⟨z,y,U,r,o,B,A,h1,h2,C,L,M,N⟩:=(show ObjOk X.prog X.w E s1.heap d (.dK g) from w.hok d _ D)
 refine WY y ⟨o,h1,h2,C⟩ ?_
 have J:Inv X f σ (upd E d (.frz o (.dK g))) { s1 with heap:=s1.heap.push { cls:=.type "dict_keyiterator",data:=.fields #[.ref d,.int 0 0,.int B.size 0,.int A 0] },toks:=s1.toks }:=by
  refine w.write (x:=d) (e:=d) (by rw[D];exact True.intro) (.inl rfl) (fun b u _ e=>z7 _ e) ⟨o,z7 _ h1⟩ ?_
  exact⟨z7 _ h1,z,y,U,r,o,B,A,z7 _ h1,h2,C,L,M,N⟩
 refine⟨s1.heap.objs.size,[s1.heap.objs.size],_,_,_,rfl,J,Q5 d _ o g B A C,⟨_,zW _ rfl,rfl,rfl⟩,fun b hb=>?_,q o⟩
 have e:b=s1.heap.objs.size:=by simpa using hb
 subst e;refine w.fpOk (zJ _) ?_
 rw[zp (z9 (zm D (w.hok.fresh (zJ _))))];exact w.hok.fresh (zJ _)
end
theorem Yl{d:Addr}{o:Obj}{kvs:List (Key×V)}{n:Nat}{g:TG}{J:TT}{I:TE}{A:St}{R:List V->Hp->Prop}{H:Hp}(Pv:Nat->List V->Hp->Prop)(h0:Pv 0 [] H)
  (h1:∀i c H,Pv i c H->H d=some (.frz o (.dK kvs)))
  (hs:∀i k v c H,kvs[i]? =some (k,v)->Pv i c H->g (kV k) A H fun l D=>l.drop n=A.drop n/\J l D fun b s=>if b=true then I l s fun v E=>c.length<sizeLine/\Pv (i+1) (c++[v]) E else Pv (i+1) c s)
  (L:∀c H,Pv kvs.length c H->c.length<=sizeLine/\R c H) :
  ∃W:Nat->Nat->List V->Hp->Prop,(∃m,W 0 m [] H)/\∀i m c f,W i m c f ->
   ((zds d o kvs).stop i f/\c.length<=sizeLine/\R c f) \/
   ((zds d o kvs).go i f/\∃M:List V->Hp->Prop,(∀c B,M c B->∃G,G<m/\W (i+1) G c B)/\∀x C,(zds d o kvs).yld i f x C->g x A C fun l D=>l.drop n=A.drop n/\J l D fun b s=>
    if b=true then I l s fun y E=>c.length<sizeLine/\M (c++[y]) E else M c s):=by
 refine⟨fun i m c f=>m=kvs.length-i/\i<=kvs.length/\Pv i c f,⟨_,rfl,ji _,h0⟩,?_⟩
 rintro i m c f ⟨rfl,U,p⟩;by_cases w:i<kvs.length
 ·refine .inr ⟨⟨h1 i c f p,w⟩,Pv (i+1),fun T B N=>⟨_,by omega,rfl,w,N⟩,fun x C y=>?_⟩
  obtain⟨e,k,v,hk,rfl⟩:=y;subst e;exact hs i k v c _ hk p
 ·have e:i=kvs.length:=by omega
  subst e;obtain⟨O,Q⟩:=L c f p;exact .inl ⟨⟨h1 _ c f p,zJ _⟩,O,Q⟩
section
variable{X:Cx}{c:Expr}
def zks(K:W.Frag)(g:TE):TI:=fun σ H R=>g σ H fun x b=>∃a,x=.ref a/\(((∃f,SqL K b a f)/\R (Itl K a) b)\/((∃f,SqT K b a f)/\R (Itt K a) b))
theorem Y7{l:Expr}{C:TE}(D:PE X l C):PI X c l (zks X.K C):=by
 intro w s σ H R I h;refine thn (D w s σ H _ I h) fun v s1 ⟨x,A,f,G,E⟩=>?_
 obtain⟨a,e,q⟩:=E;subst e;cases G;have B:∀b∈[s1.heap.objs.size],_:=fun b hb=>by
  have e:b=s1.heap.objs.size:=by simpa using hb
  subst e;exact f.fpOk (zJ _) (f.hok.fresh (zJ _))
 rcases q with ⟨⟨M,hq⟩,q⟩ | ⟨⟨M,hq⟩,q⟩
 ·obtain⟨g,J,p,hz⟩:=f.list hq
  refine wpAny_pyIter_list p.isList ⟨s1.heap.objs.size,[s1.heap.objs.size],_,_,A,rfl,f.kept (t':=s1.toks) fun b o e=>z7 _ e,Xy a _,⟨_,zW _ rfl,rfl,rfl⟩,?_,q⟩
  exact B
 ·obtain⟨g,J,p,hz⟩:=f.tuple hq
  refine wpAny_pyIter_tuple (show s1.heap.IsTuple a g.toArray from p) ⟨s1.heap.objs.size,[s1.heap.objs.size],_,_,A,rfl,f.kept (t':=s1.toks) fun b o e=>z7 _ e,Q4 a _,⟨_,zW _ rfl,rfl,rfl⟩,?_,q⟩
  exact B
end
open Sem (wp)
theorem VB:typeLookup (.type "list") "keys" = pure none:=by rw[typeLookup_type,builtinLookup_eq_fast];kernel_rfl
theorem VC:typeLookup (.type "list") "__getattr__" = pure none:=by rw[typeLookup_type,builtinLookup_eq_fast];kernel_rfl
theorem Qa:isSubtype (.type "AttributeError") (.type "AttributeError")=pure true:=by rw[isSubtype_type];kernel_rfl
section
variable{c:Program}{w:World}{A:Around}{E:Value->Shared->Prop}{s:Shared}
theorem Y5{α:Type}{M:Model}{o:Value}{g f:Str}{Q:α->Shared->Prop}(C:A.handled=none)(D:f.length<=sizeLine)
  (hq:∀l G e,(∀b p,s.heap.get? b=some p->l.get? b=some p)->(∃B,l.get? e=some B/\B.cls=.type "AttributeError")->E (.ref e) { s with heap:=l,toks:=G }) :
  wpAny M A (raiseAttrError o g f:Sem α) Q E s:=by
 unfold raiseAttrError newExc newTuple;refine zg (wpAny_mkStr (zg (zg (xc (zg (m:=firstArgMember _ _) (wQ (a:=Value.none) (by simp only[firstArgMember];rfl) (xc ?_)))))) D)
 refine zg (wpAny_mkText (zg (show wpAny _ _ (noteAttr _ _ _) _ _ _ from ?_)))
 unfold noteAttr;dsimp only;unfold lacksNameAndObj;refine zg (zg (Za (T:= "AttributeError") ⟨_,zW _ rfl,rfl⟩ Qa ?_))
 refine zg (wpAny_load (zW _ rfl) ?_)
 refine zw ?_
 refine zg (vv (zg (Zt (T:= "AttributeError") ⟨_,zW _ rfl,rfl⟩ ?_)))
 refine wpAny_layMembers (zW _ rfl) rfl ?_
 unfold raiseNew;refine zg (wpAny_handled ?_);rw[C];refine zg (zw (Zs ?_))
 refine hq _ _ _ (fun b p e=>?_) ⟨_,vY _ (zW _ rfl) (zaP (JT rfl _)),zaH _ _⟩
 rw[yI _ _ (xK (xj (zH e) (by simp)))]
 exact z7 _ (z7 _ e)
end
section
variable{c:Program}{w:World}{A:Around}{E:Value->Shared->Prop}{h:Heap}{g:Array GenState}{d:Drawn}{t:Nat}{os:OsState}{a:Addr}{n:Nat}{f:Array Value}
theorem QN{D:Tok}{Q:Fin->Shared->Prop}(B:A.handled=none)(hx:h.get? a=some { cls:=.type "list",data:=.seq f n })
  (hq:∀l C e,(∀b p,h.get? b=some p->l.get? b=some p)->(∃s,l.get? e=some s/\s.cls=.type "AttributeError")->E (.ref e) ⟨l,g,d,C,os⟩) :
  wpAny (model c w) A (Builtin.«object.__getattribute__» ⟨[.ref a,.str "keys" D],[]⟩) Q E ⟨h,g,d,t,os⟩:=by
 have H:(⟨h,g,d,t,os⟩:Shared).TypeIs (.ref a) "list" :=⟨_,hx,rfl⟩;have G:=VB;repeat(any_goals (first| assumption | wp_step))
 refine Y5 B ?_ hq
 rw[sizeLine_eq];decide +kernel
theorem Jl{D:Tok}{R:Result->Shared->Prop}(B:A.handled=none)(hx:h.get? a=some { cls:=.type "list",data:=.seq f n })
  (hq:∀l C e,(∀b p,h.get? b=some p->l.get? b=some p)->(∃s,l.get? e=some s/\s.cls=.type "AttributeError")->R (.error (.ref e)) ⟨l,g,d,C,os⟩) :
  codeAny (model c w) A (.call (.builtin "list.__getattribute__") ⟨[.ref a,.str "keys" D],[]⟩) R ⟨h,g,d,t,os⟩:=
 codeAny_call_builtin Wl.plain F.entry_list_ga (Wl.check _ _ _ _ _ _ _ _ (show(⟨h,g,d,t,os⟩:Shared).TypeIs (.ref a) "list" from ⟨_,hx,rfl⟩) (F.args_list_getattribute_2 _ _) (QN B hx hq))
theorem VE{G:Tok}{Q:Value->Shared->Prop}(D:A.handled=none)(hx:h.get? a=some { cls:=.type "list",data:=.seq f n })
  (hq:∀l B e,(∀b p,h.get? b=some p->l.get? b=some p)->(∃s,l.get? e=some s/\s.cls=.type "AttributeError")->E (.ref e) ⟨l,g,d,B,os⟩):wpAny (model c w) A (getAttrBy (.ref a) (.str "keys" G) false) Q E ⟨h,g,d,t,os⟩:=by
 have J:(⟨h,g,d,t,os⟩:Shared).TypeIs (.ref a) "list" :=⟨_,hx,rfl⟩;have H:=Wl.lookup;have I:=Wl.bind (.ref a);repeat(any_goals (first| assumption | wp_step))
 refine Jl D hx fun l B e k ⟨s,C,hc⟩=>?_
 dsimp only;unfold getattributeRaised;refine zg (Za (T:= "AttributeError") ⟨_,C,hc⟩ Qa ?_)
 rw[zv rfl];unfold hookBehind;refine zg ?_
 rw[zu (by decide)]
 refine wQ VC ?_
 unfold hookOrError attributeErrorLeaves;dsimp only;rw[zv (show(!false)=true from rfl)]
 first
  | exact Zs (hq l B e k ⟨s,C,hc⟩)
  | exact zg (Zs (hq l B e k ⟨s,C,hc⟩))
theorem Jm{Q:Option Value->Shared->Prop}(B:A.handled=none)(hx:h.get? a=some { cls:=.type "list",data:=.seq f n })
  (hq:∀l s,(∀b p,h.get? b=some p->l.get? b=some p)->Q none ⟨l,g,d,s,os⟩):wpAny (model c w) A (getAttr? (.ref a) "keys") Q E ⟨h,g,d,t,os⟩:=by
 unfold getAttr? getAttrBy?;refine zg (wpAny_mkText (zg (wR (VE B hx fun l s e k ⟨D,C,hc⟩=>?_))))
 dsimp only;refine zg (Za (T:= "AttributeError") ⟨_,C,hc⟩ Qa ?_)
 rw[zv rfl];exact zw (hq l s k)
end
end L2
namespace L2
open PySem PySem.Spec PyProof.Rows
theorem y9:entryFor table "dict.update.loop" = some Builtin.«dict.update.loop»:=entryFor_of_tree (by kernel_rfl)
theorem x8:plainId "dict.update.loop" = true:=by decide +kernel
theorem Ye{K:Type}[DecidableEq K](c b:List (K×Value))(i:Nat)(f:K×Value)(h:b[i]? =some f):merged (stored c f.1 f.2) (b.drop (i+1))=merged c (b.drop i):=by
 obtain⟨h1,h2⟩:=zC.mp h;rw[zfu h1,h2];rfl
section
variable{c:Program}{w:World}{K:Type}[DecidableEq K]{knd:KeyKind c w K}{A:Around}{R:Result->Shared->Prop}{it l D:Addr}{items:Array Value}{pairs:List (K×Value)}{res:Value}
theorem zgF(hh:A.handled=none)(N:l≠it)(O:l≠D)(E:it≠D)(a0:pairs.length=items.size) :
  ∀(m:Nat) (s:Shared) (i:Nat) (f:List (K×Value)),items.size-i=m->i<=items.size->s.heap.IsListIter it l i->s.heap.IsList l items->s.heap.DictOf knd D f->f.length+m<=sizeLine ->
   (∀(j:Nat) (u:Value),items[j]? =some u->∃(T:Addr) (k:K) (g v:Value),u=.ref T/\T≠it/\T≠D/\IsTup s.heap T #[g,v]/\knd.is k g=true/\pairs[j]? =some (k,v)) ->
   (∀C tk,C.DictOf knd D (merged f (pairs.drop i))->(∀b o,b≠it->b≠D->s.heap.get? b=some o->C.get? b=some o)->R (.ok (.ret res)) { s with heap:=C,toks:=tk }) ->
   codeAny (model c w) A (.builtin "dict.update.loop" ⟨[.ref D,.ref it,.int i 0,res],[]⟩) R s:=by
 intro m;induction m with
 | zero=>
  intro s i f hm hi U J L hz Q q;have G:items[i]? =none:=by simp;omega
  refine codeAny_builtin y9 ?_
  rw[Z4 x8 _];show wpAny _ A.in1 (pyNext (.ref it) >>= _) _ _ s;refine zg (wpAny_pyNext_list_end hh U J G fun C hx=>?_)
  show wpAny _ _ (Builtin.Dict.addKeywords D [] >>= _) _ _ _;refine zg (zw (zw ?_))
  have e0:merged f (pairs.drop i)=f:=by rw[List.drop_eq_nil_of_le (by omega)];rfl
  have:=q C s.toks (by rw[e0];exact L.extBut hx (z9 E)) (fun b o hb _ e=>?_)
  ·exact this
  ·exact hx b o hb e
 | succ m ih=>
  intro s i f hm hi U J L hz Q q;have H:i<items.size:=by omega
  obtain⟨u,hu⟩:∃u,items[i]? =some u:=⟨_,vz H⟩;obtain⟨T,k,g,v,rfl,nT,nD,tT,kk,ep⟩:=Q i u hu;refine codeAny_builtin y9 ?_
  rw[Z4 x8 _];show wpAny _ A.in1 (pyNext (.ref it) >>= _) _ _ s;refine zg (wpAny_pyNext_list_item U J hu fun h1 i1 s1=>?_)
  dsimp only;refine zg (xN (zg ?_))
  obtain⟨oT,eT,cT,nn,dT⟩:=tT;have Y:∀b o,b≠it->s.heap.get? b=some o->h1.get? b=some o:=fun b o hb e=>(s1.2 b hb).trans e
  have M:({ s with heap:=h1 }:Shared).TypeIs (.ref T) "tuple" :=⟨_,Y _ _ nT eT,cT⟩;show wpAny _ _ (tryCatch (Builtin.Dict.pairItems (.ref T)) _) _ _ _;refine Qm ?_
  unfold Builtin.Dict.pairItems;refine zg (Zt M ?_)
  rw[zv (show(Value.type "tuple" == Value.type "list" || Value.type "tuple" == Value.type "tuple")=true by decide)]
  refine zg (vW (Y _ _ nT eT) dT (zw ?_))
  show wpAny _ _ (holding [g,v] (dictSet D g v)) _ _ _;refine xN (wpAny_dictSet_pairs kk (L.sameBut s1 (z9 E)) (hsz:=by omega) fun h2 d2 s2=>?_)
  refine zw ⟨plainId_quiet x8 _,?_⟩
  have k2:∀b o,b≠it->b≠D->s.heap.get? b=some o->h2.get? b=some o:=fun b o hb B e=>(s2.2 b B).trans (Y b o hb e)
  have lst:(stored f k v).length<=f.length+1:=stored_length_le f k v;have:=ih { s with heap:=h2,toks:=s.toks+1 } (i+1) (stored f k v) (by omega) H (i1.at fun o e=>(s2.2 it E).trans e) (J.at fun o e=>k2 l o N O e) d2 (by omega)
   (fun j u hj=>by
    obtain⟨T',k',I,v',z1,z2,z3,z4,z5,z6⟩:=Q j u hj;obtain⟨o',e',r'⟩:=z4;exact⟨T',k',I,v',z1,z2,z3,⟨o',k2 _ _ z2 z3 e',r'⟩,z5,z6⟩)
   (fun C tk d' kp=>q C tk (by rw[<- Ye f pairs i (k,v) ep];exact d') fun b o hb B e=>kp b o hb B (k2 b o hb B e))
  exact this
end
def ziL:Obj:={ cls:=.type "dict",data:=.dict #[] }
theorem Xf:(Value.type "list" != Value.type "dict")=true:=by decide
section
variable{c:Program}{w:World}{K:Type}[DecidableEq K]{knd:KeyKind c w K}{A:Around}{E:Value->Shared->Prop}{s:Shared}
theorem QP{l:Addr}{items:Array Value}{n:Nat}{pairs:List (K×Value)}{Q:Value->Shared->Prop}(hh:A.handled=none)(H:s.heap.get? l=some { cls:=.type "list",data:=.seq items n })(G:pairs.length=items.size)(L:items.size<=sizeLine)
  (ht:∀(j:Nat) (u:Value),items[j]? =some u->∃(T:Addr) (k:K) (f v:Value),u=.ref T/\IsTup s.heap T #[f,v]/\knd.is k f=true/\pairs[j]? =some (k,v))
  (h:∀C U,C.DictOf knd s.heap.objs.size (merged [] pairs)->(∀b o,s.heap.get? b=some o->C.get? b=some o)->Q (.ref s.heap.objs.size) { s with heap:=C,toks:=U }) :
  wpAny (model c w) A (call (.type "dict") [.ref l]) Q E s:=by
 have J:(s.heap.push ziL).DictOf knd s.heap.objs.size []:=.new s.heap;have g:=z7 ziL H;refine callType_codes (Q₁:=fun u s1=>u=.ref s.heap.objs.size/\s1={ s with heap:=s.heap.push ziL }) F.kt_called_dict (F.kt_typeCall_dict_1 _) F.entry_dict_init (kt_code_dict_new _ ⟨rfl,rfl⟩) fun u s1 e=>?_
 obtain⟨eu,es⟩:=e;subst eu es;refine⟨J.typeIs,F.args_dict_init_2 _ _,?_⟩
 show wpAny _ _ (Builtin.Dict.selfAndRest _ _ >>= fun x=>Builtin.Dict.updateCommon _ _ x.1 x.2 _) _ _ _
 refine zg (zg (wpAny_notOrdered_dict J.typeIs ?_))
 refine zw (show wpAny _ _ (Builtin.Dict.updateFrom "dict.__init__" s.heap.objs.size (.ref l) [] .none) _ _ _ from ?_)
 refine zg (Zt (T:= "list") ⟨_,g,rfl⟩ ?_)
 rw[zv Xf];refine zg (Jm hh g fun h1 t1 I=>?_)
 rw[zv (show(none:Option Value).isNone=true from rfl)]
 refine zg (vv (zg (wpAny_pyIter_list ⟨_,I _ _ g,rfl,n,rfl⟩ ?_)))
 have Y:=J.keep I;have O:=zH H;obtain⟨oD,_,_,eD,_⟩:=id Y;have N:=zH eD;have M:∀b o,s.heap.get? b=some o->(h1.push { cls:=.type "list_iterator",data:=.fields #[.ref l,.int 0 0] }).get? b=some o:=fun b o e=>z7 _ (I _ _ (z7 _ e))
 have B:∀b o,s.heap.get? b=some o->b<h1.objs.size:=fun b o e=>zH (I _ _ (z7 _ e))
 refine zw ⟨plainId_quiet x8 _,?_⟩
 refine zgF (knd:=knd) (s:=⟨h1.push { cls:=.type "list_iterator",data:=.fields #[.ref l,.int 0 0] },s.gens,s.drawn,t1,s.os⟩) (l:=l) (it:=h1.objs.size) (D:=s.heap.objs.size) (items:=items) (pairs:=pairs) (A:=A.in1) (res:=.none) hh (qh (B _ _ H)) (qh O) (xK N) G items.size 0 [] rfl (ji _) ⟨_,zW _ rfl,rfl,rfl⟩ ⟨_,M _ _ H,rfl,n,rfl⟩ (Y.push _) (by simpa using L) (fun j u hj=>?_) (fun C U d' kp=>?_)
 ·obtain⟨T,k,f,v,rfl,⟨o,e,r⟩,z,y⟩:=ht j u hj
  exact⟨T,k,f,v,rfl,qh (B _ _ e),qh (zH e),⟨o,M _ _ e,r⟩,z,y⟩
 ·exact⟨rfl,h C U (by simpa using d') fun b o e=>kp b o (qh (B _ _ e)) (qh (zH e)) (M _ _ e)⟩
end
def PrsL(H:Hp)(c:List V)(b:List (Key×V)):Prop:=c.length=b.length/\∀(j:Nat) (x:V),c[j]? =some x->∃(T:Addr) (k:Key) (v:V),x=.ref T/\H T=some (.tup [kV k,v])/\b[j]? =some (k,v)
theorem PrsL.nil{H:Hp}:PrsL H [] []:=⟨rfl,fun j x e=>by simp at e⟩
theorem PrsL.same{H g:Hp}{l:List V}{f:List (Key×V)}(h:PrsL H l f)(s:Same H g):PrsL g l f:=⟨h.1,fun j x e=>let ⟨T,k,v,a,b,c⟩:=h.2 j x e;⟨T,k,v,a,s _ _ b,c⟩⟩
theorem PrsL.snoc{H:Hp}{s:List V}{g:List (Key×V)}{T:Addr}{k:Key}{v:V}(h:PrsL H s g)(e:H T=some (.tup [kV k,v])):PrsL H (s++[.ref T]) (g++[(k,v)]):=by
 refine⟨by rw[qo,qo,h.1];rfl,fun j x f=>?_⟩
 have l:=h.1;by_cases A:j<s.length
 ·rw[yc A] at f
  obtain⟨w,B,C,a,b,c⟩:=h.2 j x f;exact⟨w,B,C,a,b,by rw[yc (by omega)];exact c⟩
 ·rw[wC (by omega)] at f
  have:j=s.length:=by
   have:=(zC.mp f).1;simp at this;omega
  subst this;simp at f;subst f;exact⟨T,k,v,rfl,e,by rw[l,wC (zJ _)];simp⟩
theorem zhq:∀{b:List (Key×V)} {c:List (Key×Value)},b.length=c.length->(∀(j:Nat) p,c[j]? =some p->∃q,b[j]? =some q/\q.1=p.1/\RelV q.2 p.2)->KV b c
 | [],[],_,_=>.nil
 | [],_::_,h,_=>by simp at h
 | _::_,[],h,_=>by simp at h
 | x::l,u::g,h,f=>by
  refine .cons ?_ (zhq (by simpa using h) fun j v e=>?_)
  ·obtain⟨y,e1,r⟩:=f 0 u rfl
   cases e1;exact r
  ·obtain⟨y,e1,r⟩:=f (j+1) v (by simpa using e)
   exact⟨y,by simpa using e1,r⟩
theorem QD{α β:Type}:∀(P:Nat->α->β->Prop) (l:List α),(∀j u,l[j]? =some u->∃b,P j u b)->∃g:List β,g.length=l.length/\∀j u,l[j]? =some u->∃b,g[j]? =some b/\P j u b
 | _,[],_=>⟨[],rfl,fun j u e=>by simp at e⟩
 | P,x::l,f=>by
  obtain⟨b,hb⟩:=f 0 x rfl;obtain⟨g,h1,h2⟩:=QD (fun j=>P (j+1)) l fun j u e=>f (j+1) u (by simpa using e)
  refine⟨b::g,by simp[h1],fun j u e=>?_⟩
  cases j with
  | zero=>simp at e;subst e;exact⟨b,rfl,hb⟩
  | succ j=>
   obtain⟨c,s,w⟩:=h2 j u (by simpa using e)
   exact⟨c,by simpa using s,w⟩
theorem Vals.at:∀{b:List V} {c:List Value} {i:Nat} {u:Value},Vals b c->c[i]? =some u->∃x,b[i]? =some x/\RelV x u:=fun {b c i u} r e=>by
 have l:=Vals.length r;have h:=(zC.mp e).1;obtain⟨v,e1,f⟩:=r.get (i:=i) (x:=b[i]'(by omega)) (jh _)
 rw[e] at e1;cases e1;exact⟨_,jh _,f⟩
section
variable{X:Cx}
inductive Z9(c:List V)(H:Hp)(Q:VK):Prop
 | mk (a:Addr) (f:List V) (b:List (Key×V)) (_:c=[.ref a]) (_:H a=some (.lst f)) (_:PrsL H f b) (_:∀p,H p=none->Q (.ref p) (upd H p (.dK (jL [] b)))):Z9 c H Q
theorem JB(hh:X.A.handled=none):jY X (.type "dict") (Z9):=by
 intro L s σ H xs us Q I r h;obtain⟨a,ys,l,rfl,hx,M,q⟩:=h;obtain⟨u,rfl,ru⟩:=ua r;cases(show u=Value.ref a from ru)
 obtain⟨zz,w,n,A,hl⟩:=(show ObjOk X.prog X.w H s.heap a (.lst ys) from I.hok a _ hx)
 have ln:=A.length;have kn:=M.1;have B:∀(j:Nat) (u:Value),w[j]? =some u->∃(T:Addr) (k:Key) (g v:Value) (y:V),u=.ref T/\IsTup s.heap T #[g,v]/\(zO X.prog X.w).is k g=true/\l[j]? =some (k,y)/\RelV y v:=fun j u G=>by
  obtain⟨x,ex,rx⟩:=Vals.at A G;obtain⟨T,k,v,rfl,U,Y⟩:=M.2 j x ex;cases(show u=Value.ref T from rx)
  obtain⟨_,ts,rt,it,_⟩:=(show ObjOk X.prog X.w H s.heap T (.tup [kV k,v]) from I.hok T _ U)
  obtain⟨u1,u2,rfl,r1,E⟩:=Vals.two rt;exact⟨T,k,u1,u2,v,rfl,it,wV r1,Y,E⟩
 obtain⟨N,lp,J⟩:=QD (fun j u (p:Key×Value)=>∃(T:Addr) (g:Value) (y:V),u=.ref T/\IsTup s.heap T #[g,p.2]/\(zO X.prog X.w).is p.1 g=true/\l[j]? =some (p.1,y)/\RelV y p.2) w fun j u e=>by
  obtain⟨T,k,g,v,y,a,b,c,d,f⟩:=B j u e;exact⟨(k,v),T,g,y,a,b,c,d,f⟩
 have kv:KV l N:=zhq (by omega) fun j p e=>by
  have G:=(zC.mp e).1;obtain⟨b,e1,T,g,y,_,_,_,e2,E⟩:=J j _ (jh (by omega))
  rw[e] at e1;cases e1;exact⟨_,e2,rfl,E⟩
 have mg:(jL [] l).length<=sizeLine:=by
  have:=x9 l [];rw[Zv] at this;omega
 have hn:H s.heap.objs.size=none:=I.hok.fresh (zJ _);refine QP (knd:=zO X.prog X.w) (pairs:=N) (items:=w.toArray) hh hl (by simp[lp]) (by simp;omega) (fun j u e=>?_) fun h' tk O kp=>?_
 ·rw[List.getElem?_toArray] at e
  obtain⟨p,e1,T,g,y,a,b,c,d,f⟩:=J j u e;exact⟨T,p.1,g,p.2,a,b,c,e1⟩
 ·have ns:(s.heap.objs.size==sysModules)=false:=beq_eq_false_iff_ne.mpr (xK I.big)
  exact⟨.ref s.heap.objs.size,_,I.laid (a:=s.heap.objs.size) (o:=.dK (jL [] l)) (t':=tk) kp (zJ _) (Jw mg ns (KV.merge kv .nil) O),rfl,q _ hn⟩
theorem zf6{K:W.Frag}(h:X.K=K){f l:Expr}{b:TE}(c:PE X l b):PI X f l (zks K b):=by rw[<- h];exact Y7 c
end
section
variable{X:Cx}{w U f:Expr}{A:List Expr}{scope:Scope}{E:Pos}{Y:TI}{g:TG}{O:TT}{L:TE}{x:Str}
theorem zh1{yt:Str}{G am:Pos}{g2:TG}(fr:List Str)(js:List Nat)(hc:X.calm=true)(hk:scope.kind=.function)(hb:VS scope.names X.env.scope.names X.N x fr js=true)(hi:PI X U f Y)
  (hg:∀C s H ex,PG (xi X ([x]++fr) scope x C s H ex) U g) (hf:∀C s H ex,PF (xi X ([x]++fr) scope x C s H ex) A O) (he:∀C s H ex,PE (xi X ([x]++fr) scope x C s H ex) w L)
  (bt:PG X (.Name yt G) g2) (bw:swapsWith (.ListComp w [⟨U,f,A,0⟩] scope E) (some (.Name yt G)) am.line X.env=pure true:=by rfl)
  (hs:∀x,foldedSetIterable f X.env x=pure x:=by intro _;rfl):PS X (.Assign [.Name yt G] (.ListComp w [⟨U,f,A,0⟩] scope E) am) (WB (tLC Y 1 js g O L) g2):=by
 intro aa s σ H Dn I h;have B:=X8 hb;have ai:∀y∈scope.names,y.2=NameKind.free->∃c,X.env.cells.lookup y.1=some c:=fun y hy e=>I.ok.has y.1 (B.free y hy e)
 rw[exec_Assign_Name_used _ _ _ _ bw];refine zg (vV (zg ?_))
 show wpAny _ X.A (do let _<-comprehension (.ListComp w [⟨U,f,A,0⟩] scope E) scope X.env _ (newList []) false (eval f X.env) (some (assign (.Name yt G) X.env))) _ _ s
 refine zg (qN (wpAny_comprehension_free (use:=some (assign (.Name yt G) X.env)) (Q:=fun _ s'=>∃σ' H',Inv X aa σ' H' s'/\Dn.nx σ' H') rfl hs (VQ ai) hk (fun y hy e=>B.loc y hy e) (thn (hi aa s σ H _ I h) fun v s1 h1=>thn h1 fun c9 s2 h2=>?_)) (fun _ s' hq=>zw (zw hq)) fun _ _ e=>e)
 obtain⟨it,fp,tn,J,H2,e,I2,T,ar,f2,W,⟨m0,w0⟩,bh⟩:=h2;subst e;have fl:∀b∈fp,b<s2.heap.objs.size:=fun b hb=>let ⟨o,e,_⟩:=T.obj _ _ ar b hb;zH e
 refine xc (zac B.one ?_)
 dsimp only;generalize e3:s2.heap.push { cls:=.type "list",dict:=none,data:=.seq ([]:List Value).toArray }=h3;have ba:((h3.push { cls:=.type "dict",data:=.dict #[] }).push { cls:=.type "cell",data:=.cell none }).Ns h3.objs.size (fun _=>none):=(Heap.Ns.new h3 (.type "dict")).keeps fun b o e=>z7 _ e
 have ac:((h3.push { cls:=.type "dict",data:=.dict #[] }).push { cls:=.type "cell",data:=.cell none }).IsCell (h3.objs.size+1) none:=⟨_,by have:=zW (h3.push { cls:=.type "dict",data:=.dict #[] }) (o:={ cls:=.type "cell",data:=.cell none }) rfl;rwa[jV] at this,rfl⟩
 have k4:∀b o,h3.get? b=some o->((h3.push { cls:=.type "dict",data:=.dict #[] }).push { cls:=.type "cell",data:=.cell none }).get? b=some o:=fun b o e=>z7 _ (z7 _ e)
 generalize (h3.push { cls:=.type "dict",data:=.dict #[] }).push { cls:=.type "cell",data:=.cell none }=h1 at ba ac k4;have k3:∀b o,s2.heap.get? b=some o->h3.get? b=some o:=fun b o e=>by rw[<- e3];exact z7 _ e
 have I4:Inv (xi X ([x]++fr) scope x h3.objs.size { s2 with heap:=h3 } H2 (s2.heap.objs.size::fp)) [] (upS 1 js σ) H2 { s2 with heap:=h1 }:=
  zap fr js I2 B hk f2 fl rfl e3.symm rfl ba ac k4
 have I3:Inv X aa σ H2 { s2 with heap:=h3 }:=I2.kept (t':=s2.toks) k3;have hz:h3.objs.size=s2.heap.objs.size+1:=by rw[<- e3,jV]
 have af:s2.heap.objs.size≠h3.objs.size:=by rw[hz];exact qh (yE _)
 have ax:h1.get? s2.heap.objs.size=some { cls:=.type "list",data:=.seq ([]:List Value).toArray }:=k4 _ _ (by rw[<- e3];exact zW _ rfl)
 have au:=(I3.fpOk (b:=h3.objs.size) (zJ _) (I3.hok.fresh (zJ _))).2;generalize eD:s2.heap.objs.size=D at *
 generalize eC:h3.objs.size=C at *
 have fD:∀b∈fp,D≠b:=fun b hb=>xK (fl b hb)
 have look:∀y c,((x,C+1)::jg X.env.cells scope.names []).lookup y=some c->c=C+1\/X.env.cells.lookup y=some c:=fun y c e=>by
  rw[jX] at e;by_cases q:(y==x)=true
  ·rw[q] at e
   exact .inl (jq e).symm
  ·rw[(Bool.not_eq_true _).mp q] at e
   exact .inr (qw e ai)
 have hx:∀y c,((x,C+1)::jg X.env.cells scope.names []).lookup y=some c->c≠D:=fun y c e=>by
  rcases look y c e with z | z
  ·rw[z,hz];exact xK (wB (yE _))
  ·obtain⟨v,q⟩:=I2.cell y c z
   rw[<- eD];exact qh q.lt
 have bx:∀b∈fp,∀y c,((x,C+1)::jg X.env.cells scope.names []).lookup y=some c->c≠b:=fun b hb y c e=>by
  rcases look y c e with z | z
  ·rw[z,hz];exact xK (wB (wB (fl b hb)))
  ·exact(f2 b hb).2.2.2.2.1 y c z
 have bf:∀b∈D::fp,b∉frs X.stack:=I4.ok.exfs;have bn:∀{a0:List (Addr×Obj)} {H':Hp} {b:Addr},b∈fp->H' b=none->(∀p∈a0,p.1≠b)->xo (xi X ([x]++fr) scope x C { s2 with heap:=h3 } H2 (D::fp)) a0 H' b:=fun {a0 H' b} hb hn hp=>
  ⟨hn,(I4.ok.exf b (jS _ hb)).1,bf b (jS _ hb),.inl (jS _ hb),fun x c e=>bx b hb x c e,fun p h=>hp p (by simpa using h)⟩
 have bo:∀{a0:List (Addr×Obj)} {H':Hp},H' D=none->(∀p∈a0,p.1≠D)->xo (xi X ([x]++fr) scope x C { s2 with heap:=h3 } H2 (D::fp)) a0 H' D:=fun {a0 H'} hn hp=>
  ⟨hn,af,bf D jm,.inl jm,fun x c e=>hx x c e,fun p h=>hp p (by simpa using h)⟩
 have ak:∀s4:Shared,s4={ s2 with heap:=h1 } ->
   codeAny (model X.prog X.w) X.A (.compLoop (.ListComp w [⟨U,f,A,0⟩] scope E) 0 (.ref it) (.ref D) (compEnvC scope ((x,C+1)::jg X.env.cells scope.names []) C X.env))
    (compPost (model X.prog X.w) X.A X.xe (some (assign (.Name yt G) X.env)) (fun _ s'=>∃σ' H',Inv X aa σ' H' s'/\Dn.nx σ' H') (.ref D) C) s4:=by
  intro s4 e4;refine YH (fun n s'=>∃i ys ab H',∃z:Nat,Inv (xi X ([x]++fr) scope x C { s2 with heap:=h3 } H2 (D::fp)) [] (upS 1 js σ) H' s'/\tn i s'.heap/\(∀b∈fp,H' b=none)/\H' D=none /\
   s'.heap.get? D=some { cls:=.type "list",data:=.seq (ab:List Value).toArray z }/\Vals ys ab/\W i n ys H') ?_ m0 ?_
  ·rintro n s5 ⟨i,ys,ab,H5,z5,I5,bg,av,br,bc,ag,w5⟩
   have as:=I5.pinned (fp:=[D]) (fun b hb=>by rw[qD.mp hb];exact bo br (fun p hp=>absurd hp (by simp))) (fun b hb=>by
    rw[qD.mp hb];exact⟨_,bc,fun v q=>nomatch q⟩)
   have pD:∀p∈[]++qB [D] s5.heap,p.1=D:=fun p hp=>by
    rw[yL] at hp;exact qD.mp (vD hp).1
   have mD:(D,({ cls:=.type "list",data:=.seq ab.toArray z5 }:Obj))∈[]++qB [D] s5.heap:=by
    rw[yL];exact jb (qD.mpr rfl) bc
   have ap:∀{H':Hp},(∀b∈fp,H' b=none)->∀b∈fp,xo (xi X ([x]++fr) scope x C { s2 with heap:=h3 } H2 (D::fp)) ([]++qB [D] s5.heap) H' b:=fun hn b hb=>bn hb (hn b hb) fun p hp=>by
    rw[pD p hp];exact fD b hb
   rcases bh i n ys H5 w5 with ⟨stop,az,q⟩ | ⟨go,N,hN,step⟩
   ·refine thn (T.done (xi X ([x]++fr) scope x C { s2 with heap:=h3 } H2 (D::fp)) rfl rfl rfl hc i _ s5 _ H5 _ as (ap av) bg stop) fun r s6 ⟨hr,I6⟩=>?_
    subst hr;obtain⟨m6,b0,_⟩:=I6.loc;obtain⟨o6,be,_⟩:=I6.pin (D,_) (qI _ mD);have k7:∀b o,b≠C->s6.heap.get? b=some o->s6.heap.get? b=some o:=fun b o _ e=>e
    have J0:Inv X aa σ (upd H5 D (.lst ys)) s6:=by
     refine I3.call' (s':=s6) (ch:=D::fp) I6.os (Q3 (YW I6.base (wf eC) k7) jm (I2.hok.fresh ?_)) (Qg (VI I6.hok I6.free k7) be ⟨az,ab,z5,ag,k7 D _ af o6⟩) I6.bare fun b hb=>?_
     ·rw[<- eD];exact zJ _
     ·rcases qe.mp hb with y | hb
      ·subst y
       refine⟨.inr (by rw[<- eD];exact I2.sz),by rw[<- eD];exact xK I2.lt,fun x c e=>?_,fun p hp=>?_⟩
       ·obtain⟨v,q⟩:=I2.cell x c e
        rw[<- eD];exact qh q.lt
       ·rw[<- eD];exact qh (zH (I2.pin p hp).1)
      ·obtain⟨_,g1,_,g3,g4,g5⟩:=f2 b hb
       exact⟨g3,g1,g4,g5⟩
    obtain⟨oC,ao,dC⟩:∃o,s6.heap.get? C=some o/\∀v,o.data≠.cell v:=by
     obtain⟨o,es,ep,ho,hd,_⟩:=b0;exact⟨o,ho,fun v z=>by rw[hd] at z;cases z⟩
    have bq:(upd H5 D (.lst ys)) C=none:=by
     rw[zp (z9 af)];exact I6.free
    have J1:=J0.pinned (fp:=[C]) (fun b hb=>by rw[qD.mp hb];exact⟨bq,au⟩) (fun b hb=>by rw[qD.mp hb];exact⟨oC,ao,dC⟩)
    have mC:(C,oC)∈aa++qB [C] s6.heap:=qI _ (jb (qD.mpr rfl) ao);refine thn (bt _ s6 σ _ (.ref D) (.ref D) _ J1 rfl (q D be)) fun _ s8 ⟨σ8,H8,I8,q8⟩=>?_
    obtain⟨e8,n8,_⟩:=I8.pin (C,oC) (qI _ mC);refine⟨m6,?_,fun h9 bv=>⟨σ8,H8,?_,q8⟩⟩
    ·obtain⟨o,es,ep,ho,r⟩:=b0
     have bb:s6.heap.get? C=some o:=ho;rw[ao] at bb;cases bb
     exact⟨oC,es,ep,e8,r⟩
    ·obtain⟨g1,_,g3,g4,g5⟩:=au
     exact(I8.unpinned).turned (t':=s8.toks) (it:=C) (fun b o hb e=>bv.extBut b o hb e) n8 g1 g3 g4 g5
   ·refine thn (T.item (xi X ([x]++fr) scope x C { s2 with heap:=h3 } H2 (D::fp)) rfl rfl rfl hc i _ s5 _ H5 _ as (ap av) bg go) fun r s6 ⟨u,hr,h6⟩=>?_
    subst hr;refine thn h6 fun _ s7 ⟨x7,H7,I7,r7,y7,ah,bp⟩=>?_
    have bj:=I7.pinned (ap bp) (T.obj _ _ ah);refine thn (hg _ _ _ _ _ s7 _ H7 x7 u _ bj r7 (step x7 H7 y7)) fun _ s8 ⟨σ8,H8,I8,bs,q8⟩=>?_
    refine thn (hf _ _ _ _ _ s8 σ8 H8 _ I8 q8) fun ok s9 ⟨H9,I9,q9⟩=>?_
    have an:∀{H':Hp} {s':Shared},Inv (xi X ([x]++fr) scope x C { s2 with heap:=h3 } H2 (D::fp)) (([]++qB [D] s5.heap)++qB fp s7.heap) σ8 H' s' ->
      Inv (xi X ([x]++fr) scope x C { s2 with heap:=h3 } H2 (D::fp)) [] (upS 1 js σ) H' s':=fun {H' s'} J=>by
     refine(J.unpinned).unpinned.weak (I5.len.trans J.len.symm) fun k v e=>?_
     obtain⟨hn,e1,_⟩:=wn e;rw[<- bs,V8] at e1;rw[<- e1];congr 1
     omega
    have mF:∀b∈fp,∀o,s7.heap.get? b=some o->(b,o)∈([]++qB [D] s5.heap)++qB fp s7.heap:=fun b hb o e=>qI _ (jb hb e)
    have bd:=jN (qB fp s7.heap) mD;have aw:∀{H':Hp} {s':Shared},Inv (xi X ([x]++fr) scope x C { s2 with heap:=h3 } H2 (D::fp)) (([]++qB [D] s5.heap)++qB fp s7.heap) σ8 H' s'->∀b∈fp,H' b=none:=fun {H' s'} J b hb=>by
     obtain⟨o,e,_⟩:=T.obj _ _ ah b hb;exact(J.pin (b,o) (qI _ (mF b hb o e))).2.1
    cases ok with
    | false=>
     have aq:N ys H9:=by simpa using q9
     obtain⟨m',hm,w'⟩:=hN _ _ aq;obtain⟨o9,c0,_⟩:=I9.pin (D,_) (qI _ bd);exact⟨m',hm,i+1,ys,ab,H9,z5,an I9,T.keep _ _ _ ah fun b hb o e=>(I9.pin (b,o) (qI _ (mF b hb o e))).1,aw I9,c0,o9,ag,w'⟩
    | true=>
     have aq:L σ8 H9 fun y H6=>ys.length<sizeLine/\N (ys++[y]) H6:=by simpa using q9
     refine thn (he _ _ _ _ _ s9 σ8 H9 _ I9 aq) fun yv c4 ⟨y,bi,ae,c3,bu,c5⟩=>?_
     obtain⟨m',hm,w'⟩:=hN _ _ c5;obtain⟨c2,al,_⟩:=ae.pin (D,_) (qI _ bd);refine wpAny_list_append_plain (l:=D) (items:=ab.toArray) (hsz:=by rw[zQ,<- ag.length];exact JK bu) ⟨_,c2⟩ fun c7 ay aj=>?_
     obtain⟨c6,bm⟩:=ay;refine⟨m',hm,i+1,ys++[y],ab++[yv],bi,c6,?_,T.keep _ _ _ ah fun b hb o e=>aj.extBut b o (z9 (fD b hb)) (ae.pin (b,o) (qI _ (mF b hb o e))).1,aw ae,al,?_,ag.append (.cons c3 .nil),w'⟩
     ·exact(an ae).turned (t':=c4.toks) (it:=D) (fun b o hb e=>aj.extBut b o hb e) al af (.inl jm) (fun x c e=>hx x c e) fun p hp=>absurd (show p∈([]:List (Addr×Obj)) from hp) (by simp)
     ·rw[bm];simp
  ·subst e4
   exact⟨0,[],[],H2,0,I4,T.keep _ _ _ ar fun b hb o e=>k4 b o (k3 b o e),fun b hb=>(f2 b hb).1,I2.hok.fresh (by rw[<- eD];exact zJ _),ax,.nil,w0⟩
 exact codeAny_compStart_list (ak _ rfl) (T.self X.A 0 _ _ _ (T.keep _ _ _ ar fun b hb o e=>k4 b o (k3 b o e)) (ak _ rfl))
theorem zh0{M:Pos}{N:Str}{G b:Pos}{Q:TG}(l:List Str)(J:List Nat)(hc:X.calm=true)(hk:scope.kind=.function)(hb:VS scope.names X.env.scope.names X.N x l J=true)(hi:PI X (.Name x M) f Y)
  (hf:∀C s H c,PF (xi X ([x]++l) scope x C s H c) A O) (T:∀C s H c,PE (xi X ([x]++l) scope x C s H c) w L)
  (D:PG X (.Name N G) Q) (I:swapsWith (.ListComp w [⟨.Name x M,f,A,0⟩] scope E) (some (.Name N G)) b.line X.env=pure true:=by rfl)
  (hs:∀x,foldedSetIterable f X.env x=pure x:=by intro _;rfl):PS X (.Assign [.Name N G] (.ListComp w [⟨.Name x M,f,A,0⟩] scope E) b) (WB (tLC Y 1 J (xt 0) O L) Q):=by
 have B:=X8 hb;refine zh1 l J hc hk hb hi (fun C s H c=>?_) hf T D I hs
 have lk:(compEnvC scope ((x,C+1)::jg X.env.cells scope.names []) C X.env).scope.names.lookup x=some .cell:=Zj B.lk;exact zq (X:=xi X ([x]++l) scope x C s H c) B.nd rfl (.inr lk) (.inl (by show(x==x)=true;simp))
variable{y:Str}{M G tp:Pos}{kk:Nat}
theorem zbD{K:W.Frag}(B:X.K=K)(b:List Str)(l:List Nat)(hc:X.calm=true)(hk:scope.kind=.function)(hb:we scope.names X.env.scope.names X.N [x,y] b l=true)(J:PI X (.Tuple [.Name x M,.Name y G] kk tp) f Y)
  (I:∀C s H c,PF (zK X ([x,y]++b) scope C s H c) A O) (D:∀C s H c,PE (zK X ([x,y]++b) scope C s H c) w L)
  (hs:∀x,foldedSetIterable f X.env x=pure x:=by intro _;rfl):PE X (.ListComp w [⟨.Tuple [.Name x M,.Name y G] kk tp,f,A,0⟩] scope E) (tLC Y 2 l (VL K 2 (vk (xt 0) (vk (xt 1) Ys))) O L):=by
 subst B;exact xh b l hc hk hb J I D hs
end
def Up(b:Array Nat):Prop:=b.toList.Pairwise (·< ·)
theorem Up.lt{f:Array Nat}(h:Up f){i j:Nat}{a b:Nat}(g:f[i]? =some a)(l:f[j]? =some b)(c:i<j):a<b:=by
 have h1:=Wm.mp g;have h2:=Wm.mp l;obtain⟨s,e1⟩:=h1;obtain⟨w,e2⟩:=h2;have:=List.pairwise_iff_getElem.mp h i j (by simpa using s) (by simpa using w) c
 simpa [e1,e2] using this
theorem JG(f:Array Nat)(j:Nat):∀(fuel lo b:Nat),b-lo<=fuel->lo<=b->b<=f.size->Up f->(∀i a,i<lo->f[i]? =some a->a<j)->(∀i a,b<=i->f[i]? =some a->j<=a) ->
  SetTable.below.go f j fuel lo b<=f.size/\(∀i a,i<SetTable.below.go f j fuel lo b->f[i]? =some a->a<j)/\∀i a,SetTable.below.go f j fuel lo b<=i->f[i]? =some a->j<=a
 | 0,lo,b,h1,h2,l,u,a1,a2=>by
  have e:b=lo:=by omega
  subst e;exact⟨l,a1,a2⟩
 | fuel+1,lo,b,h1,h2,l,u,a1,a2=>by
  unfold SetTable.below.go;by_cases c:lo<b
  ·rw[zv c]
   dsimp only;have s:(lo+b)/2<f.size:=by omega
   have g:f[(lo+b)/2]? =some (f[(lo+b)/2]'s):=vz s;have A:f.getD ((lo+b)/2) j=f[(lo+b)/2]'s:=by rw[J5,g];rfl
   rw[A];by_cases d:f[(lo+b)/2]'s<j
   ·rw[zv d]
    refine JG f j fuel _ b (by omega) (by omega) l u (fun i a w e=>?_) a2
    by_cases q:i=(lo+b)/2
    ·subst q;rw[g] at e;cases e;exact d
    ·have:=u.lt e g (by omega)
     omega
   ·rw[zu d]
    refine JG f j fuel lo _ (by omega) (by omega) (by omega) u a1 fun i a w e=>?_
    by_cases q:i=(lo+b)/2
    ·subst q;rw[g] at e;cases e;omega
    ·have:=u.lt g e (by omega)
     omega
  ·rw[zu c]
   have e:b=lo:=by omega
   subst e;exact⟨l,a1,a2⟩
theorem YJ{b:Array Nat}(u:Up b)(j:Nat):SetTable.below b j<=b.size/\(∀i a,i<SetTable.below b j->b[i]? =some a->a<j)/\∀i a,SetTable.below b j<=i->b[i]? =some a->j<=a:=by
 unfold SetTable.below;exact JG b j b.size 0 b.size (by omega) (ji _) (zJ _) u (fun i a h=>absurd h (zaw _)) fun i a h e=>absurd (Wm.mp e).1 (by omega)
theorem YK{b:Array Nat}(u:Up b){i:Nat}{j:Nat}(g:i<=b.size)(h1:∀k a,k<i->b[k]? =some a->a<j)(h2:∀k a,i<=k->b[k]? =some a->j<=a):SetTable.below b j=i:=by
 obtain⟨b1,b2,b3⟩:=YJ u j;by_cases c:SetTable.below b j<i
 ·have f:SetTable.below b j<b.size:=by omega
  have e:=vz f;have:=h1 _ _ c e;have:=b3 _ _ (zJ _) e;omega
 ·by_cases d:i<SetTable.below b j
  ·have f:i<b.size:=by omega
   have e:=vz f;have:=b2 _ _ d e;have:=h2 _ _ (zJ _) e;omega
  ·omega
theorem zcA{c:Array Nat}(u:Up c){j:Nat}(E:c[SetTable.below c j]?≠some j):Up (SetTable.insertAt c (SetTable.below c j) j):=by
 obtain⟨b1,b2,b3⟩:=YJ u j;unfold Up SetTable.insertAt;generalize SetTable.below c j=p at *
 have C:((c.extract 0 p).push j++c.extract p c.size).toList=c.toList.take p++(j::c.toList.drop p):=by
  simp[Array.toList_extract,List.extract_eq_drop_take];exact JX (by simp)
 rw[C,List.pairwise_append];have B:c.toList.Pairwise (·< ·):=u
 refine⟨B.sublist (zaI _ _),V6.mpr ⟨fun a l=>?_,B.sublist (List.drop_sublist _ _)⟩,fun a l b hb=>?_⟩
 ·obtain⟨k,hk,e⟩:=zft.mp l
  have f:c[k+p]? =some a:=by rw[<- Zd,zC];exact⟨by omega,by rw[<- e];congr 1;omega⟩
  have:=b3 (k+p) a (by omega) f
  by_cases q:k=0
  ·subst q
   rw[Nat.zero_add] at f;exact Nat.lt_of_le_of_ne this fun z=>E (by rw[f,z])
  ·have w:p<c.size:=by rw[xz] at hk;omega
   have:=b3 p _ (zJ _) (vz w);have:=u.lt (vz w) f (by omega)
   omega
 ·obtain⟨k,hk,e⟩:=List.mem_take_iff_getElem.mp l
  have f:c[k]? =some a:=by rw[<- Zd,zC];exact⟨by omega,e⟩
  have s:=b2 k a (by omega) f
  rcases qe.mp hb with z | z
  ·rw[z];exact s
  ·obtain⟨A,D,e2⟩:=zft.mp z
   have g:c[A+p]? =some b:=by rw[<- Zd,zC];exact⟨by omega,by rw[<- e2];congr 1;omega⟩
   have:=b3 (A+p) b (by omega) g
   omega
structure TabOk(b:Bool)(t:SetTable):Prop where
 up:Up t.place
 no:t.dummies=#[]
 led:t.led=b
theorem Yr(j:Nat):SetTable.has #[] j=false:=by
 unfold SetTable.has;rw[show(#[]:Array Nat)[SetTable.below #[] j]? =none from Wg (by simp)]
 rfl
theorem zcL{t:SetTable}(h:t.dummies=#[])(j:Nat):(t.slot j=.empty/\t.place[SetTable.below t.place j]?≠some j)\/∃i,t.slot j=.live i:=by
 unfold SetTable.slot;rw[h,Yr];dsimp only;by_cases c:(t.place[SetTable.below t.place j]? ==some j)=true
 ·rw[zv c]
  exact .inr ⟨_,rfl⟩
 ·rw[zu c,zu qR]
  exact .inl ⟨rfl,fun z=>c (by rw[z];simp)⟩
theorem Xq(t:SetTable)(p:SetTable.Probe):(t.advance p).dummy=p.dummy:=by
 unfold SetTable.advance;split
 ·rfl
 ·rfl
theorem Qy{t:SetTable}(b:t.dummies=#[]){f:Nat->Int}{h:Int}:∀(fuel:Nat) (p:SetTable.Probe) (j:Nat) (d:Option Nat),SetTable.probe.go t f h fuel p=some (.empty j d)->t.place[SetTable.below t.place j]?≠some j/\d=p.dummy
 | 0,p,j,d,e=>by unfold SetTable.probe.go at e;cases e
 | fuel+1,p,j,d,e=>by
  unfold SetTable.probe.go at e;rcases zcL b p.j with ⟨c1,g⟩ | ⟨i,c⟩
  ·rw[c1] at e
   cases e;exact⟨g,rfl⟩
  ·rw[c] at e
   dsimp only at e;split at e
   ·cases e
   ·have:=Qy b fuel _ j d e
    rw[Xq] at this;exact this
theorem zgD{t:SetTable}(b:t.dummies=#[]){h:Int}{s:Nat}{w:Bool}(e:t.freeSlot h=some (s,w)):t.place[SetTable.below t.place s]?≠some s:=by
 unfold SetTable.freeSlot SetTable.probe at e;split at e
 ·rename_i j d q
  obtain⟨h1,h2⟩:=Qy b _ _ _ _ q;cases(show d=none from h2)
  cases e;exact h1
 ·cases e
theorem zdx(n:Nat):Up (Array.range n):=by
 unfold Up;rw[Array.toList_range];exact zaR
theorem TabOk.stand{b:Bool}{t:SetTable}(h:TabOk b t)(n:Nat):TabOk b (t.standIn n):=⟨zdx n,rfl,h.led⟩
theorem TabOk.plain{b p:Bool}{t:SetTable}(h:TabOk b t):TabOk b { t with plain:=p }:=⟨h.up,h.no,h.led⟩
theorem TabOk.or{b:Bool}{t:SetTable}(h:TabOk b t)(n:Nat):TabOk b (t.orStandIn n):=by
 unfold SetTable.orStandIn;split
 ·exact h
 ·exact h.stand n
theorem TabOk.layNew{b:Bool}{t:SetTable}(h:TabOk b t)(f:Array (Int×Value))(k:Int)(x:Value):TabOk b (layNew t f k x).2.1:=by
 unfold PySem.layNew;split
 ·rename_i c w e
  have g:TabOk b (t.put c).1:=⟨zcA h.up (zgD h.no e),by
   show(if SetTable.has t.dummies c=true then _ else t.dummies)=#[]
   rw[h.no,Yr];rfl,h.led⟩
  exact g.or _
 ·exact h.stand _
theorem zfL{α:Type}(m:Nat)(f:Nat->Option α):(((List.range m).filterMap fun j=>(f j).map (j,·)).map (·.1)).Pairwise (·< ·):=by
 have hs:∀l:List Nat,((l.filterMap fun j=>(f j).map (j,·)).map (·.1)).Sublist l:=fun l=>by
  induction l with
  | nil=>exact .slnil
  | cons x l b=>
   rw[Wa];cases f x with
   | none=>exact b.cons _
   | some y=>exact b.cons₂ _
 exact List.Pairwise.sublist (hs _) zaR
theorem TabOk.relay{b:Bool}{t:SetTable}(h:TabOk b t)(g:Array (Int×Value))(n:Nat):TabOk b (relayAll t g n).2.1:=by
 unfold relayAll;split
 ·rename_i l f e
  dsimp only;split
  ·unfold SetTable.relaid SetTable.laid at e
   obtain⟨c,_,e2⟩:=Option.bind_eq_some_iff.mp e;cases e2;refine⟨?_,rfl,h.led⟩
   exact zfL _ fun j=>c.getD j none
  ·exact h.stand _
 ·exact h.stand _
theorem TabOk.fresh(b:Bool):TabOk b (.fresh 0 0 b):=⟨List.Pairwise.nil,rfl,rfl⟩
theorem zcX{α:Type}{l:List α}{x:α}(h:l.Nodup)(hx:x∉l):(l++[x]).Nodup:=by
 rw[ZA];exact⟨h,by simp,fun a c b hb e=>hx (by rw[qD] at hb;rw[<- hb,<- e];exact c)⟩
theorem Qz{α β:Type}{R:α->β->Prop}{w f:List β}(p:f.Perm w):∀{c:List α},Paired R c w->∃b,b.Perm c/\Paired R b f:=by
 induction p with
 | nil=>intro c h;exact⟨c,.refl _,h⟩
 | cons y _ B=>
  intro c h;cases h with
  | cons r t=>
   obtain⟨b,C,A⟩:=B t;exact⟨_::b,C.cons _,.cons r A⟩
 | swap y z l=>
  intro c h;cases h with
  | cons r t=>
   cases t with
   | cons G H=>exact⟨_,.swap _ _ _,.cons G (.cons r H)⟩
 | trans _ _ g s=>
  intro c h;obtain⟨J,D,h1⟩:=s h;obtain⟨I,E,h2⟩:=g h1;exact⟨I,E.trans D,h2⟩
theorem Jf{α β:Type}{R:α->β->Prop}{x:α}{y:β}(r:R x y):∀{b:List α} {c:List β},Paired R b c->Paired R (b++[x]) (c++[y])
 | _,_,.nil=>.cons r .nil
 | _,_,.cons h t=>.cons h (Jf r t)
theorem Jd{α β:Type}{R:α->β->Prop}:∀{c:List α} {f:List β},Paired R c f->(∀x∈c,∃y∈f,R x y)/\∀y∈f,∃x∈c,R x y
 | _,_,.nil=>⟨fun x h=>(nomatch h),fun y h=>(nomatch h)⟩
 | _,_,.cons h t=>by
  obtain⟨a,b⟩:=Jd t;refine⟨fun x hx=>?_,fun y hy=>?_⟩
  ·rcases qe.mp hx with z | z
   ·rw[z];exact⟨_,jm,h⟩
   ·obtain⟨y,hy,r⟩:=a x z
    exact⟨y,jS _ hy,r⟩
  ·rcases qe.mp hy with z | z
   ·rw[z];exact⟨_,jm,h⟩
   ·obtain⟨x,hx,r⟩:=b y z
    exact⟨x,jS _ hx,r⟩
section
variable{l:Program}{w:World}{K:Type}[DecidableEq K](f:KeyKind l w K)
def ElX(c:List (Int×Value))(g:List K):Prop:=ElemsOf f c/\∃b,b.Perm g/\Paired (fun k (e:Int×Value)=>f.is k e.2=true) b c
def ObX(b:Bool)(o:Obj)(g:List K):Prop:=∃c B t,o.ExactSet/\o.data=.set c B t/\ElX f c.toList g/\g.Nodup/\c.size<scanBound/\t.fits c.size=true/\TabOk b t
def SetX(b:Bool)(h:Heap)(a:Addr)(c:List K):Prop:=∃o,h.get? a=some o/\ObX f b o c
variable{f}
theorem ElX.perm{g b:List (Int×Value)}{B:List K}(h:ElX f g B)(p:b.Perm g):ElX f b B:=by
 obtain⟨h1,C,D,H⟩:=h;obtain⟨c,G,pr2⟩:=Qz p H;exact⟨h1.perm p,c,G.trans D,pr2⟩
theorem ElX.len{b:List (Int×Value)}{c:List K}(h:ElX f b c):b.length=c.length:=by
 obtain⟨_,g,B,C⟩:=h;rw[<- B.length_eq];exact(JM C).symm
theorem ElX.mem{c:List (Int×Value)}{g:List K}(h:ElX f c g)(k:K):k∈g↔∃e∈c,f.is k e.2=true:=by
 obtain⟨_,C,D,G⟩:=h;obtain⟨a,b⟩:=Jd G;rw[<- D.mem_iff];refine⟨a k,fun ⟨e,B,r⟩=>?_⟩
 obtain⟨I,hk,H⟩:=b e B;rwa[f.inj _ _ _ r H]
theorem ElX.snoc{c:List (Int×Value)}{g:List K}(h:ElX f c g){k:K}{x:Value}(hk:f.is k x=true)(hx:x.scannable=true):ElX f (c++[(f.hash k,x)]) (g++[k]):=by
 obtain⟨h1,b,B,C⟩:=h;exact⟨h1.push hk hx,b++[k],B.append_right _,Jf (R:=fun k (e:Int×Value)=>f.is k e.2=true) hk C⟩
theorem SetX.at{b:Bool}{h c:Heap}{a:Addr}{g:List K}(x:SetX f b h a g)(k:∀o,h.get? a=some o->c.get? a=some o):SetX f b c a g:=let ⟨o,e,r⟩:=x;⟨o,k o e,r⟩
variable{A:Around}{E:Value->Shared->Prop}{s:Shared}
theorem zjO{b:Bool}{h:Heap}{a:Addr}{o:Obj}{L:Array (Int×Value)}{G:Nat}{t:SetTable}(N:h.get? a=some o)(C:o.ExactSet)(I:o.data=.set L G t){c:Array (Int×Value)}{B:SetTable}{H:List K}(J:ElX f c.toList H)(O:H.Nodup)
  (hb:c.size<scanBound) (M:B.fits c.size=true) (Q:TabOk b B):∃D,(h.update a (Obj.putSet c B)).get? a=some D/\D.ExactSet/\D.data=.set c (G+1) B/\ObX f b D H:=by
 have g:=vY (Obj.putSet c B) N (by rw[putSet_of c B I];rfl)
 rw[putSet_of c B I] at g;exact⟨_,g,C,rfl,c,G+1,B,C,rfl,J,O,hb,M,Q⟩
theorem zgY{b:Bool}{g:Bool->Sem Unit}(hg:∀(c:Bool) (s1:Shared) (N:Unit->Shared->Prop),N () s1->wpAny (model l w) A (g c) N E s1){a:Addr}{o:Obj}{es:Array (Int×Value)}{ep:Nat}{t:SetTable}(U:s.heap.get? a=some o)(I:o.ExactSet)
  (T:o.data=.set es ep t) {B:Array (Int×Value)} {D:SetTable} {J:List K} (Q:ElX f B.toList J) (Y:J.Nodup) (hb:B.size<scanBound) (hf:D.fits B.size=true) (tb:TabOk b D) {C:Bool} {R:Option Bool->Shared->Prop}
  (h:∀H,Heap.SameBut a s.heap H->SetX f b H a J->R (some true) { s with heap:=H }) :
  wpAny (model l w) A (storeSet a B D >>= fun _=>if(!C&&D.tooFull)=true then g (relayAll D B (SetTable.grown B.size)).2.2 >>= fun _=>storeSet a (relayAll D B (SetTable.grown B.size)).1 (relayAll D B (SetTable.grown B.size)).2.1 >>= fun _=>pure (some true) else pure (some true)) R E s:=by
 obtain⟨o1,G,x1,O,L⟩:=zjO U I T Q Y hb hf tb;have sb:=Zc s.heap a (Obj.putSet B D);refine zg (wpAny_storeSet_of U T ?_ (fits_of_scanBound hb))
 split
 ·have pm:=relayAll_perm D B (SetTable.grown B.size)
  have ft:=relayAll_fits D B (SetTable.grown B.size);have tr:=tb.relay B (SetTable.grown B.size);have sz:(relayAll D B (SetTable.grown B.size)).1.size=B.size:=by have:=pm.length_eq;rwa[xz,xz] at this
  obtain⟨o2,g2,x2,d2,M⟩:=zjO G x1 O (Q.perm pm) Y (by rw[sz];exact hb) ft tr
  exact zg (hg _ _ _ (zg (wpAny_storeSet_of G O (zw (h _ (sb.trans (Zc _ a _)) ⟨o2,g2,M⟩)) (fits_of_scanBound (by rw[sz];exact hb)))))
 ·exact zw (h _ sb ⟨o1,G,L⟩)
theorem zkC{b:Bool}{a:Addr}{g:List K}{k:K}{x:Value}{Q:Bool->Shared->Prop}(B:f.is k x=true)(J:x.scannable=true)(hS:SetX f b s.heap a g)(I:g.length+1<scanBound)
  (h:∀G c,Heap.SameBut a s.heap G->SetX f b G a (if k∈g then g else g++[k])->Q c { s with heap:=G }):wpAny (model l w) A (setAddHashed a x (f.hash k)) Q E s:=by
 obtain⟨o,Y,M,ep,t,H,U,C,nd,hb,hf,tb⟩:=hS;have ln:=C.len;rw[xz] at ln;unfold setAddHashed setAddHashedIn;refine xN (zg (Qs Y U hf ?_));dsimp only
 rw[byScan_of J hb C.1,zv rfl];unfold setAddByScan;refine zg (zg (vv (zg (wpAny_setScan_of B Y U hf C.1 ?_))))
 cases hr:List.findIdx? (fun e=>f.is k e.2) M.toList with
 | some j=>
  obtain⟨hj,aa,_⟩:=List.findIdx?_eq_some_iff_getElem.mp hr
  have hk:k∈g:=(C.mem k).mpr ⟨_,vX hj,aa⟩;have:=h s.heap false (Heap.SameBut.refl a s.heap) (by rw[zv hk];exact⟨o,Y,M,ep,t,H,U,C,nd,hb,hf,tb⟩)
  exact zw (zw this)
 | none=>
  have hk:k∉g:=fun z=>by
   obtain⟨e,he,r⟩:=(C.mem k).mp z;have:=List.findIdx?_eq_none_iff.mp hr e he
   rw[r] at this;cases this
  rw[zu hk] at h;have gw:∀(c:Bool) (s1:Shared) (Q':Unit->Shared->Prop),Q' () s1->wpAny (model l w) A (match c with | true=>rule "set.scan.the-table-gave-way" | false=>pure ()) Q' E s1:=fun c s1 Q' hq=>by
   cases c
   ·exact zw hq
   ·exact vv hq
  have pm:=layNew_perm t M (f.hash k) x;have O:=layNew_fits t M (f.hash k) x;have tn:=tb.layNew M (f.hash k) x;generalize layNew t M (f.hash k) x=L at pm O tn;obtain⟨N,t1,wd,ab⟩:=L;dsimp only at pm O tn ⊢;rw[Array.toList_push] at pm;have D:ElX f N.toList (g++[k]):=(C.snoc B J).perm pm;have l1:=D.len;rw[xz,qo] at l1;have T:N.size<scanBound:=by rw[l1];exact I
  have a0:(g++[k]).Nodup:=zcX nd hk;refine zg (gw _ _ _ ?_)
  split
  ·rw[hashByValue_scannable 8 J]
   refine zg (zw (zgY gw Y H U D a0 T ?_ ?_ fun G sb sx=>zw (h G true sb sx)))
   ·split
    ·exact O
    ·exact SetTable.fits_plain_off O
   ·split
    ·exact tn
    ·exact tn.plain
  ·exact zg (zw (zgY gw Y H U D a0 T O tn fun G sb sx=>zw (h G true sb sx)))
end
def QM(w:World):Bool:=!w.params.followText "set-order"
def yZ(w:World):Obj:={ cls:=.type "set",dict:=none,data:=.set #[] 0 (.fresh 0 0 (QM w)) }
section
variable{K:Type}[DecidableEq K]
def xU(c:List K)(k:K):List K:=if k∈c then c else c++[k]
def vZ(g c:List K):List K:=c.foldl xU g
theorem Vd(c:List K)(k:K):(xU c k).length<=c.length+1:=by
 unfold xU;split
 ·omega
 ·rw[qo];exact zJ _
theorem Q0:∀(g c:List K),(vZ c g).length<=c.length+g.length
 | [],c=>zJ _
 | j::g,c=>by
  have h1:=Q0 g (xU c j);have h2:=Vd c j;show(vZ (xU c j) g).length<=_;rw[xP];omega
theorem Wz:∀{g c:List K} {x:K},x∈vZ c g↔x∈c\/x∈g
 | [],c,x=>by simp[vZ]
 | j::g,c,x=>by
  show x∈vZ (xU c j) g↔_;rw[Wz,qe];unfold xU;split
  ·rename_i h
   constructor
   ·rintro(z | z)
    ·exact .inl z
    ·exact .inr (.inr z)
   ·rintro(z | z | z)
    ·exact .inl z
    ·rw[z];exact .inl h
    ·exact .inr z
  ·rw[qU,qD,or_assoc]
theorem zcC{g c:List K}{i:Nat}{k:K}(h:c[i]? =some k):vZ (xU g k) (c.drop (i+1))=vZ g (c.drop i):=by
 obtain⟨h1,h2⟩:=zC.mp h;rw[zfu h1,h2];rfl
variable{f:Program}{w:World}{knd:KeyKind f w K}{A:Around}{R:Result->Shared->Prop}{it l S:Addr}{items:Array Value}{keys:List K}{b:Bool}
theorem zfR(hh:A.handled=none)(J:l≠it)(L:l≠S)(D:it≠S)(U:keys.length=items.size)(I:∀(j:Nat) (u:Value),items[j]? =some u->∃k,keys[j]? =some k/\knd.is k u=true/\u.scannable=true) :
  ∀(m:Nat) (s:Shared) (i:Nat) (B:List K),items.size-i=m->i<=items.size->s.heap.IsListIter it l i->s.heap.IsList l items->SetX knd b s.heap S B->B.length+m+1<scanBound ->
   (∀C T,SetX knd b C S (vZ B (keys.drop i))->(∀c o,c≠it->c≠S->s.heap.get? c=some o->C.get? c=some o)->R (.ok (.ret .none)) { s with heap:=C,toks:=T }) ->
   codeAny (model f w) A (.builtin "set.update.loop" ⟨[.ref S,.ref it],[]⟩) R s:=by
 intro m;induction m with
 | zero=>
  intro s i B hm hi M H N hz q;have E:items[i]? =none:=by simp;omega
  refine codeAny_builtin zfG ?_
  rw[Z4 zaW _];refine zg (wpAny_pyNext_list_end hh M H E fun C hx=>zw ?_)
  have e0:vZ B (keys.drop i)=B:=by rw[List.drop_eq_nil_of_le (by omega)];rfl
  exact q C s.toks (by rw[e0];exact N.at fun o e=>hx S o (z9 D) e) fun c o hc _ e=>hx c o hc e
 | succ m ih=>
  intro s i B hm hi M H N hz q;have G:i<items.size:=by omega
  obtain⟨u,hu⟩:∃u,items[i]? =some u:=⟨_,vz G⟩;obtain⟨k,ek,kk,sc⟩:=I i u hu;refine codeAny_builtin zfG ?_
  rw[Z4 zaW _];refine zg (wpAny_pyNext_list_item M H hu fun h1 i1 s1=>?_)
  have Y:∀c o,c≠it->s.heap.get? c=some o->h1.get? c=some o:=fun c o hc e=>(s1.2 c hc).trans e
  refine zg (xN (show wpAny _ _ (setAdd S u) _ _ _ from xN (zg (knd.pyHash kk ?_))))
  refine zkC (s:={ s with heap:=h1,toks:=s.toks+1 }) kk sc (N.at fun o e=>Y S o (z9 D) e) (by omega) fun h2 c sb Q=>?_
  have k2:∀c o,c≠it->c≠S->s.heap.get? c=some o->h2.get? c=some o:=fun c o hc g e=>(sb.2 c g).trans (Y c o hc e)
  have lk:=Vd B k;refine zw ⟨plainId_quiet zaW _,?_⟩
  refine ih { s with heap:=h2,toks:=s.toks+1 } (i+1) (xU B k) (by omega) G (i1.at fun o e=>(sb.2 it D).trans e) (H.at fun o e=>k2 l o J L e) Q (by omega) fun C T O kp=>?_
  exact q C T (by rw[<- zcC ek];exact O) fun c o hc g e=>kp c o hc g (k2 c o hc g e)
end
section
variable{b:Program}{w:World}{A:Around}{E:Value->Shared->Prop}{s:Shared}
theorem zfM{T g f:String}{args:List Value}{Q Q1:Value->Shared->Prop}(l:TypeCalled T g f)(J:checkTypeCall T ⟨args,[]⟩=pure ())
  (D:codeAny (model b w) A.in1 (.call (.builtin g) ⟨.type T::args,[]⟩) (wants Q1 E) s)
  (B:∀u s1,Q1 u s1->s1.TypeIs u T/\codeAny (model b w) A.in1 (.call (.builtin f) ⟨u::args,[]⟩) (wants (fun r s2=>r=.none/\Q u s2) E) s1) :
  wpAny (model b w) A (call (.type T) args) Q E s:=by
 obtain⟨c,tl,M⟩:=l.mro;have N:=l.made;have O:=l.sub;have U:=l.notType;have Y:=l.canCreate;refine wpAny_call (codeAny_of_tree (show wpAny _ _ (callAny (.type T) _) _ _ _ from zw ⟨Code.quiet_builtin _ (by decide +kernel),codeAny_builtin F.entry_type_call ?_⟩))
 rw[Around.under_plain (weight_type_call_type T args []) rfl];repeat' (first| assumption | wp_step)
 refine codeAny_mono D fun r s1 G=>?_
 match r,G with
 | .error e,G=>exact G
 | .ok (.ret u),G=>
  obtain⟨ty,H⟩:=B _ _ G;have m6:=l.init.lookup;have m7:=l.init.bind u;repeat' (first| assumption | wp_step)
  refine codeAny_mono H fun L s2 C=>?_
  match L,C with
  | .error e,C=>exact C
  | .ok (.ret v),⟨I,hq⟩=>
   subst I;repeat' (first| assumption | wp_step)
theorem zeQ(x:Value){c:Value->Shared->Prop}(h:c (.ref s.heap.objs.size) { s with heap:=s.heap.push (yZ w) }) :
  codeAny (model b w) A (.call (.builtin "set.__new__") ⟨[.type "set",x],[]⟩) (wants c E) s:=by
 refine codeAny_call_builtin F.plain_set_new F.entry_set_new (wQ (F.newCall_set_1 x) ?_)
 unfold Builtin.«set.__new__» Builtin.Frozenset.newClass;have l:=sub_set_self;obtain⟨f,g,d,B,os⟩:=s;dsimp only;wp_walk
 refine Qp (zw ?_)
 simp only[newObj];exact zg (wpAny_alloc (zw (zw h)))
end
section
variable{f:Program}{w:World}{K:Type}[DecidableEq K]{knd:KeyKind f w K}{A:Around}{E:Value->Shared->Prop}{s:Shared}
theorem WV(h:Heap):SetX knd (QM w) (h.push (yZ w)) h.objs.size []:=
 ⟨yZ w,zW _ rfl,#[],0,_,⟨rfl,rfl,rfl⟩,rfl,⟨fun e b=>by simp at b,[],.refl _,.nil⟩,zar,by decide,rfl,TabOk.fresh _⟩
theorem zdj{l:Addr}{g:Array Value}{n:Nat}{keys:List K}{Q:Value->Shared->Prop}(hh:A.handled=none)(U:s.heap.get? l=some { cls:=.type "list",data:=.seq g n })(G:keys.length=g.size)(hb:g.size+1<scanBound)
  (J:∀(j:Nat) (u:Value),g[j]? =some u->∃k,keys[j]? =some k/\knd.is k u=true/\u.scannable=true)
  (h:∀C O,SetX knd (QM w) C s.heap.objs.size (vZ [] keys)->(∀c o,s.heap.get? c=some o->C.get? c=some o)->Q (.ref s.heap.objs.size) { s with heap:=C,toks:=O }) :
  wpAny (model f w) A (call (.type "set") [.ref l]) Q E s:=by
 refine zfM (Q1:=fun u s1=>u=.ref s.heap.objs.size/\s1={ s with heap:=s.heap.push (yZ w) }) F.called_set (F.typeCall_set_1 (.ref l)) (zeQ (.ref l) ⟨rfl,rfl⟩) fun u s1 e=>?_
 obtain⟨eu,Y⟩:=e;subst eu Y;have T:(s.heap.push (yZ w)).get? s.heap.objs.size=some (yZ w):=zW _ rfl;have I:Shared.TypeIs { s with heap:=s.heap.push (yZ w) } (.ref s.heap.objs.size) "set" :=⟨_,T,rfl⟩;have B:=z7 (yZ w) U;refine⟨I,codeAny_call_builtin F.called_set.init.plain F.entry_set_init (check_set_init_1 I ?_)⟩
 have m1:=F.sub_list_set;have m2:=F.sub_list_frozenset;have m3:(Value.type "list" == Value.type "dict")=false:=by decide
 have D:l<s.heap.objs.size:=zH U;unfold yZ at T I B;unfold Builtin.«set.__init__» noKeywords Builtin.Frozenset.updateFrom yZ;generalize H:pyIter=PI;wp_walk
 subst H;refine wpAny_pyIter_list ⟨_,B,rfl,n,rfl⟩ (zg (wpAny_runValue ?_))
 have L:A.in1.in1.in1.handled=none:=by simp[hh]
 have N:(s.heap.push (yZ w)).objs.size=s.heap.objs.size+1:=jV ..;have M:∀c o,s.heap.get? c=some o->c<s.heap.objs.size:=fun c o e=>zH e
 refine zfR (knd:=knd) (b:=QM w) (A:=A.in1.in1) (S:=s.heap.objs.size) (it:=(s.heap.push (yZ w)).objs.size) (l:=l) (items:=g) (keys:=keys) L (by rw[N];exact qh (wB D)) (qh D) (by rw[N];exact xK (yE _)) G J g.size
  ⟨(s.heap.push (yZ w)).push { cls:=.type "list_iterator",data:=.fields #[.ref l,.int 0 0] },s.gens,s.drawn,s.toks,s.os⟩ 0 [] rfl (ji _) ⟨_,zW _ rfl,rfl,rfl⟩ ⟨_,z7 _ B,rfl,n,rfl⟩ ((WV s.heap).at fun o e=>z7 _ e) (by rw[Zv];omega) fun C O sx kp=>?_
 refine zw (zw ⟨rfl,h C O (by simpa using sx) fun c o e=>?_⟩)
 have:=M c o e;exact kp c o (by rw[N];exact qh (wB this)) (qh this) (z7 _ (z7 _ e))
end
theorem jI:Slot "set_iterator" "__next__" "set_iterator.__next__" :=
 .of (owner:= "set_iterator") (n:= "__next__") (by rw[typeLookup_type,builtinLookup_eq_fast];kernel_rfl) (by decide +kernel) (by decide +kernel) (by decide +kernel)
  (by first| exact .inl (by decide +kernel) | exact .inr (by decide +kernel)) (by rw[isSubtype_type];kernel_rfl)
theorem y8:entryFor table "set_iterator.__next__" = some Builtin.«set_iterator.__next__»:=entryFor_of_tree (by kernel_rfl)
theorem Z1(x:Value):argsOk "set_iterator.__next__" ⟨[x],[]⟩:=by unfold argsOk;kernel_rfl
theorem slot_set_iter:Slot "set" (Str.ofString "__iter__") "set.__iter__" :=PySem.F.slot_set_iter
theorem Jv:entryFor table "set.__iter__" = some Builtin.«frozenset.__iter__»:=
 entryFor_alias (id':= "frozenset.__iter__") (by kernel_rfl) (by first| rfl | decide +kernel) (by decide +kernel) (by kernel_rfl)
theorem Xp(x:Value):argsOk "set.__iter__" ⟨[x],[]⟩:=by unfold argsOk;kernel_rfl
theorem Zp{α:Type}:∀(l:List α) (i:Nat) (h:i<l.length),(l[i]::l.eraseIdx i).Perm l
 | x::l,0,_=>.refl _
 | x::l,i+1,h=>by
  have:=Zp l i (by simpa using h)
  exact(List.Perm.swap _ _ _).trans (this.cons x)
section
variable{M:Model}{A:Around}{E:Value->Shared->Prop}{s:Shared}
theorem zca{b:Source}{n:Nat}{Q:Nat->Shared->Prop}(c:0<n)(h:∀i,i<n->Q i { s with drawn:=s.drawn.bump b }):wpAny M A (choose b n) Q E s:=fun Γ p f=>
 ⟨xK c,h _ (Nat.mod_lt _ c)⟩
theorem Wt{α:Type}:∀(n:Nat) (b:List α) (s:Shared) {Q:List α->Shared->Prop},b.length<=n->(∀d f,f.Perm b->Q f { s with drawn:=d })->wpAny M A (drawOrder n b) Q E s
 | 0,b,s,Q,c,h=>by
  cases b with
  | nil=>exact zw (h s.drawn [] (.refl _))
  | cons x b=>simp at c
 | n+1,[],s,Q,c,h=>zw (h s.drawn [] (.refl _))
 | n+1,x::b,s,Q,c,h=>by
  unfold drawOrder;refine zg (zca (by simp) fun i g=>?_)
  rw[jh g];dsimp only;refine zg (Wt n ((x::b).eraseIdx i) _ ?_ fun d f p=>zw (h d _ ?_))
  ·rw[List.length_eraseIdx]
   split<;>simp at* <;>omega
  ·exact(p.cons _).trans (Zp _ _ g)
end
theorem zbC{α:Type}(next:Nat->Nat):∀(fuel k:Nat) (left:List α) (b:Array α),left.length<=fuel->(pickOrder.go next fuel k left b).toList.Perm (b.toList++left)
 | 0,k,left,b,h=>by
  cases left with
  | nil=>unfold pickOrder.go;simp
  | cons x c=>simp at h
 | fuel+1,k,left,b,h=>by
  unfold pickOrder.go;cases left with
  | nil=>simp
  | cons x c=>
   have f:next k % (x::c).length<(x::c).length:=Nat.mod_lt _ (by simp)
   rw[jh f];dsimp only;have h1:=zbC next fuel (k+1) ((x::c).eraseIdx (next k % (x::c).length)) (b.push ((x::c)[next k % (x::c).length]'f)) (by rw[List.length_eraseIdx,zv f];simp at h ⊢;omega)
   refine h1.trans ?_
   rw[Array.toList_push,yG];exact List.Perm.append_left _ (Zp _ _ f)
theorem XR{α:Type}(next:Nat->Nat)(b:Array α):(pickOrder next b).toList.Perm b.toList:=by
 unfold pickOrder;have:=zbC next b.size 0 b.toList #[] (by simp)
 simpa using this
def siO(first:Value)(i:Nat)(b:Value)(n c:Nat):Obj:={ cls:=.type "set_iterator",data:=.fields #[first,.int i 0,b,.int n 0,.int c 0] }
section
variable{c:Program}{w:World}{A:Around}{E:Value->Shared->Prop}{h:Heap}{g:Array GenState}{d:Drawn}{f:Nat}{os:OsState}{C a:Addr}{o:Obj}{B:Array (Int×Value)}{l:Nat}{t:SetTable}{i:Nat}
theorem WU{sl:Nat}{x:Value}{nx:Nat}{Q:Fin->Shared->Prop}(H:h.get? C=some (siO (.int sl 0) i (.ref a) B.size l))(T:h.get? a=some o)(N:o.data=.set B l t)(O:t.fits B.size=true)
  (J:∀(b:Option (Value×Nat)->Shared->Prop),b (some (x,nx)) ⟨h,g,d,f,os⟩->wpAny (model c w) A (setNext a sl i l) b E ⟨h,g,d,f,os⟩)
  (hq:∀D,D.get? C=some (siO (.int nx 0) (i+1) (.ref a) B.size l)->Heap.SameBut C h D->Q (.done (.ret x)) ⟨D,g,d,f,os⟩) :
  wpAny (model c w) A (Builtin.«set_iterator.__next__» ⟨[.ref C],[]⟩) Q E ⟨h,g,d,f,os⟩:=by
 unfold siO at H;have L:∀{b:Array (Int×Value)->Shared->Prop},b B ⟨h,g,d,f,os⟩->wpAny (model c w) A (setEntries a) b E ⟨h,g,d,f,os⟩:=fun q=>wpAny_setEntries_of (s:=⟨h,g,d,f,os⟩) T N O q
 unfold Builtin.«set_iterator.__next__»;generalize M:setNext=SN at J;generalize G:setField=SF;repeat(any_goals (first| assumption | (with_reducible refine L ?_) | wp_step))
 subst G;have U:((sl:Int)).toNat=sl:=jR _;have Y:((i:Int)).toNat=i:=jR _;have z3:((l:Int)).toNat=l:=jR _;rw[U,Y,z3];refine J _ ?_
 refine zg (wg H rfl (by show 0<5;decide) ?_)
 have I:=vY (Obj.mapFields (·.setIfInBounds 0 (rawInt nx))) H rfl
 refine zg (wg I rfl (by show 1<5;decide) (zw (hq _ ?_ ?_)))
 ·exact vY (Obj.mapFields (·.setIfInBounds 1 (rawInt ((i:Int)+1)))) I rfl
 ·exact(Zc _ _ _).trans (Zc _ _ _)
theorem ZK{sl:Nat}{Q:Fin->Shared->Prop}(U:A.handled=none)(J:h.get? C=some (siO (.int sl 0) i (.ref a) B.size l))(Y:h.get? a=some o)(O:o.data=.set B l t)(T:t.fits B.size=true)
  (I:∀(D:Option (Value×Nat)->Shared->Prop),D none ⟨h,g,d,f,os⟩->wpAny (model c w) A (setNext a sl i l) D E ⟨h,g,d,f,os⟩)
  (hq:∀G e,Heap.ExtBut C h G->(∃L,G.get? e=some L/\L.cls=.type "StopIteration")->E (.ref e) ⟨G,g,d,f,os⟩) :
  wpAny (model c w) A (Builtin.«set_iterator.__next__» ⟨[.ref C],[]⟩) Q E ⟨h,g,d,f,os⟩:=by
 unfold siO at J;have M:∀{D:Array (Int×Value)->Shared->Prop},D B ⟨h,g,d,f,os⟩->wpAny (model c w) A (setEntries a) D E ⟨h,g,d,f,os⟩:=fun q=>wpAny_setEntries_of (s:=⟨h,g,d,f,os⟩) Y O T q
 unfold Builtin.«set_iterator.__next__»;generalize N:setNext=SN at I;generalize H:setField=SF;repeat(any_goals (first| assumption | (with_reducible refine M ?_) | wp_step))
 subst H;have z1:((sl:Int)).toNat=sl:=jR _;have z2:((i:Int)).toNat=i:=jR _;have z3:((l:Int)).toNat=l:=jR _;rw[z1,z2,z3];refine I _ (zg (wg J rfl (by show 2<5;decide) ?_))
 refine zg (show wpAny _ _ (newExc (.type "StopIteration") []) _ _ _ from ?_)
 unfold newExc newTuple;refine zg (xc (zg (m:=firstArgMember _ _) (wQ (a:=Value.none) (by first| rfl | (simp only[firstArgMember];rfl)) (xc ?_))))
 unfold raiseNew;refine zg (wpAny_handled ?_)
 rw[U];refine zg (zw (Zs (hq _ _ (fun b p hb e=>?_) ⟨_,zW _ rfl,rfl⟩)))
 exact z7 _ (z7 _ ((yI _ _ (z9 hb)).trans e))
end
section
variable{b:Program}{w:World}{A:Around}{E:Value->Shared->Prop}{s:Shared}{a:Addr}{o:Obj}{c:Array (Int×Value)}{f:Nat}{t:SetTable}{i g:Nat}
theorem QV{Q:Bool->Shared->Prop}(h:Q (w.params.followText "set-order") s):wpAny (model b w) A setsByText Q E s:=zg (Qp (zw h))
theorem XV{Q:Option (Value×Nat)->Shared->Prop}(l:w.params.followText "set-order" = true)(D:s.heap.get? a=some o)(B:o.data=.set c f t)(C:t.fits c.size=true)
  (h:Q (((pickOrder (w.params.setOrder a f) c)[i]?).map fun e=>(e.2,g)) s):wpAny (model b w) A (setNext a g i f) Q E s:=by
 unfold setNext;refine zg (Qs D B C (zg (QV ?_)))
 rw[l,zv rfl,zu (by simp)]
 refine zg ?_
 unfold setWalk;refine zg (Qs D B C (zg (QV ?_)))
 rw[l,zv rfl];exact zg (Qp (zw (zw h)))
theorem W8{Q:Option (Value×Nat)->Shared->Prop}(l:w.params.followText "set-order" = false)(H:(!t.plain&&decide (c.size>1))=false)(D:t.led=true)(G:s.heap.get? a=some o)(B:o.data=.set c f t)(C:t.fits c.size=true)
  (h:Q (match c[SetTable.below t.place g]?,t.place[SetTable.below t.place g]? with | some (_,x),some j=>some (x,j+1) | _,_=>none) s):wpAny (model b w) A (setNext a g i f) Q E s:=by
 unfold setNext;refine zg (Qs G B C (zg (QV ?_)))
 rw[l,zu qR];refine(show wpAny _ _ (if(!t.plain&&decide (c.size>1))=true then _ else _) _ _ _ from ?_)
 rw[H,zu qR];refine zg (show wpAny _ _ (if(!t.led&&!c.isEmpty)=true then unsupported "set:maker-not-led" else pure ()) _ _ _ from ?_)
 rw[D];exact zw (zw h)
theorem zab{x:Value}{hs:Int}{p:Nat}{Q:Value->Shared->Prop}(C:s.heap.get? a=some o)(l:o.data=.set c f t)(B:t.fits c.size=true)(hx:c[p]? =some (hs,x))(h:Q x s):wpAny (model b w) A (setNextDrawn a p f) Q E s:=by
 unfold setNextDrawn;refine zg (Qs C l B ?_)
 dsimp only;rw[zu (by simp),hx]
 exact zw h
theorem ze6{Q:Bool->Shared->Prop}(C:s.heap.get? a=some o)(l:o.data=.set c f t)(B:t.fits c.size=true)(h:Q (!w.params.followText "set-order" && (!t.plain&&decide (c.size>1))) s):wpAny (model b w) A (setDrawn a) Q E s:=by
 unfold setDrawn;exact zg (Qs C l B (zg (QV (zw h))))
end
section
variable{f:Program}{w:World}{A:Around}{E:Value->Shared->Prop}{h:Heap}{g:Array GenState}{d:Drawn}{l:Nat}{os:OsState}{D a T:Addr}{o H:Obj}{B:Array (Int×Value)}{C:Nat}{t:SetTable}{i n c:Nat}{G:Array Value}
theorem zcM{x:Value}{hs:Int}{p:Nat}{Q:Fin->Shared->Prop}(N:h.get? D=some (siO (.ref T) i (.ref a) B.size C))(Y:h.get? a=some o)(O:o.data=.set B C t)(U:t.fits B.size=true)(hT:h.get? T=some H)(M:H.data=.seq G c)
  (hp:G[i]? =some (.int p 0)) (hx:B[p]? =some (hs,x)) (hq:∀I,I.get? D=some (siO (.ref T) (i+1) (.ref a) B.size C)->Heap.SameBut D h I->Q (.done (.ret x)) ⟨I,g,d,l,os⟩) :
  wpAny (model f w) A (Builtin.«set_iterator.__next__» ⟨[.ref D],[]⟩) Q E ⟨h,g,d,l,os⟩:=by
 unfold siO at N;have hE:∀{b:Array (Int×Value)->Shared->Prop},b B ⟨h,g,d,l,os⟩->wpAny (model f w) A (setEntries a) b E ⟨h,g,d,l,os⟩:=fun q=>wpAny_setEntries_of (s:=⟨h,g,d,l,os⟩) Y O U q
 have hS:∀{b:Option (Array Value)->Shared->Prop},b (some G) ⟨h,g,d,l,os⟩->wpAny (model f w) A (seqItems? (.ref T)) b E ⟨h,g,d,l,os⟩:=fun q=>vW (s:=⟨h,g,d,l,os⟩) hT M q
 unfold Builtin.«set_iterator.__next__»;generalize L:setNextDrawn=SN;generalize J:setField=SF;repeat(any_goals (first| assumption | (with_reducible refine hE ?_) | (with_reducible refine hS ?_) | wp_step))
 subst J L;have z2:((i:Int)).toNat=i:=jR _;have z3:((C:Int)).toNat=C:=jR _;rw[z2,z3,hp];refine zg (show wpAny _ _ (setNextDrawn a ((p:Int)).toNat C) _ _ _ from ?_)
 rw[jR];refine zab (s:=⟨h,g,d,l,os⟩) Y O U hx (zg (wg N rfl (by show 1<5;decide) (zw (hq _ ?_ (Zc _ _ _)))))
 exact vY (Obj.mapFields (·.setIfInBounds 1 (rawInt ((i:Int)+1)))) N rfl
theorem Xi{Q:Fin->Shared->Prop}(hh:A.handled=none)(O:h.get? D=some (siO (.ref T) i (.ref a) B.size C))(ho:h.get? a=some o)(hd:o.data=.set B C t)(hf:t.fits B.size=true)(hT:h.get? T=some H)(N:H.data=.seq G c)
  (hp:G[i]? =none) (hq:∀J e,Heap.ExtBut D h J->(∃U,J.get? e=some U/\U.cls=.type "StopIteration")->E (.ref e) ⟨J,g,d,l,os⟩) :
  wpAny (model f w) A (Builtin.«set_iterator.__next__» ⟨[.ref D],[]⟩) Q E ⟨h,g,d,l,os⟩:=by
 unfold siO at O;have hE:∀{I:Array (Int×Value)->Shared->Prop},I B ⟨h,g,d,l,os⟩->wpAny (model f w) A (setEntries a) I E ⟨h,g,d,l,os⟩:=fun q=>wpAny_setEntries_of (s:=⟨h,g,d,l,os⟩) ho hd hf q
 have hS:∀{I:Option (Array Value)->Shared->Prop},I (some G) ⟨h,g,d,l,os⟩->wpAny (model f w) A (seqItems? (.ref T)) I E ⟨h,g,d,l,os⟩:=fun q=>vW (s:=⟨h,g,d,l,os⟩) hT N q
 unfold Builtin.«set_iterator.__next__»;generalize M:setNextDrawn=SN;generalize L:setField=SF;repeat(any_goals (first| assumption | (with_reducible refine hE ?_) | (with_reducible refine hS ?_) | wp_step))
 subst L M;have z2:((i:Int)).toNat=i:=jR _;rw[z2,hp];refine zg (wg O rfl (by show 0<5;decide) ?_)
 have Y:=vY (Obj.mapFields (·.setIfInBounds 0 (rawInt 0))) O rfl
 refine zg (wg Y rfl (by show 2<5;decide) ?_)
 refine zg (show wpAny _ _ (newExc (.type "StopIteration") []) _ _ _ from ?_)
 unfold newExc newTuple;refine zg (xc (zg (m:=firstArgMember _ _) (wQ (a:=Value.none) (by first| rfl | (simp only[firstArgMember];rfl)) (xc ?_))))
 unfold raiseNew;refine zg (wpAny_handled ?_)
 rw[hh];refine zg (zw (Zs (hq _ _ (fun b p hb e=>?_) ⟨_,zW _ rfl,rfl⟩)))
 exact z7 _ (z7 _ ((yI _ _ (z9 hb)).trans ((yI _ _ (z9 hb)).trans e)))
end
section
variable{c:Program}{w:World}{A:Around}{E:Value->Shared->Prop}{s:Shared}{f:Addr}{g:Obj}
theorem zfV{x:Value}{Q:Option Value->Shared->Prop}{N:Heap->Prop}(B:s.heap.get? f=some g)(hc:g.cls=.type "set_iterator")
  (G:∀(l:Fin->Shared->Prop) (D:Value->Shared->Prop),(∀b,N b->Heap.SameBut f s.heap b->l (.done (.ret x)) { s with heap:=b })->wpAny (model c w) A.in1 (Builtin.«set_iterator.__next__» ⟨[.ref f],[]⟩) l D s)
  (hq:∀b,N b->Heap.SameBut f s.heap b->Q (some x) { s with heap:=b }):wpAny (model c w) A (pyNext (.ref f)) Q E s:=by
 unfold pyNext;refine zg (wR (yJ (name:=Str.ofString "__next__") (T:= "set_iterator") ⟨_,B,hc⟩ jI (xS jI (T:= "set_iterator") ⟨_,B,hc⟩ y8 (G _ _ fun b n H=>⟨x,rfl,zw (hq b n H)⟩) (Z1 _))))
theorem zfU{Q:Option Value->Shared->Prop}(D:s.heap.get? f=some g)(hc:g.cls=.type "set_iterator")
  (I:∀(H:Fin->Shared->Prop) (C:Value->Shared->Prop),(∀l e,Heap.ExtBut f s.heap l->(∃B,l.get? e=some B/\B.cls=.type "StopIteration")->C (.ref e) { s with heap:=l })->wpAny (model c w) A.in1 (Builtin.«set_iterator.__next__» ⟨[.ref f],[]⟩) H C s)
  (hq:∀l,Heap.ExtBut f s.heap l->Q none { s with heap:=l }):wpAny (model c w) A (pyNext (.ref f)) Q E s:=by
 unfold pyNext;refine zg (wR (yJ (name:=Str.ofString "__next__") (T:= "set_iterator") ⟨_,D,hc⟩ jI (xS jI (T:= "set_iterator") ⟨_,D,hc⟩ y8 (I _ _ fun l e J B=>?_) (Z1 _))))
 obtain⟨B,e1,e2⟩:=B;refine zg (Za (T:= "StopIteration") (b:=true) ⟨_,e1,e2⟩ isSubtype_stop ?_)
 exact zw (hq l J)
end
theorem ZI:Slot "set_iterator" "__iter__" "set_iterator.__iter__" :=
 .of (owner:= "set_iterator") (n:= "__iter__") (by rw[typeLookup_type,builtinLookup_eq_fast];kernel_rfl) (by decide +kernel) (by decide +kernel) (by decide +kernel)
  (by first| exact .inl (by decide +kernel) | exact .inr (by decide +kernel)) (by rw[isSubtype_type];kernel_rfl)
theorem Xk:entryFor table "set_iterator.__iter__" = some Builtin.«dict_keyiterator.__iter__»:=
 entryFor_alias (id':= "dict_keyiterator.__iter__") (by kernel_rfl) (by first| rfl | decide +kernel) (by decide +kernel) (by kernel_rfl)
theorem VX(x:Value):argsOk "set_iterator.__iter__" ⟨[x],[]⟩:=by unfold argsOk;kernel_rfl
section
variable{B:Program}{w:World}{A:Around}
theorem Ja{l:Addr}{J:List Addr}{n:Nat}{P:Nat->Value->Prop}{St:Nat->Heap->Prop}(hf:l∈J)(O:∀i h,St i h->∃G,h.get? l=some G/\G.cls=.type "set_iterator")
  (M:∀i h g,St i h->(∀b∈J,∀o,h.get? b=some o->g.get? b=some o)->St i g)
  (N:∀i (s:Shared),i<n->St i s.heap->∃x,P i x/\∀(I:Fin->Shared->Prop) (H:Value->Shared->Prop),(∀g,St (i+1) g->Heap.SameBut l s.heap g->I (.done (.ret x)) { s with heap:=g })->wpAny (model B w) A.in1 (Builtin.«set_iterator.__next__» ⟨[.ref l],[]⟩) I H s)
  (L:∀(s:Shared),St n s.heap->∀(I:Fin->Shared->Prop) (H:Value->Shared->Prop),(∀g e,Heap.ExtBut l s.heap g->(∃Y,g.get? e=some Y/\Y.cls=.type "StopIteration")->H (.ref e) { s with heap:=g })->wpAny (model B w) A.in1 (Builtin.«set_iterator.__next__» ⟨[.ref l],[]⟩) I H s) :
  Walks B w A l J [l] n P St where
 sub:=fun b hb=>by rw[qD.mp hb];exact hf
 frame:=M
 item:=fun i s Q E hi st D=>by
  obtain⟨G,e,c⟩:=O i _ st;obtain⟨x,px,hx⟩:=N i s hi st;exact zfV e c hx fun g U sb=>D x g s.toks px U fun b o hb e=>(sb.2 b fun z=>hb (by rw[z];exact qD.mpr rfl)).trans e
 done:=fun s Q E st D=>by
  obtain⟨G,e,c⟩:=O n _ st;exact zfU e c (L s st) fun g xb=>D g s.toks fun b o hb e=>xb b o (fun z=>hb (by rw[z];exact qD.mpr rfl)) e
 self:=fun i s Q E st D=>by
  obtain⟨G,e,c⟩:=O i _ st;refine wpAny_pyIter_slot (T:= "set_iterator") ⟨_,e,c⟩ ZI (xS ZI (T:= "set_iterator") ⟨_,e,c⟩ Xk ?_ (VX _))
  exact zw ⟨_,rfl, "set_iterator",_,⟨_,e,c⟩,jI.lookup,D⟩
def Zi(b:Array Nat):Nat->Nat
 | 0=>0
 | i+1=>b.getD i 0+1
theorem JF{b:Array Nat}(u:Up b){i:Nat}(h:i<=b.size):SetTable.below b (Zi b i)=i:=by
 cases i with
 | zero=>exact YK u (ji _) (fun k a hk=>absurd hk (zaw _)) fun k a _ _=>ji _
 | succ i=>
  have e:b[i]? =some (b[i]'(by omega)):=vz _
  have f:Zi b (i+1)=b[i]'(by omega)+1:=by show b.getD i 0+1=_;rw[J5,e];rfl
  rw[f];refine YK u h (fun k a hk g=>?_) fun k a hk g=>?_
  ·by_cases q:k=i
   ·subst q;rw[e] at g;cases g;omega
   ·have:=u.lt g e (by omega);omega
  ·have:=u.lt e g (by omega);omega
variable{l a T:Addr}{o oT:Obj}{f:Array (Int×Value)}{C c:Nat}{t:SetTable}
theorem zcz(Q:A.handled=none)(I:w.params.followText "set-order" = true)(b:o.data=.set f C t)(E:t.fits f.size=true) :
  Walks B w A l [l,a] [l] f.size (fun i v=>((pickOrder (w.params.setOrder a C) f).toList.map (·.2))[i]? =some v) (fun i h=>h.get? l=some (siO (.int 0 0) i (.ref a) f.size C)/\h.get? a=some o):=by
 have ln:(pickOrder (w.params.setOrder a C) f).size=f.size:=by have:=(XR (w.params.setOrder a C) f).length_eq;rwa[xz,xz] at this
 refine Ja (by simp) (fun i h st=>⟨_,st.1,rfl⟩) (fun i h D st k=>⟨k l (by simp) _ st.1,k a (by simp) _ st.2⟩) (fun i s hi st=>?_) fun s st M L hq=>?_
 ·have e:(pickOrder (w.params.setOrder a C) f)[i]? =some ((pickOrder (w.params.setOrder a C) f)[i]'(by omega)):=vz _
  refine⟨((pickOrder (w.params.setOrder a C) f)[i]'(by omega)).2,by rw[zZ,Zd,e];rfl,fun M L hq=>?_⟩
  obtain⟨h,g,d,H,os⟩:=s;refine WU (sl:=0) (nx:=0) st.1 st.2 b E (fun N G=>XV (s:=⟨h,g,d,H,os⟩) I st.2 b E (by rw[e];exact G)) fun D O J=>hq D ⟨O,?_⟩ J
  have ne:a≠l:=fun z=>by
   have h1:=st.1;have h2:=st.2;rw[z,h1] at h2;cases h2;cases b
  exact(J.2 a ne).trans st.2
 ·have e:(pickOrder (w.params.setOrder a C) f)[f.size]? =none:=Wg (by omega)
  obtain⟨h,g,d,H,os⟩:=s;exact ZK (sl:=0) Q st.1 st.2 b E (fun N G=>XV (s:=⟨h,g,d,H,os⟩) I st.2 b E (by rw[e];exact G)) fun D e xb U=>hq D e xb U
theorem zdv(hh:A.handled=none)(L:w.params.followText "set-order" = false)(O:(!t.plain&&decide (f.size>1))=false)(N:t.led=true)(u:Up t.place)(E:o.data=.set f C t)(b:t.fits f.size=true) :
  Walks B w A l [l,a] [l] f.size (fun i v=>(f.toList.map (·.2))[i]? =some v) (fun i h=>h.get? l=some (siO (.int (Zi t.place i:Nat) 0) i (.ref a) f.size C)/\h.get? a=some o):=by
 have sz:t.place.size=f.size:=by
  simp only[SetTable.fits,xO,xu] at b;exact b.1
 refine Ja (by simp) (fun i h st=>⟨_,st.1,rfl⟩) (fun i h G st k=>⟨k l (by simp) _ st.1,k a (by simp) _ st.2⟩) (fun i s M st=>?_) fun s st Y U hq=>?_
 ·have e:f[i]? =some (f[i]'M):=vz _
  have D:t.place[i]? =some (t.place[i]'(by omega)):=vz _
  have I:Zi t.place (i+1)=t.place[i]'(by omega)+1:=by show t.place.getD i 0+1=_;rw[J5,D];rfl
  refine⟨(f[i]'M).2,by rw[zZ,Zd,e];rfl,fun Y U hq=>?_⟩
  obtain⟨h,g,d,J,os⟩:=s;refine WU (sl:=Zi t.place i) (nx:=Zi t.place (i+1)) st.1 st.2 E b (fun Q2 H=>W8 (s:=⟨h,g,d,J,os⟩) L O N st.2 E b ?_) fun G g1 Q=>hq G ⟨g1,?_⟩ Q
  ·rw[JF u (by omega),e,D]
   rw[I] at H;exact H
  ·have ne:a≠l:=fun z=>by
    have h1:=st.1;have h2:=st.2;rw[z,h1] at h2;cases h2;cases E
   exact(Q.2 a ne).trans st.2
 ·obtain⟨h,g,d,J,os⟩:=s
  refine ZK (sl:=Zi t.place f.size) hh st.1 st.2 E b (fun Q2 H=>W8 (s:=⟨h,g,d,J,os⟩) L O N st.2 E b ?_) fun G e xb ob=>hq G e xb ob
  rw[JF u (by omega),Wg (xs:=f) (by omega)]
  exact H
theorem YV{ps:List Nat}(U:A.handled=none)(H:o.data=.set f C t)(L:t.fits f.size=true)(G:oT.data=.seq (ps.map fun i:Nat=>Value.int i 0).toArray c)(M:ps.Perm (List.range f.size)) :
  Walks B w A l [l,a,T] [l] f.size (fun i v=>(ps.map fun j=>(f.getD j (0,.none)).2)[i]? =some v) (fun i h=>h.get? l=some (siO (.ref T) i (.ref a) f.size C)/\h.get? a=some o/\h.get? T=some oT):=by
 have ln:ps.length=f.size:=by have:=M.length_eq;rwa[vO] at this
 have Y:∀j∈ps,j<f.size:=fun j D=>xR.mp (M.mem_iff.mp D)
 have ne:∀(h:Heap) (i:Nat),h.get? l=some (siO (.ref T) i (.ref a) f.size C)->h.get? a=some o->h.get? T=some oT->a≠l/\T≠l:=fun h i h1 h2 J=>by
  refine⟨fun z=>?_,fun z=>?_⟩
  ·rw[z,h1] at h2;cases h2;cases H
  ·rw[z,h1] at J;cases J;cases G
 refine Ja (by simp) (fun i h st=>⟨_,st.1,rfl⟩) (fun i h E st k=>⟨k l (by simp) _ st.1,k a (by simp) _ st.2.1,k T (by simp) _ st.2.2⟩) (fun i s hi st=>?_) fun s st O N hq=>?_
 ·have b:i<ps.length:=by omega
  have D:=Y _ (vX b);have e:f[ps[i]]? =some (f[ps[i]]'D):=vz _;refine⟨(f[ps[i]]'D).2,?_,fun O N hq=>?_⟩
  ·rw[zZ,jh b]
   show some (f.getD ps[i] (0,.none)).2=some _;rw[J5,e];rfl
  obtain⟨h,g,d,tk,os⟩:=s;obtain⟨n1,n2⟩:=ne h i st.1 st.2.1 st.2.2;refine zcM (p:=ps[i]) st.1 st.2.1 H L st.2.2 G (by simp[b]) (hs:=(f[ps[i]]'D).1) e fun E Q I=>hq E ⟨Q,(I.2 a n1).trans st.2.1,(I.2 T n2).trans st.2.2⟩ I
 ·obtain⟨h,g,d,tk,os⟩:=s
  exact Xi U st.1 st.2.1 H L st.2.2 G (by simp;omega) fun E e xb ob=>hq E e xb ob
end
section
variable{prog:Program}{w:World}{A:Around}{E:Value->Shared->Prop}{s:Shared}{a:Addr}{o:Obj}{g:Array (Int×Value)}{B:Nat}{t:SetTable}
def zkQ(prog:Program)(w:World)(s:Shared)(a:Addr)(g:Array (Int×Value))(Q:Value->Shared->Prop):Prop:=
 ∀(f:Addr) (D:List Addr) (l:Heap) (G:Drawn) (b:List Value) (St:Nat->Heap->Prop),s.heap.objs.size<=f->(∀C:Around,C.handled=none->Walks prog w C f D [f] g.size (fun i v=>b[i]? =some v) St)->St 0 l ->
  (∀c u,s.heap.get? c=some u->l.get? c=some u)->(∀c∈D,c=a\/s.heap.objs.size<=c)->b.Perm (g.toList.map (·.2))->Q (.ref f) { s with heap:=l,drawn:=G }
theorem zc7{Q:Value->Shared->Prop}(b:s.heap.get? a=some o)(I:o.ExactSet)(f:o.data=.set g B t)(l:t.fits g.size=true)(hb:g.size<scanBound)(N:TabOk (QM w) t)(h:zkQ prog w s a g Q):wpAny (model prog w) A (pyIter (.ref a)) Q E s:=by
 have M:s.TypeIs (.ref a) "set" :=⟨_,b,I.1⟩;refine wpAny_pyIter_slot M slot_set_iter (xS slot_set_iter M Jv ?_ (Xp _))
 have lt:=zH b;unfold Builtin.«frozenset.__iter__»;refine zg (show wpAny _ _ (pure a) _ _ _ from zw ?_)
 refine zg (show wpAny _ _ (setEntries a >>= fun x=>pure x.size) _ _ _ from zg (wpAny_setEntries_of b f l (zw ?_)))
 refine zg (ze6 b f l ?_)
 cases H:w.params.followText "set-order" with
 | true=>
  refine zg (zw (zg (wpAny_setEpoch_of b f l (zg (xc (zw ⟨_,rfl, "set_iterator",_,⟨_,zW _ rfl,rfl⟩,jI.lookup,?_⟩))))))
  refine h s.heap.objs.size [s.heap.objs.size,a] _ s.drawn _ _ (zJ _) (fun L D=>zcz D H f l) ⟨zW _ rfl,z7 _ b⟩ (fun c u e=>z7 _ e) (fun c hc=>?_) ((XR _ g).map _)
  rcases qe.mp hc with z | z
  ·rw[z];exact .inr (zJ _)
  ·exact .inl (qD.mp z)
 | false=>
  have U:t.led=true:=by rw[N.led];unfold QM;rw[H];rfl
  cases Y:(!t.plain&&decide (g.size>1)) with
  | false=>
   refine zg (zw (zg (wpAny_setEpoch_of b f l (zg (xc (zw ⟨_,rfl, "set_iterator",_,⟨_,zW _ rfl,rfl⟩,jI.lookup,?_⟩))))))
   refine h s.heap.objs.size [s.heap.objs.size,a] _ s.drawn _ _ (zJ _) (fun L D=>zdv D H Y U N.up f l) ⟨zW _ rfl,z7 _ b⟩ (fun c u e=>z7 _ e) (fun c hc=>?_) (.refl _)
   rcases qe.mp hc with z | z
   ·rw[z];exact .inr (zJ _)
   ·exact .inl (qD.mp z)
  | true=>
   refine zg (Wt _ _ s (by simp) fun O C J=>?_)
   have ln:C.length=g.size:=by have:=J.length_eq;rwa[vO] at this
   refine zg (show wpAny _ _ (newObj (.type "tuple") (.seq (C.map fun(i:Nat)=>rawInt i).toArray)) _ _ _ from xc ?_ (by show(C.map fun(i:Nat)=>rawInt i).toArray.size<=sizeLine;rw[zQ,zn,ln];exact fits_of_scanBound hb))
   have G:=z7 { cls:=.type "tuple",data:=.seq (C.map fun(i:Nat)=>rawInt i).toArray } b
   refine zg (wpAny_setEpoch_of G f l (zg (xc (zw ⟨_,rfl, "set_iterator",_,⟨_,zW _ rfl,rfl⟩,jI.lookup,?_⟩))))
   refine h _ [_,a,s.heap.objs.size] _ O _ _ ?_ (fun L D=>YV (T:=s.heap.objs.size) (ps:=C) D f l (c:=0) (oT:={ cls:=.type "tuple",data:=.seq (C.map fun(i:Nat)=>rawInt i).toArray }) rfl J) ⟨zW _ rfl,z7 _ G,z7 _ (zW _ rfl)⟩ (fun c u e=>z7 _ (z7 _ e)) (fun c hc=>?_) ?_
   ·rw[jV];exact vt _
   ·rcases qe.mp hc with z | z
    ·rw[z,jV];exact .inr (vt _)
    ·rcases qe.mp z with z | z
     ·exact .inl z
     ·rw[qD.mp z];exact .inr (zJ _)
   ·have e:g.toList.map (·.2)=(List.range g.size).map fun j=>(g.getD j (0,.none)).2:=by
     refine List.ext_getElem (by simp) fun j h1 h2=>?_
     simp only[zn,vO,xz] at h1;simp[J5,h1]
    rw[e];exact J.map _
theorem ze9{Q:Bool->Shared->Prop}(c:s.TypeIs (.ref a) "set")(h:Q false s):wpAny (model prog w) A (Builtin.List.listLengthHint (.ref a)) Q E s:=by
 unfold Builtin.List.listLengthHint;refine zg (wpAny_specialOf c PySem.F.slot_set_len.lookup ?_)
 generalize l:("set.__len__" : String)=f;wp_delta
 rw[show splitId f=some ("set", "__len__") from by subst l;decide +kernel]
 subst l;refine zg (Za (T:= "set") (b:=true) c (by rw[isSubtype_type];kernel_rfl) ?_)
 refine wpAny_ite_split (fun z=>absurd z (by decide)) fun _=>wpAny_ite_split (fun _=>zg (Zt c (zw h))) fun z=>absurd (by decide +kernel) z
theorem zgR{b:Array Value}{c:List Value}{n:Nat}(h:ItemsOf (fun i v=>c[i]? =some v) b n)(l:c.length=n):b.toList=c:=by
 refine List.ext_getElem? fun i=>?_
 by_cases f:i<b.size
 ·have e:=vz f
  rw[Zd,e];exact(h.2 i _ e).symm
 ·rw[Wd (by rw[xz];omega),Wd (by have:=h.1;omega)]
theorem zfd{R:Result->Shared->Prop}(hh:A.handled=none)(ho:s.heap.get? a=some o)(G:o.ExactSet)(hd:o.data=.set g B t)(hf:t.fits g.size=true)(hb:g.size<scanBound)(tb:TabOk (QM w) t)(S:Addr)(J:S≠a)(res:Value)(c0:Nat)
  (hS:s.heap.get? S=some { cls:=.type "list",data:=.seq #[] c0 })
  (hR:∀Y O d' c I,(∀b u,b≠S->s.heap.get? b=some u->Y.get? b=some u)->Y.get? S=some { cls:=.type "list",dict:=none,data:=.seq c I,slots:=#[] }->c.toList.Perm (g.toList.map (·.2))->R (.ok (.ret res)) { s with heap:=Y,toks:=O,drawn:=d' }) :
  wpAny (model prog w) A.in1 (Builtin.List.listExtendWith (.ref S) (.ref a) res) (fun T H=>match T with | .done f=>R (.ok f) H | .again I=>I.quiet=true/\codeAny (model prog w) A I R H) (fun e H=>R (.error e) H) s:=by
 have hn:=fits_of_scanBound hb;have hT:s.TypeIs (.ref a) "set" :=⟨_,ho,G.1⟩;have ltS:=zH hS;have af:Builtin.List.listSameRef (.ref S) (.ref a)=false:=by simp[Builtin.List.listSameRef,J]
 have nl:(Value.type "set" == Value.type "list")=false:=by decide
 have nt:(Value.type "set" == Value.type "tuple")=false:=by decide
 unfold Builtin.List.listExtendWith;refine zg (Zt hT ?_)
 simp only[af,nl,nt,Bool.or_false,ZB,if_false];refine zg (zc7 ho G hd hf hb tb fun it fp h1 Q ag St ac W st N U pm=>?_)
 have lo:ag.length=g.size:=by have:=pm.length_eq;rwa[zn,xz] at this
 have L:S∉fp:=fun z=>by
  rcases U S z with q | q
  ·exact J q
  ·exact absurd ltS (Nat.not_lt.mpr q)
 have C:∀(h2:Heap) (c1 O:Nat),St 0 h2->(∀b u,b≠S->s.heap.get? b=some u->h2.get? b=some u)->h2.get? S=some { cls:=.type "list",data:=.seq #[] c1 } ->
   codeAny (model prog w) A (.builtin "list.extend.loop" ⟨[.ref S,.ref it,res],[]⟩) R ⟨h2,s.gens,Q,O,s.os⟩:=by
  intro h2 c1 O ah k2 l;refine codeAny_extend_loopS (W A.in1 hh).toS hn S L res g.size 0 _ #[] c1 rfl (ji _) ah l (ItemsOf.nil _) fun H c I hm a0 ae=>?_
  rw[Moved.eq_with hm];refine hR H.heap H.toks Q c I (fun b u hb e=>hm.heap b u (fun z=>?_) (k2 b u hb e)) a0 (by rw[zgR ae lo];exact pm)
  rcases qe.mp z with q | q
  ·exact hb q
  ·rw[qD.mp q] at e
   exact absurd (zH e) (Nat.not_lt.mpr ac)
 have D:=N S _ hS;have ab:Shared.TypeIs ⟨h1,s.gens,Q,s.toks,s.os⟩ (.ref a) "set" :=⟨_,N a _ ho,G.1⟩;refine zg (xN (ze9 ab ?_))
 refine wpAny_ite_split (fun _=>?_) (fun _=>zw ⟨plainId_quiet zfs _,C h1 c0 _ st (fun b u _ e=>N b u e) D⟩)
 refine zg (vv (zg (show wpAny _ _ (updateSeq S (·.push .none) >>= fun _=>updateSeq S (·.pop)) _ _ _ from zg (Qn D rfl ?_))))
 have l:=vY (Obj.mapSeq (·.push Value.none)) D rfl
 refine Qn (hz:=by seq_fits) l rfl ?_
 have aa:=vY (Obj.mapSeq (·.pop)) l rfl
 have M:∀b u,b≠S->h1.get? b=some u->((h1.update S (Obj.mapSeq (·.push Value.none))).update S (Obj.mapSeq (·.pop))).get? b=some u:=fun b u hb e=>(yI _ _ (z9 hb)).trans ((yI _ _ (z9 hb)).trans e)
 refine zw ⟨plainId_quiet zfs _,C _ _ _ ((W A.in1 hh).frame 0 _ _ st fun b hb u e=>M b u (fun z=>L (z▸hb)) e) (fun b u hb e=>M b u hb (N b u e)) aa⟩
theorem zdh{R:List Value->Shared->Prop}(hh:A.handled=none)(Q:s.heap.get? a=some o)(L:o.ExactSet)(hd:o.data=.set g B t)(hf:t.fits g.size=true)(hb:g.size<scanBound)(tb:TabOk (QM w) t)
  (h:∀C G D T,(∀b u,s.heap.get? b=some u->C.get? b=some u)->T.Perm (g.toList.map (·.2))->R T { s with heap:=C,toks:=G,drawn:=D }):wpAny (model prog w) A (collect (.ref a)) R E s:=by
 have lt:=zH Q;unfold collect;refine zg (wpAny_runValue (codeAny_builtin PySem.F.entry_proto_collect ?_))
 rw[Z4 PySem.F.plain_proto_collect _];refine(show wpAny _ A.in1 (newList [] >>= fun l=>again (.builtin "list.__iadd__" ⟨[l,.ref a],[]⟩)) _ _ s from zg (xc (zw ⟨plainId_quiet PySem.F.plain_list_iadd _,codeAny_builtin PySem.F.entry_list_iadd ?_⟩)))
 rw[Z4 PySem.F.plain_list_iadd _];have Y:(s.heap.push { cls:=.type "list",data:=.seq ([]:List Value).toArray }).get? s.heap.objs.size=some { cls:=.type "list",data:=.seq #[] }:=zW _ rfl;have M:=zfd (A:=A) (w:=w) (prog:=prog) (s:={ s with heap:=s.heap.push { cls:=.type "list",data:=.seq ([]:List Value).toArray } }) (a:=a)
  (R:=fun q N=>∃(C:Heap) (G:Nat) (D:Drawn) (c:Array Value) (H:Nat),q=.ok (.ret (.ref s.heap.objs.size))/\N={ s with heap:=C,toks:=G,drawn:=D }/\(∀b u,s.heap.get? b=some u->C.get? b=some u) /\
   C.get? s.heap.objs.size=some { cls:=.type "list",dict:=none,data:=.seq c H,slots:=#[] }/\c.toList.Perm (g.toList.map (·.2)))
  hh (z7 _ Q) L hd hf hb tb s.heap.objs.size (xK lt) (.ref s.heap.objs.size) 0 Y fun C G D c H k e p=>⟨C,G,D,c,H,rfl,rfl,fun b u O=>k b u (qh (zH O)) (z7 _ O),e,p⟩
 refine qN M (fun J N x=>?_) fun e N x=>?_
 ·cases J with
  | done f=>
   obtain⟨C,G,D,c,H,e,rfl,k,I,p⟩:=x;cases e;exact zg (wpAny_load I (zw (h C G D _ k p)))
  | again c1=>
   refine⟨x.1,codeAny_mono x.2 fun q s2 y=>?_⟩
   obtain⟨C,G,D,c,H,rfl,rfl,k,I,p⟩:=y;exact zg (wpAny_load I (zw (h C G D _ k p)))
 ·obtain⟨_,_,_,_,_,U,_⟩:=x
  cases U
end
section
variable{X:Cx}
def Xj(P:Program)(w:World)(p:Addr)(b:List Key):HO:=.ext fun h=>SetX (zO P w) (QM w) h p b
inductive QI(P:Program)(w:World)(c:List V)(H:Hp)(Q:VK):Prop
 | mk (a:Addr) (b:List Key) (_:c=[.ref a]) (_:H a=some (.lst (b.map kV))) (_:b.length<=4000) (_:∀p,H p=none->Q (.ref p) (upd H p (Xj P w p (vZ [] b)))):QI P w c H Q
theorem zdk(E:X.A.handled=none):jY X (.type "set") (QI X.prog X.w):=by
 intro A s σ H xs us Q I r h;obtain⟨a,c,rfl,hx,T,q⟩:=h;obtain⟨u,rfl,M⟩:=ua r;cases(show u=Value.ref a from M)
 obtain⟨zz,J,n,b,D⟩:=(show ObjOk X.prog X.w H s.heap a (.lst (c.map kV)) from I.hok a _ hx)
 have ln:=b.length;rw[zn] at ln;have G:H s.heap.objs.size=none:=I.hok.fresh (zJ _);have U:scanBound=4096:=rfl;refine zdj (knd:=zO X.prog X.w) (keys:=c) E D (by simp[ln]) (by simp;omega) (fun j u e=>?_) fun O N B k=>?_
 ·rw[List.getElem?_toArray] at e
  obtain⟨x,g,f⟩:=Vals.at b e;rw[zZ] at g;obtain⟨w,C,rfl⟩:=qE.mp g;refine⟨w,C,wV f,?_⟩
  cases w with
  | inl i=>obtain⟨t,rfl⟩:=f;rfl
  | inr i=>obtain⟨t,rfl⟩:=f;rfl
 ·refine⟨.ref s.heap.objs.size,_,I.laid (a:=s.heap.objs.size) (o:=Xj X.prog X.w s.heap.objs.size (vZ [] c)) (t':=N) k (zJ _) ⟨B,?_,fun h1 h2 x e=>x.at e⟩,rfl,q _ G⟩
  obtain⟨o,e,_⟩:=B;exact⟨o,e⟩
end
theorem Inv.drawn{X:Cx}{c:List (Addr×Obj)}{σ:St}{H:Hp}{s:Shared}(I:Inv X c σ H s)(d:Drawn):Inv X c σ H { s with drawn:=d }:=
 I.call' (s':={ s with drawn:=d }) (ch:=[]) rfl Un.refl I.hok I.bare fun b hb=>(nomatch hb)
theorem Je{α β γ:Type}{R:α->γ->Prop}{f:β->γ}:∀{b:List α} {c:List β},Paired (fun x y=>R x (f y)) b c->Paired R b (c.map f)
 | _,_,.nil=>.nil
 | _,_,.cons h t=>.cons h (Je t)
theorem zeh:∀{ks:List Key},(∀k∈ks,∃i,k=Sum.inr i)->∃b:List Str,ks=b.map Sum.inr
 | [],_=>⟨[],rfl⟩
 | k::ks,h=>by
  obtain⟨i,e⟩:=h k (by simp)
  obtain⟨b,e2⟩:=zeh (ks:=ks) fun c hk=>h c (jS _ hk)
  exact⟨i::b,by rw[e,e2];rfl⟩
theorem Qv{P:Program}{w:World}:∀{c:List Str} {b:List Value},Paired (fun k v=>(zO P w).is k v=true) (c.map Sum.inr) b->StrsAre b c
 | [],b,h=>by cases h;exact .nil
 | z::c,b,h=>by
  cases h with
  | cons r t=>
   obtain⟨f,rfl⟩:=Yp r;exact .cons z f (Qv t)
theorem VA{α β:Type}{f:α->β}{l:List α}(h:(l.map f).Nodup):l.Nodup:=by
 have c:l.Pairwise fun a b=>f a≠f b:=V3.mp h
 exact c.imp fun n e=>n (by rw[e])
section
variable{X:Cx}
theorem zcK{C:List (Addr×Obj)}{σ:St}{H:Hp}{s:Shared}{a:Addr}{A:List Key}{E:Value->Shared->Prop}{Q:Value->Shared->Prop}(hh:X.A.handled=none)(I:Inv X C σ H s)(hx:H a=some (Xj X.prog X.w a A))
  (h:∀(c:Heap) (M:Nat) (G:Drawn) (g:List Value) (B:List Key),B.Perm A->A.Nodup->Paired (fun k v=>(zO X.prog X.w).is k v=true) B g->(∀b u,s.heap.get? b=some u->c.get? b=some u) ->
   wpAny (model X.prog X.w) X.A.in1.in1 (Builtin.«list.sort» ⟨[.ref c.objs.size],[]⟩) (fun l T=>∃v,l=.done (.ret v)/\Q (.ref c.objs.size) T) E { s with heap:=c.push (seqObj "list" g.toArray 0),toks:=M,drawn:=G }) (a0:A.length<64) :
  wpAny (model X.prog X.w) X.A (call (.builtin "sorted") [.ref a]) Q E s:=by
 obtain⟨sx,_,_⟩:=(show ObjOk X.prog X.w H s.heap a (Xj X.prog X.w a A) from I.hok a _ hx)
 obtain⟨o,ho,U,ep,t,J,hd,N,nd,hb,hf,tb⟩:=sx;have le:=N.len;rw[xz] at le;obtain⟨_,aa,p1,pr⟩:=N;have sz:sizeLine=16777216:=sizeLine_eq;refine zaT kind_sorted plain_sorted entry_sorted (args_sorted1 _) ?_
 delta Builtin.«sorted»;refine zg (m:=checkCount "sorted" 1 1 _) (zw (zg (zdh hh ho J hd hf hb tb fun c M G g w O=>?_)))
 obtain⟨L,p2,pr2⟩:=Qz O (Je (R:=fun k v=>(zO X.prog X.w).is k v=true) (f:=Prod.snd) pr)
 have lv:g.length=U.size:=by have:=O.length_eq;rwa[zn,xz] at this
 refine zg (wpAny_newList ?_ (by omega))
 have D:(c.push (seqObj "list" g.toArray 0)).get? c.objs.size=some (seqObj "list" g.toArray 0):=zW _ rfl;refine zg (xN (xS slot_list_sort ⟨_,D,rfl⟩ entry_list_sort (qN (h c M G g L (p2.trans p1) nd pr2 w) (fun l T x=>?_) fun _ _ e=>e) (args_list_sort _)))
 obtain⟨v,Y,q⟩:=x;exact⟨v,Y,zw ⟨_,rfl,q⟩⟩
theorem Yn{g:List (Addr×Obj)}{σ:St}{H:Hp}{s:Shared}{f:Heap}{vs:List Value}{out:Array Value}{zs:List V}{tk:Nat}{d':Drawn}(I:Inv X g σ H s)(c:∀b u,s.heap.get? b=some u->f.get? b=some u)(C:Vals zs out.toList)(hz:zs.length<=sizeLine) :
  Inv X g σ (upd H f.objs.size (.lst zs)) { s with heap:=sortedHeap (f.push (seqObj "list" vs.toArray 0)) f.objs.size vs out,toks:=tk,drawn:=d' }/\H f.objs.size=none:=by
 have w:(f.push (seqObj "list" vs.toArray 0)).get? f.objs.size=some (seqObj "list" vs.toArray 0):=zW _ rfl;have l:s.heap.get? f.objs.size=none:=by
  cases z:s.heap.get? f.objs.size with
  | none=>rfl
  | some o=>exact absurd (zH (c _ _ z)) (vw _)
 obtain⟨A,B⟩:=sortedHeap_at (out:=out) w;refine⟨(I.drawn d').laidN (a:=f.objs.size) (o:=.lst zs) (t':=tk) (fun b o e=>?_) l ⟨hz,out.toList,A,C,by rw[B]⟩,I.hok.none_of l⟩
 have D:=zH (c b o e);rw[sortedHeap_old (qh D) (by rw[jV];exact wB D)]
 exact z7 _ (c b o e)
inductive ye(P:Program)(w:World)(f:List V)(H:Hp)(Q:VK):Prop
 | mk (a:Addr) (c:List Str) (_:f=[.ref a]) (_:H a=some (Xj P w a (vZ [] (c.map Sum.inr)))) (_:c.length<64) (_:∀(p:Addr) (b:List Str),H p=none->sortedS b=true->b.Nodup->(∀j,j∈b↔j∈c)->Q (.ref p) (upd H p (.lst (b.map V.str)))):ye P w f H Q
theorem Xl(Y:X.A.handled=none):jY X (.builtin "sorted") (ye X.prog X.w):=by
 intro N s σ H xs us Q I r h;obtain⟨a,M,rfl,hx,U,q⟩:=h;obtain⟨u,rfl,ru⟩:=ua r;cases(show u=Value.ref a from ru)
 have lk:=Q0 (M.map Sum.inr:List Key) [];rw[Zv,zn] at lk;have sz:sizeLine=16777216:=sizeLine_eq;refine zcK Y I hx (fun f E l b A C nd O c=>?_) (by omega)
 have mem:∀k,k∈A↔k∈M.map Sum.inr:=fun k=>by rw[C.mem_iff,Wz];simp
 obtain⟨G,T⟩:=zeh fun k hk=>by
  obtain⟨i,_,e⟩:=zN.mp ((mem k).mp hk);exact⟨i,e.symm⟩
 subst T;have g:(f.push (seqObj "list" b.toArray 0)).get? f.objs.size=some (seqObj "list" b.toArray 0):=zW _ rfl;have lz:=C.length_eq;rw[zn] at lz;have lv:b.length=G.length:=by have:=JM O;rw[zn] at this;omega
 have w:=Qv O;refine list_sort_treeK strKind_oneLt (s:={ s with heap:=f.push (seqObj "list" b.toArray 0),toks:=E,drawn:=l }) g w.keysOf (fun v1 v2 rest e=>keyKind_strs (by rw[<- e];exact w)) (by omega) fun D b1 b2=>⟨_,rfl,?_⟩
 obtain⟨L,a1,a2,a3⟩:=sorted_out_str w b1 b2;have B:G.Nodup:=VA (C.nodup_iff.mpr nd);obtain⟨J,hn⟩:=Yn (vs:=b) (out:=(arrOf D).map (·.2)) (zs:=L.map V.str) (tk:=E) (d':=l) I c (Xv a1) (by rw[zn,a2.length_eq];omega)
 refine⟨.ref f.objs.size,_,J,rfl,q _ L hn a3 (a2.nodup_iff.mpr B) fun j=>?_⟩
 rw[a2.mem_iff];have:=mem (Sum.inr j);simpa using this
end
theorem zgE(l:Addr)(f:Array Value)(n:Nat)(b:Addr)(c:Array Value)(h0:¬(!f.isEmpty&&Builtin.List.listTooLong (f.size+c.size))=true)(h1:f.size<=sizeLine)(h2:f.size+c.size<=sizeLine+1) :
  Meets (Builtin.«list.extend» ⟨[.ref l,.ref b],[]⟩) (fun _ R s=>s.heap.get? l=some { cls:=.type "list",dict:=none,data:=.seq f n,slots:=#[] }/\IsTup s.heap b c/\R (.ok (.ret Value.none)) { s with heap:=s.heap.update l (Obj.mapSeq fun x=>x++c),toks:=s.toks }):=
 .of_wp fun E w A R s h=>by
  obtain⟨N,g,d,T,os⟩:=s;obtain⟨D,⟨⟨cls,G,data,Q⟩,hb,hc,O,C⟩,h⟩:=h;simp only at hc C;subst hc C;have H:=AutoSeq1.idx_int;have I:=AutoSeq1.sub_tuple_tuple;have J:=AutoSeq1.sub_list_list;have L:=AutoSeq1.sub_tuple_list;have M:=AutoSeq1.sub_list_tuple
  have hz:(f++c).size<=sizeLine+1:=by rw[Array.size_append];exact h2
  wp_walk using (Qn D rfl (hz:=h1) (_hz':=hz)),AutoSeq1.wpAny_loadPart' D,AutoSeq1.wpAny_loadPart' hb
  exact⟨_,rfl,h⟩
section
variable{X:Cx}{G B D:Expr}{C J:List Expr}{scope:Scope}{M:Pos}{wi U:TI}{tf N:TT}{te:TE}{x y z u:Str}{px py pz pu tp O:Pos}{Y L:Nat}
inductive Vh(K:W.Frag)(x:V)(y:V)(H:Hp)(Q:VK):Prop
 | mk (a b:Addr) (s l:List Int) (_:x=.ref a) (_:y=.ref b) (_:SqL K H a (s.map V.int)) (_:SqL K H b (l.map V.int)) (_:Q (.bl (decide (s=l))) H):Vh K x y H Q
theorem zge(hu:X.A.units<cLine):OpR X (compareOp .Eq) (Vh X.K):=by
 intro ac s σ H x y v u Q I rx ry h;obtain⟨a,b,ns,ms,rfl,rfl,hx,hy,q⟩:=h;cases rx;cases ry;obtain⟨l,r1,p1,z1⟩:=I.list hx;obtain⟨ab,r2,p2,z2⟩:=I.list hy;have l1:=r1.length;have l2:=r2.length;rw[zn] at l1 l2;by_cases hl:ns.length=ms.length
 ·refine zaC (e:=fun j=>decide (ns.getD j 0=ms.getD j 0)) p1.isList p2.isList (by rw[zQ,zQ];omega) hu (fun j h1 h2=>?_) _ _ _ _ ⟨.bl _,H,I,rfl,?_⟩
  ·have a0:j<ns.length:=by rw[zQ] at h1;omega
   have aa:j<ms.length:=by omega
   obtain⟨w1,e1,q1⟩:=r1.get (i:=j) (x:=.int ns[j]) (by simp[a0])
   obtain⟨w2,e2,q2⟩:=r2.get (i:=j) (x:=.int ms[j]) (by simp[aa])
   have g1:l.toArray[j]=w1:=by simpa using (zC.mp e1).2
   have g2:ab.toArray[j]=w2:=by simpa using (zC.mp e2).2
   rw[g1,g2,show ns.getD j 0=ns[j] by simp[a0],show ms.getD j 0=ms[j] by simp[aa]]
   exact Ju q1 q2 rfl rfl
  ·have e:((List.range l.toArray.size).all fun j=>decide (ns.getD j 0=ms.getD j 0))=decide (ns=ms):=by
    rw[zQ,<- l1,xw,vN,xx];constructor
    ·intro h
     refine List.ext_getElem hl fun j h1 h2=>?_
     have:=jy (h j (xR.mpr h1));simpa [h1,h2] using this
    ·intro h j _
     rw[h];exact zV rfl
   rw[e];exact q
 ·rw[jd (fun e=>hl (by rw[e]))] at q
  exact SeqAt.RcAt.lists_lengths p1.isList p2.isList (by rw[zQ,zQ];simpa using fun e=>hl (by omega)) hu _ _ _ _ ⟨.bl _,H,I,rfl,q⟩
inductive zhm(K:W.Frag)(x:V)(vs:List V)(H:Hp)(Q:VK):Prop
 | mk (l b s I:_) (_:x=.ref l) (_:vs=[.ref b]) (_:H l=some (.lst s)) (_:SqT K H b I) (_:s.length+I.length<=sizeLine) (_:Q .non (upd H l (.lst (s++I)))):zhm K x vs H Q
theorem zbI:MtM X "list.extend" (zhm X.K):=by
 intro ac s σ H x vs v us Q I rx rv h;obtain⟨l,b,xs,zs,rfl,rfl,hH,hB,hz,q⟩:=h;cases rx;obtain⟨u,rfl,ru⟩:=rv.one;cases ru;obtain⟨z,aa,n,r,hl,e⟩:=I.lstM hH;obtain⟨a0,r2,p2,z2⟩:=I.tuple hB;have l2:=r2.length;have sz:aa.toArray.size+a0.toArray.size<=sizeLine:=by rw[zQ,zQ];omega
 refine call_meets F.slot_list_extend ⟨_,e,rfl⟩ F.entry_list_extend (F.args_list_extend_2 _ _) (zgE l aa.toArray n b a0.toArray (by rw[Jg sz,zat];exact qR) (by rw[zQ];omega) (by omega)) ⟨e,p2,?_⟩
 exact⟨.non,_,I.lset (its':=aa++a0) hH e (by simp) (r.append r2) (by rw[qo];omega),rfl,q⟩
variable{A e:Expr}{f:List Expr}{to:TE}{E:TA}{g:Str}{w c:Pos}{T id:String}{r:V->List V->Hp->VK->Prop}
theorem zib{K:W.Frag}(hK:X.K=K)(pa:PlainAttrs T)(I:Slot T g id)(Q:typeOf (.builtin id)=pure (.type "method_descriptor"))(hm:MtR X id r)(ho:PE X A to)(ha:PA X (e::f) E)
  (l:attributeBase A g X.env (eval A X.env)=eval A X.env:=by rfl)
  (H:((backTo c (starEach (e::f) X.env)).all (fun x=>!x.1)&&(backToKw c (keywordEach [] X.env)).all (fun x=>x.1.isSome)&&decide ((e::f).length+([]:List Keyword).length+(if([]:List Keyword).isEmpty then 0 else 1)<30))=true:=by rfl)
  (s:(w.endLine==c.line)=true:=by rfl) (hs:starEach (e::f) X.env=(false,eval e X.env)::starEach f X.env:=by rfl) (b:(backTo c (starEach f X.env)).any (·.1)=false:=by rfl) :
  PE X (.Call (.Attribute A g w) (e::f) [] c) (tBM K T r to E):=by
 subst hK;exact xE pa I Q hm ho ha l H s hs b
end
end L2
namespace L2
open PySem PySem.Spec PyProof.Rows PySem.W
section
variable{n:Nat}{r:Nat->Nat}
structure Gd(n:Nat)(p:Array Nat):Prop where
 pm:p.toList.Perm (List.range n)
variable{b:Nat->Nat->Bool}(c:∀i j,i<n->j<n->r i=r j->i=j)(hb:∀i j,i<n->j<n->b i j=decide (r i<r j))
include c hb
end
end L2
namespace L2
open PySem PySem.Spec PyProof.Rows PySem.W
section
variable{b:Program}{w:World}{A:Around}{E:Value->Shared->Prop}{s:Shared}
end
end L2
namespace L2
open PySem PySem.Spec PyProof.Rows PySem.W
def ltS(a b:Str):Bool:=decide (a.cps.toList<b.cps.toList)
section
variable{X:Cx}{b:List (Addr×Obj)}{σ:St}{s:Shared}
end
end L2
namespace L2
open PySem PySem.Spec PyProof.Rows PySem.W
section
variable{X:Cx}
def za1(p d:Addr):HO:=.ext fun h=>h.IsItemsView p d
end
end L2
namespace L2
open PySem PySem.Spec PyProof.Rows
section
variable{X:Cx}
variable{c b:Expr}{f:List Expr}{scope:Scope}{g:Pos}{E:TI}{C:TT}{B:TE}{x y z:Str}{s w A D:Pos}{l:Nat}
end
section
variable{X:Cx}
end
section
variable{X:Cx}{c A b:Expr}{f:List Expr}{scope:Scope}{l:Pos}{B:TI}{g:TG}{w:TT}{s:TE}{x:Str}
end
end L2
namespace L2
open PySem PySem.Spec PyProof.Rows PySem.W
section
variable{b:Program}{w:World}{A:Around}{E:Value->Shared->Prop}{s:Shared}
end
end L2
namespace L2
open PySem PySem.Spec PyProof.Rows PySem.W
section
variable{X:Cx}
def zhw(X:Cx)(f:Value)(l:List (Str×Value))(r:List V->Hp->VK->Prop):Prop:=
 ∀(b:List (Addr×Obj)) (s:Shared) (σ:St) (H:Hp) (g:List V) (c:List Value) (Q:VK),Inv X b σ H s->Vals g c->r g H Q->wpAny (model X.prog X.w) X.A (call f c l) (EP X b σ Q) X.xe s
end
end L2
namespace L2
open PySem PySem.Spec PyProof.Rows
section
variable{X:Cx}
theorem JC{K:W.Frag}(h:X.K=K)(hc:X.calm=true):jY X (.builtin "any") (yO K):=by subst h;exact X6 hc
theorem Xo{K:W.Frag}(h:X.K=K):jY X (.type "list") (vR K):=by
 rw[<- h];exact wN
end
end L2
namespace PySem
section
variable{b:Program}{w:World}{A:Around}{d:Addr}{f:Array DictEntry}{c:Nat}
end
end PySem
namespace L2
open PySem PySem.Spec PyProof.Rows
section
variable{X:Cx}
end
section
variable{X:Cx}
variable{o e:Expr}{g:List Expr}{to:TE}{t:TA}{f:Str}{b c:Pos}{id:String}{r:V->List V->Hp->VK->Prop}
end
end L2
namespace L2
open PySem PySem.Spec PyProof.Rows PySem.W
section
variable{X:Cx}
def zk1(f:TE):TE:=fun σ H R=>f σ H fun x c=>∃d b,x=.ref d/\c d=some (.dK b)/\∀o,R x (upd c d (.frz o (.dK b)))
theorem zh9{e:Expr}{w:TE}(D:PE X e w):PE X e (zk1 w):=by
 intro f s σ H R I h;refine thn (D f s σ H _ I h) fun v s1 ⟨x,A,g,G,E⟩=>?_
 obtain⟨d,c,e,l,q⟩:=E;subst e;obtain⟨z,y,J,r,o,C,B,h1,h2⟩:=(show ObjOk X.prog X.w A s1.heap d (.dK c) from g.hok d _ l)
 refine⟨.ref d,_,g.write (s:=s1) (t':=s1.toks) (h':=s1.heap) (x:=d) (e:=d) (o:=.frz o (.dK c)) (by rw[l];exact True.intro) (.inl rfl) (fun b u _ e=>e) ⟨o,h1⟩ ?_,G,q o⟩
 exact⟨h1,z,y,J,r,o,C,B,h1,h2⟩
inductive zbu(x:V)(c:List V)(H:Hp)(Q:VK):Prop
 | mk (d o b:_) (_:x=.ref d) (_:c=[]) (_:H d=some (.frz o (.dK b))) (_:∀p,H p=none->Q (.ref p) (upd H p (za1 p d))):zbu  x c H Q
theorem zcZ:MtM X "dict.items" zbu:=by
 intro f s σ H x g v J Q I E D h;obtain⟨d,o,B,rfl,rfl,l,q⟩:=h;cases E;cases D;obtain⟨L,lo,g,C,c⟩:=yw I.hok (.inr ⟨o,l⟩);have w:H s.heap.objs.size=none:=I.hok.fresh (zJ _);refine call_meetsIn PySem.F.slot_dict_items c.typeIs PySem.F.entry_dict_items (PySem.F.args_dict_items_1 _) (meets_dict_items (zO X.prog X.w) d lo) ⟨⟨g,c⟩,?_⟩
 exact⟨.ref s.heap.objs.size,_,I.laid (a:=s.heap.objs.size) (o:=za1 s.heap.objs.size d) (t':=s.toks) (fun b u e=>z7 _ e) (zJ _) ⟨⟨_,zW _ rfl,rfl,rfl⟩,⟨_,zW _ rfl⟩,fun h1 h2 x e=>let ⟨o,A,r⟩:=x;⟨o,e o A,r⟩⟩,rfl,q _ w⟩
end
def ItV(d:Addr)(o:Obj)(b:List (Key×V)):It:=
 ⟨fun i H=>H d=some (.frz o (.dK b))/\i<b.length,fun i H x c=>∃T k v,x=.ref T/\H T=none/\c=upd H T (.tup [kV k,v])/\b[i]? =some (k,v),fun i H=>H d=some (.frz o (.dK b))/\b.length<=i⟩
theorem zfc{P:Program}{w:World}{H:Hp}{h:Heap}{d:Addr}{o:Obj}{b:List (Key×V)}{g:Array DictEntry}{f:Nat}(ok:HOk P w H h)(e:H d=some (.frz o (.dK b)))(s:o.data=.dict g f) :
  (d==sysModules)=false/\∃c,KV b c/\h.DictAt (zO P w) d c f:=by
 obtain⟨e1,z,y,c,r,G,B,A,h1,h2,l,C,D,E⟩:=(show ObjOk P w H h d (.frz o (.dK b)) from ok d _ e)
 rw[e1] at h1;cases h1;rw[s] at l;cases l;exact⟨y,c,r,o,g,e1,h2,s,C,D,E⟩
theorem zcF{P:Program}{w:World}{K:W.Frag}{l:List Expr}{kk:Nat}{aa:Pos}(d c:Addr)(o:Obj)(f:List (Key×V))(es:Array DictEntry)(ep:Nat)(he:o.data=.dict es ep) :
  ZE P w K (.Tuple l kk aa) (ItV d o f) [c] c (fun i h=>∃ok ov,IsItemIter h c d i f.length ep ok ov) where
 mem:=by simp
 obj:=fun i h st b hb=>by
  have e:b=c:=by simpa using hb
  subst e;obtain⟨_,_,st⟩:=st;exact⟨_,st,fun v z=>nomatch z⟩
 keep:=fun i h M st k=>let ⟨a,b,st⟩:=st;⟨a,b,k c (by simp) _ st⟩
 item:=by
  intro X O hw N hc i C s σ H E I D st Y;subst O hw N;obtain⟨T,hi⟩:=Y;obtain⟨ok,ov,st⟩:=st;obtain⟨lo,vs,r,G⟩:=zfc I.hok T he;have ln:=r.length;obtain⟨⟨k,v⟩,hx⟩:∃p,f[i]? =some p:=⟨f[i],by simp[hi]⟩
  obtain⟨⟨k',u⟩,hy⟩:∃p,vs[i]? =some p:=⟨vs[i]'(by omega),by simp⟩
  obtain⟨p',e6,J,L⟩:=KV.get r hy;rw[hx] at e6;cases e6;have J:k=k':=J;subst J;have L:RelV v u:=L;rw[ln] at st;refine wpAny_pyNext_items_item st G hy fun a0 M hk A hT ab g=>?_
  refine⟨_,rfl,wpAny_letOwnedTupleGo_items A fun h2 U B=>?_⟩
  have eT:s.heap.objs.size≠c:=xK (zH st);have k2:∀b o,b∉[c]->s.heap.get? b=some o->h2.get? b=some o:=fun b o hb q=>by
   have n1:b≠c:=fun z=>hb (by simp[z])
   exact(B.2 b n1).trans (g b o n1 q)
  refine⟨.ref s.heap.objs.size,upd H s.heap.objs.size (.tup [kV k,v]),?_,rfl,⟨_,k,v,rfl,I.hok.fresh (zJ _),rfl,hx⟩,⟨_,_,by rw[ln];exact U⟩,fun b hb=>?_⟩
  ·exact QS (s:=s) (h':=h2) (t':=s.toks) (its:=[a0,u]) I D (zJ _) k2 (by rw[sizeLine_eq];exact(by decide:2<=16777216)) (.cons (Yp hk) (.cons L .nil)) (TupX.by ((B.2 _ eT).trans hT))
  ·have Q:b<s.heap.objs.size:=by
    rw[qD.mp hb];exact zH st
   rw[zp (qh Q)];exact(D b hb).1
 done:=by
  intro X O hw N hc i C s σ H E I D st Y;subst O hw N;obtain⟨T,hi⟩:=Y;obtain⟨ok,ov,st⟩:=st;obtain⟨lo,vs,r,G⟩:=zfc I.hok T he;have ln:=r.length;obtain⟨f0,f1,f2,f3,f4,f5⟩:=D c (by simp)
  rw[ln] at st;exact wpAny_pyNext_items_end (I.ok.hd hc) st G (by simp;omega) fun M eb=>⟨rfl,I.turned (t':=s.toks) (fun b o hb e=>eb b o hb e) f0 f1 f3 f4 f5⟩
 self:=fun _ _ _ _ _ st h=>let ⟨_,_,st⟩:=st;kcp_self st h
section
variable{X:Cx}
def zkq(f:TE):TI:=fun σ H R=>f σ H fun x c=>∃p d o b,x=.ref p/\c p=some (za1 p d)/\c d=some (.frz o (.dK b))/\R (ItV d o b) c
theorem zf5{l:Expr}{E:TE}{g:List Expr}{Q:Nat}{tp:Pos}(N:PE X l E):PI X (.Tuple g Q tp) l (zkq E):=by
 intro w s σ H R I h;refine thn (N w s σ H _ I h) fun v s1 ⟨x,A,f,Y,U⟩=>?_
 obtain⟨p,d,o,c,e,O,M,q⟩:=U;subst e;cases Y;obtain⟨hv,_,_⟩:=(show ObjOk X.prog X.w A s1.heap p (za1 p d) from f.hok p _ O)
 obtain⟨e1,z,y,vs,r,o',C,B,h1,h2,D,G,J,L⟩:=(show ObjOk X.prog X.w A s1.heap d (.frz o (.dK c)) from f.hok d _ M)
 rw[e1] at h1;cases h1;have ln:=r.length;refine wpAny_pyIter_items (knd:=zO X.prog X.w) (kvs:=vs) (ep:=B) hv ⟨o,C,e1,h2,D,G,J,L⟩ ?_
 refine⟨s1.heap.objs.size,[s1.heap.objs.size],_,_,A,rfl,f.kept (t':=s1.toks) (fun b o e=>z7 _ e),zcF d _ o c C B D,⟨.none,.none,by rw[ln];exact zW _ rfl⟩,fun b hb=>?_,q⟩
 have e:b=s1.heap.objs.size:=by simpa using hb
 subst e;exact f.fpOk (zJ _) (f.hok.fresh (zJ _))
end
theorem zgw{d:Addr}{o:Obj}{kvs:List (Key×V)}{n:Nat}{g:TG}{J:TT}{I:TE}{A:St}{R:List V->Hp->Prop}{H:Hp}(Pv:Nat->List V->Hp->Prop)(h0:Pv 0 [] H)
  (h1:∀i c H,Pv i c H->H d=some (.frz o (.dK kvs)))
  (hs:∀i k v c H T,kvs[i]? =some (k,v)->Pv i c H->H T=none->g (.ref T) A (upd H T (.tup [kV k,v])) fun l D=>l.drop n=A.drop n/\J l D fun b s=>if b=true then I l s fun v E=>c.length<sizeLine/\Pv (i+1) (c++[v]) E else Pv (i+1) c s)
  (N:∀c H,Pv kvs.length c H->c.length<=sizeLine/\R c H) :
  ∃W:Nat->Nat->List V->Hp->Prop,(∃m,W 0 m [] H)/\∀i m c f,W i m c f ->
   ((ItV d o kvs).stop i f/\c.length<=sizeLine/\R c f) \/
   ((ItV d o kvs).go i f/\∃M:List V->Hp->Prop,(∀c B,M c B->∃G,G<m/\W (i+1) G c B)/\∀x C,(ItV d o kvs).yld i f x C->g x A C fun l D=>l.drop n=A.drop n/\J l D fun b s=>
    if b=true then I l s fun y E=>c.length<sizeLine/\M (c++[y]) E else M c s):=by
 refine⟨fun i m c f=>m=kvs.length-i/\i<=kvs.length/\Pv i c f,⟨_,rfl,ji _,h0⟩,?_⟩
 rintro i m c f ⟨rfl,hi,p⟩;by_cases w:i<kvs.length
 ·refine .inr ⟨⟨h1 i c f p,w⟩,Pv (i+1),fun Y B O=>⟨_,by omega,rfl,w,O⟩,fun x C y=>?_⟩
  obtain⟨T,k,v,e1,L,e2,y⟩:=y;subst e1 e2;exact hs i k v c f T y p L
 ·have e:i=kvs.length:=by omega
  subst e;obtain⟨Q,U⟩:=N c f p;exact .inl ⟨⟨h1 _ c f p,zJ _⟩,Q,U⟩
end L2
namespace L2
open PySem PySem.Spec PyProof.Rows PySem.W
section
variable{X:Cx}
end
end L2
namespace L2
open PySem PySem.Spec PyProof.Rows PySem.W
section
variable{X:Cx}
def QX(p d:Addr):HO:=.ext fun h=>h.IsValuesView p d
inductive zhj(x:V)(c:List V)(H:Hp)(Q:VK):Prop
 | mk (d b:_) (_:x=.ref d) (_:c=[]) (_:Rd H d (.dK b)) (_:∀p,H p=none->Q (.ref p) (upd H p (QX p d))):zhj  x c H Q
theorem zcY:MtM X "dict.values" zhj:=by
 intro f s σ H x g v J Q I E D h;obtain⟨d,B,rfl,rfl,l,q⟩:=h;cases E;cases D;obtain⟨L,lo,g,C,c⟩:=yw I.hok l;have w:H s.heap.objs.size=none:=I.hok.fresh (zJ _);refine call_meetsIn PySem.F.slot_dict_values c.typeIs PySem.F.entry_dict_values (PySem.F.args_dict_values_1 _) (meets_dict_values (zO X.prog X.w) d lo) ⟨⟨g,c⟩,?_⟩
 exact⟨.ref s.heap.objs.size,_,I.laid (a:=s.heap.objs.size) (o:=QX s.heap.objs.size d) (t':=s.toks) (fun b u e=>z7 _ e) (zJ _) ⟨⟨_,zW _ rfl,rfl,rfl⟩,⟨_,zW _ rfl⟩,fun h1 h2 x e=>let ⟨o,A,r⟩:=x;⟨o,e o A,r⟩⟩,rfl,q _ w⟩
inductive Z8(c:List V)(H:Hp)(Q:VK):Prop
 | mk (a d:Addr) (b:List (Key×V)) (_:c=[.ref a]) (_:H a=some (QX a d)) (_:Rd H d (.dK b)) (_:∀p,H p=none->Q (.ref p) (upd H p (.lst (b.map (·.2))))):Z8 c H Q
theorem zao(O:X.A.handled=none):jY X (.type "list") (Z8):=by
 intro D s σ H xs us Q I r h;obtain⟨a,d,l,rfl,N,hx,q⟩:=h;obtain⟨u,rfl,Y⟩:=ua r;cases(show u=Value.ref a from Y)
 obtain⟨hv,_,_⟩:=(show ObjOk X.prog X.w H s.heap a (QX a d) from I.hok a _ N)
 obtain⟨zz,hd,vs,A,J⟩:=yw I.hok hx;obtain⟨C,G⟩:=J.dictAt;have ln:=A.length;refine PySem.W.kdl_call (PySem.W.kdl_values (prog:=X.prog) (w:=X.w) (knd:=zO X.prog X.w) (r:=a) (d:=d) (kvs:=vs) (ep:=C)) O ⟨hv,G⟩ (by omega) fun h' tk b c g B f=>?_
 have T:H s.heap.objs.size=none:=I.hok.fresh (zJ _);refine⟨.ref s.heap.objs.size,_,I.laid (a:=s.heap.objs.size) (o:=.lst (l.map (·.2))) (t':=tk) g (zJ _) ⟨by rw[zn];exact zz,b.toList,c,Vi ?_ ?_,by rw[B]⟩,rfl,q _ T⟩
 ·have z:=f.1
  have y:b.toList.length=b.size:=xz;rw[zn];omega
 ·intro j u e
  rw[Zd] at e;obtain⟨k,e1⟩:=f.2 j u e;obtain⟨p,L,_,M⟩:=KV.get A e1;exact⟨p.2,by rw[zZ,L];rfl,M⟩
end
end L2
namespace L2
open PySem PySem.Spec PyProof.Rows PySem.W
section
variable{c:Program}{w:World}{A:Around}{E:Value->Shared->Prop}{s:Shared}
inductive zdr(c:Program)(w:World)(A:Around)(s:Shared):List Value->List Value->Bool->Prop
 | nil:zdr c w A s [] [] false
 | nl {y l}:zdr c w A s [] (y::l) true
 | ln {x f}:zdr c w A s (x::f) [] false
 | eq {x y f l b} (h:∀(Q:Bool->Shared->Prop) E,Q true s->wpAny (model c w) A (eqBool x y) Q E s) (t:zdr c w A s f l b):zdr c w A s (x::f) (y::l) b
 | ne {x y f l b} (h:∀(Q:Bool->Shared->Prop) E,Q false s->wpAny (model c w) A (eqBool x y) Q E s) (g:∀(Q:Value->Shared->Prop) E,Q (.bool b) s->wpAny (model c w) A (richCompare .Lt x y) Q E s):zdr c w A s (x::f) (y::l) b
theorem eq_int(x y:Int)(t u:Tok){Q:Bool->Shared->Prop}(h:Q (decide (x=y)) s):wpAny (model c w) A (eqBool (.int x t) (.int y u)) Q E s:=by
 refine(zO c w).eqBool (a:=Sum.inl x) (b:=Sum.inl y) (wV ⟨t,rfl⟩) (wV ⟨u,rfl⟩) ?_
 rw[show decide ((Sum.inl x:Key)=Sum.inl y)=decide (x=y) from decide_eq_decide.mpr ⟨fun z=>x6 z,fun z=>by rw[z]⟩]
 exact h
theorem zgt(x y:Int)(t u:Tok){Q:Value->Shared->Prop}(h:Q (.bool (decide (x<y))) s):wpAny (model c w) A (richCompare .Lt (.int x t) (.int y u)) Q E s:=
 richCompare_gives (op:=.Lt) (typeIs_int s _ t) (typeIs_int s _ u) F.slot_int_lt F.entry_int_lt (F.args_int_lt_2 _ _) (gives_int_lt _ _ t u) (fun x=>nomatch x) h
end
section
variable{b:Program}{w:World}{A:Around}{R:Result->Shared->Prop}{I S:Addr}{c f:List Addr}{n:Nat}{P:Nat->Value->Prop}{St:Nat->Heap->Prop}
end
end L2
namespace L2
open PySem PySem.Spec PyProof.Rows PySem.W
section
variable{X:Cx}
end
end L2
namespace L2
open PySem PySem.Spec PyProof.Rows PySem.W
section
variable{X:Cx}
def zk4(r:V->List V->Hp->VK->Prop)(to:TE):TE:=fun σ H Q=>to σ H fun x b=>∃d,x=.ref d/\IsD b d/\r x [] b Q
theorem zey{o:Expr}{to:TE}{b:Str}{c f:Pos}{id:String}{r:V->List V->Hp->VK->Prop}(A:Slot "dict" b id)(B:typeOf (.builtin id)=pure (.type "method_descriptor"))(G:MtM X id r)(J:PE X o to)
  (l:attributeBase o b X.env (eval o X.env)=eval o X.env:=by rfl) (w:(c.endLine==f.line)=true:=by rfl):PE X (.Call (.Attribute o b c) [] [] f) (zk4 r to):=by
 intro g s σ H Q I h;refine wpAny_Call_method0_late l w (thn (J g s σ H _ I h) fun v s1 ⟨x,D,C,M,d,e,E,L⟩=>?_)
 subst e;cases M;obtain⟨h1,h2⟩:=VH C E;exact⟨"dict",id,Wh,A,B,h1,h2.1,JY rfl (PySem.evalArgs_none (G g s1 σ D (.ref d) [] _ [] Q C rfl .nil L))⟩
inductive QK(P:Program)(w:World)(c:List V)(H:Hp)(Q:VK):Prop
 | mk (a:Addr) (b:List Key) (_:c=[.ref a]) (_:H a=some (Xj P w a b)) (_:Q (.int b.length) H):QK P w c H Q
theorem zdl:jY X (.builtin "len") (QK X.prog X.w):=by
 intro l s σ H T O Q I r h;obtain⟨a,g,rfl,hx,q⟩:=h;obtain⟨u,rfl,J⟩:=ua r;cases(show u=Value.ref a from J)
 obtain⟨⟨o,B,c,M,t,f,w,⟨_,D,E,G⟩,_,C,A,_⟩,_,_⟩:=(show ObjOk X.prog X.w H s.heap a (Xj X.prog X.w a g) from I.hok a _ hx)
 have ln:c.size=g.length:=by
  have e1:=G.length;have e2:=E.length_eq;have L:c.toList.length=c.size:=xz;omega
 have N:scanBound=4096:=rfl;refine call_len_set B f w A (by omega) ⟨.int g.length,H,I.kept (fun b o e=>e),⟨_,by rw[ln]⟩,q⟩
end
end L2
namespace L2
open PySem PySem.Spec PyProof.Rows
section
variable{X:Cx}
end
section
variable{b:Program}{w:World}{K:Type}[DecidableEq K]{c:KeyKind b w K}{A:Around}{E:Value->Shared->Prop}{s:Shared}
end
section
variable{X:Cx}
end
end L2
namespace L2
open PySem PySem.Spec PyProof.Rows PySem.W
theorem zdp(a:Value):argsOk "min" ⟨[a],[(Str.ofString "default",.none)]⟩:=by unfold argsOk;kernel_rfl
section
variable{f:Program}{w:World}{A:Around}{R:Result->Shared->Prop}{I S:Addr}{l g:List Addr}{n:Nat}{P:Nat->Value->Prop}{St:Nat->Heap->Prop}
theorem zaf(W:Walks f w A.in1 I l g n P St)(M:Nat->Nat->Bool)(J:Heap->Prop)(hJ:∀h B,J h->(∀b o,b∉g->b≠S->h.get? b=some o->B.get? b=some o)->J B)
  (hc:∀i j vi vj (s:Shared) (Q:Value->Shared->Prop) (E:Value->Shared->Prop),J s.heap->P i vi->P j vj->Q (.bool (M i j)) s->wpAny (model f w) A.in1 (richCompare .Lt vi vj) Q E s) (O:S∉l) :
  ∀(k j:Nat) (s:Shared) (C:Value) (c:Nat),n=j+1+k->St (j+1) s.heap->J s.heap->P (argBest M j) C->s.heap.get? S=some (seqObj "list" #[C,C] c) ->
   (∀v B U,P (argBest M (n-1)) v->(∀b o,b∉g->b≠S->s.heap.get? b=some o->B.get? b=some o)->R (.ok (.ret v)) { s with heap:=B,toks:=U }) ->
   codeAny (model f w) A (.builtin "min.loop" ⟨[.ref I,.none,.ref S],[("default",.none)]⟩) R s:=by
 have nw:S∉g:=fun h=>O (W.sub _ h)
 have nm:(toString "min" ++ toString ".loop" : String) = "min.loop" :=by decide
 intro k;induction k with
 | zero=>
  intro j s C c hn st j0 pb N Y;refine codeAny_builtin zaB ?_
  rw[Z4 Zy _];show wpAny _ A.in1 (seqItems? (.ref S) >>= _) _ _ s;refine zg (vW N rfl ?_)
  show wpAny _ A.in1 (tryCatch (pyNext (.ref I)) _ >>= _) _ _ s;have a0:St n s.heap:=by rw[hn];exact st
  refine zg (Qm (W.done s _ _ a0 fun B U G=>?_))
  show wpAny _ A.in1 (updateSeq S (fun _=>#[]) >>= _) _ _ _
  refine zg (Qn (G S _ nw N) rfl (zg (Zr (zw ?_))))
  exact Y C _ U (by rw[hn];exact pb) fun b o b1 b2 e=>(yI _ _ (z9 b2)).trans (G b o b1 e)
 | succ k ih=>
  intro j s C c hn st j0 pb N Y;refine codeAny_builtin zaB ?_
  rw[Z4 Zy _];show wpAny _ A.in1 (seqItems? (.ref S) >>= _) _ _ s;refine zg (vW N rfl ?_)
  show wpAny _ A.in1 (tryCatch (pyNext (.ref I)) _ >>= _) _ _ s;refine zg (Qm (W.item (j+1) s _ _ (by omega) st fun v B U pv T G=>?_))
  have D:=G S _ nw N;have j2:J B:=hJ _ _ j0 fun b o b1 _ e=>G b o b1 e
  show wpAny _ A.in1 (tryCatch (holding [v,v] (richCompare .Lt v C >>= _)) _ >>= _) _ _ _;refine zg (Qm (xN (zg (hc (j+1) (argBest M j) v C { s with heap:=B,toks:=U } _ _ j2 pv pb ?_))))
  refine zg (xN (Zb (zg (Zr (zw ?_)))))
  cases hb:M (j+1) (argBest M j) with
  | true=>
   simp only[if_true];refine zg (Qn D rfl (zg (Zr ?_)))
   rw[nm];have H:∀b o,b≠S->B.get? b=some o->(B.update S (Obj.mapSeq fun _=>#[v,v])).get? b=some o:=fun b o b2 e=>(yI _ _ (z9 b2)).trans e
   refine zw ⟨plainId_quiet Zy _,ih (j+1) _ v _ (by omega) (W.frame _ _ _ T fun b bf o e=>H b o (fun z=>O (by rw[<- z];exact bf)) e) (hJ _ _ j2 fun b o _ b2 e=>H b o b2 e) (by simp only[argBest,hb,if_true];exact pv) (vY _ D rfl) fun v' h2 L p2 k2=>?_⟩
   exact Y v' h2 L p2 fun b o b1 b2 e=>k2 b o b1 b2 (H b o b2 (G b o b1 e))
  | false=>
   simp only[ZB,if_false];refine zg (Zr ?_)
   rw[nm];refine zw ⟨plainId_quiet Zy _,ih (j+1) _ C c (by omega) T j2 (by simp only[argBest,hb,ZB,if_false];exact pb) D fun v' h2 L p2 k2=>?_⟩
   exact Y v' h2 L p2 fun b o b1 b2 e=>k2 b o b1 b2 (G b o b1 e)
end
section
variable{X:Cx}
theorem Y8{id:String}{r:List V->Hp->VK->Prop}{x:Str}{p c T:Pos}{e A:Expr}{g:List Expr}{t:TA}(hc:zhw X (.builtin id) [(Str.ofString "default",.none)] r)(M:Gl X x)(N:X.mg x=none)(hv:bootBuiltins x=some (.builtin id))(J:PA X (e::g) t)(hk:PE X A (tC .non))
  (O:x ≠ "__name__" :=by decide) (w:(x==("__debug__":Str))=false:=by decide)
  (L:backTo c (starEach (e::g) X.env)=(false,eval e X.env)::backTo c (starEach g X.env):=by rfl)
  (f:(backTo c (starEach (e::g) X.env)).any (·.1)=false:=by rfl) :
  PE X (.Call (.Name x p) (e::g) [⟨some (Str.ofString "default"),A,T⟩] c) (tCB r t):=by
 intro b s σ H Q I h;refine wpAny_Call_Name_kw (wc I M N hv ?_ O w)
 refine callWith_kw (thn (J c b s σ H _ I h) fun us s1 ⟨B,C,D,r1,U⟩=>kws_cons (thn (hk b s1 σ C (fun u l=>u=.non/\r B l Q) D ⟨rfl,U⟩) fun v s2 ⟨u,l,E,ru,G,Y⟩=>kws_nil ?_)) L f rfl rfl
 subst G;cases(show v=Value.none from ru)
 exact hc b s2 σ l B us Q E r1 Y
end
end L2
namespace L2
open PySem PySem.Spec PyProof.Rows
section
variable{X:Cx}
end
end L2
namespace L2
open PySem PySem.Spec PyProof.Rows PySem.W
theorem zb5(f:Nat->Int):∀n,argBest (fun i j=>decide (f i<f j)) n<=n/\∀j,j<=n->f (argBest (fun i j=>decide (f i<f j)) n)<=f j
 | 0=>⟨zJ _,fun j c=>by rw[show j=0 by omega];exact Zq _⟩
 | n+1=>by
  obtain⟨h1,h2⟩:=zb5 f n;cases hb:decide (f (n+1)<f (argBest (fun i j=>decide (f i<f j)) n)) with
  | true=>
   have e:argBest (fun i j=>decide (f i<f j)) (n+1)=n+1:=by simp only[argBest,hb,if_true]
   rw[e];refine⟨zJ _,fun j c=>?_⟩
   have b:=jy hb;rcases Nat.lt_or_ge j (n+1) with z | z
   ·have a:=h2 j (by omega)
    omega
   ·rw[show j=n+1 by omega];exact Zq _
  | false=>
   have e:argBest (fun i j=>decide (f i<f j)) (n+1)=argBest (fun i j=>decide (f i<f j)) n:=by simp only[argBest,hb,ZB,if_false]
   rw[e];refine⟨by omega,fun j c=>?_⟩
   have b:=of_decide_eq_false hb;rcases Nat.lt_or_ge j (n+1) with z | z
   ·exact h2 j (by omega)
   ·rw[show j=n+1 by omega];omega
section
variable{X:Cx}
inductive Z7(K:W.Frag)(c:List V)(H:Hp)(Q:VK):Prop
 | mk (p:Addr) (b:List Int) (_:c=[.ref p]) (_:SqL K H p (b.map V.int)) (_:(b=[]->Q .non H)) (_:∀m,m∈b->(∀k∈b,m<=k)->Q (.int m) H):Z7 K c H Q
theorem zan(hc:X.calm=true)(hu:X.A.units+64<cLine):zhw X (.builtin "min") [(Str.ofString "default",.none)] (Z7 X.K):=by
 intro af s σ H xs us Q I r h;obtain⟨p,g,rfl,hq,qn,q⟩:=h;obtain⟨u,rfl,ru⟩:=wU r;cases(show u=_ from ru)
 obtain⟨f,rv,pl,hz⟩:=I.list hq;have hl:=pl.isList;have N:=rv.length;have wl:(g.map V.int).length=g.length:=zn ..;have ab:f.length=g.length:=by rw[<- wl];first| exact N | exact N.symm
 have l:p<s.heap.objs.size:=let ⟨_,e,_⟩:=hl;zH e
 have nm:(toString "min" ++ toString ".loop" : String) = "min.loop" :=by decide
 have ah:X.A.in1.in1.units<cLine:=wY (zaN (by decide:2<=64) _) hu
 have ai:X.A.in1.units<cLine:=wY (zaN (by decide:1<=64) _) hu
 have tup:∀(j:Nat) v,f[j]? =some v->∃q t,v=Value.int q t/\g[j]? =some q:=fun j v J=>by
  have ag:=(zC.mp J).1;have ek:g[j]? =some (g[j]'(by omega)):=jh _
  generalize g[j]'(by omega)=k at ek
  obtain⟨v',e4,e5⟩:=rv.get (show(g.map V.int)[j]? =some (.int k) by rw[zZ,ek];rfl)
  rw[J] at e4;cases e4;obtain⟨t,rfl⟩:=e5;exact⟨k,t,rfl,ek⟩
 refine kmk_tree F.kind_min F.plain_min F.entry_min (zdp _) ?_
 show wpAny _ X.A.in1 (Builtin.Builtins.bindParams "min" ["key","default"] 0 ⟨[],[(Str.ofString "default",.none)]⟩ >>= _) _ _ s;refine zg (wQ (show Builtin.Builtins.bindParams "min" ["key","default"] 0 ⟨[],[(Str.ofString "default",.none)]⟩=pure [none,some .none] from rfl) (zg (zw (zg (wpAny_pyIter_list hl ?_)))))
 refine zg (xc ?_)
 rw[nm];have hI:s.heap.objs.size<(s.heap.push { cls:=.type "list_iterator",data:=.fields #[.ref p,.int 0 0] }).objs.size:=by rw[jV];exact yE _
 have G:(s.heap.push { cls:=.type "list_iterator",data:=.fields #[.ref p,.int 0 0] }).IsListIter s.heap.objs.size p 0:=⟨_,zW _ rfl,rfl,rfl⟩;have D:(s.heap.push { cls:=.type "list_iterator",data:=.fields #[.ref p,.int 0 0] }).IsList p f.toArray:=hl.push _;have k1:∀b o,s.heap.get? b=some o->(s.heap.push { cls:=.type "list_iterator",data:=.fields #[.ref p,.int 0 0] }).get? b=some o:=fun b o e=>z7 _ e
 generalize s.heap.push { cls:=.type "list_iterator",data:=.fields #[.ref p,.int 0 0] }=h1 at hI G D k1;have W:=JJ (prog:=X.prog) (w:=X.w) (A:=X.A.in1.in1) (I.ok.hd hc) s.heap.objs.size p (qh l) f.toArray;have U:=JJ (prog:=X.prog) (w:=X.w) (A:=X.A.in1) (I.ok.hd hc) s.heap.objs.size p (qh l) f.toArray;have C:h1.objs.size∉[s.heap.objs.size,p]:=by
  intro z;rcases qe.mp z with z | z
  ·omega
  ·exact vw _ (Nat.lt_trans l (qD.mp z▸hI))
 have hS:(h1.push { cls:=.type "list",data:=.seq ([]:List Value).toArray }).get? h1.objs.size=some (seqObj "list" #[] 0):=zW _ rfl;refine zw ⟨plainId_quiet Zy _,codeAny_builtin zaB ?_⟩
 rw[Z4 Zy _];show wpAny _ _ (seqItems? (.ref h1.objs.size) >>= _) _ _ _;refine zg (vW hS rfl ?_)
 show wpAny _ _ (tryCatch (pyNext (.ref s.heap.objs.size)) _ >>= _) _ _ _;by_cases E:g=[]
 ·have il:f.length=0:=by rw[ab,E];rfl
  have e0:f.toArray.size=0:=by rw[zQ];exact il
  refine zg (Qm (U.done { s with heap:=h1.push { cls:=.type "list",data:=.seq ([]:List Value).toArray } } _ _ (by rw[e0];exact⟨G.at fun o e=>z7 _ e,D.push _⟩) fun B tk Y=>?_))
  show wpAny _ _ (rule _ >>= _) _ _ _;refine zg (vv ?_)
  refine zw ?_
  exact⟨.non,H,I.kept (h':=B) (t':=tk) (fun b o e=>Y b o (fun z=>qh (zH e) (qD.mp z)) (z7 _ (k1 b o e))),rfl,qn E⟩
 ·have h0:0<g.length:=V9.mpr E
  refine zg (Qm (U.item 0 { s with heap:=h1.push { cls:=.type "list",data:=.seq ([]:List Value).toArray } } _ _ (by rw[zQ];omega) ⟨G.at fun o e=>z7 _ e,D.push _⟩ fun v B tk pv ac Y=>?_))
  have nw:h1.objs.size∉[s.heap.objs.size]:=fun z=>C (by simp at z;omega)
  have L:=Y _ _ nw hS;show wpAny _ _ (updateSeq h1.objs.size (fun _=>#[v,v]) >>= _) _ _ _
  refine zg (Qn L rfl ?_)
  rw[nm];have O:∀b o,b≠h1.objs.size->B.get? b=some o->(B.update h1.objs.size (Obj.mapSeq fun _=>#[v,v])).get? b=some o:=fun b o b2 e=>(yI _ _ (z9 b2)).trans e
  have all:∀b o,s.heap.get? b=some o->b≠s.heap.objs.size/\b≠h1.objs.size:=fun b o e=>⟨qh (zH e),qh (Nat.lt_trans (zH e) hI)⟩
  have j0:∀b o,s.heap.get? b=some o->(B.update h1.objs.size (Obj.mapSeq fun _=>#[v,v])).get? b=some o:=fun b o e=>
   O b o (all b o e).2 (Y b o (fun z=>(all b o e).1 (qD.mp z)) (z7 _ (k1 b o e)))
  refine zw ⟨plainId_quiet Zy _,zaf (S:=h1.objs.size) U (fun i j=>decide (g.getD i 0<g.getD j 0)) (fun h=>∀b o,s.heap.get? b=some o->h.get? b=some o) (fun h h2 a b c o e=>b c o (fun z=>(all c o e).1 (qD.mp z)) (all c o e).2 (a c o e)) ?_ C (f.length-1) 0 _ v _ (by rw[zQ];omega) (U.frame _ _ _ ac fun b bf o e=>O b o (fun z=>C (by rw[<- z];exact bf)) e) j0 pv (vY _ L rfl) fun v' h2 ae p2 k2=>?_⟩
  ·intro i j vi vj s2 Q2 E2 jj hi J M
   have ei:f[i]? =some vi:=by simpa using hi
   have ej:f[j]? =some vj:=by simpa using J
   obtain⟨qi,ti,rfl,fi⟩:=tup i vi ei;obtain⟨qj,tj,rfl,fj⟩:=tup j vj ej;rw[QG,fi,QG,fj] at M;exact zgt _ _ _ _ M
  ·rw[zQ] at p2
   have a0:f.length=g.length:=by omega
   have e2:f[argBest (fun i j=>decide (g.getD i 0<g.getD j 0)) (g.length-1)]? =some v':=by
    rw[<- a0];simpa using p2
   obtain⟨hm,aa⟩:=zb5 (fun i=>g.getD i 0) (g.length-1)
   obtain⟨m,t,rfl,em⟩:=tup _ _ e2;have eg:g.getD (argBest (fun i j=>decide (g.getD i 0<g.getD j 0)) (g.length-1)) 0=m:=by rw[QG,em];rfl
   refine⟨.int m,H,I.kept (h':=h2) (t':=ae) (fun b o e=>k2 b o (fun z=>(all b o e).1 (qD.mp z)) (all b o e).2 (j0 b o e)),⟨t,rfl⟩,q m (qr em) fun k hk=>?_⟩
   obtain⟨j,J,ej⟩:=List.getElem_of_mem hk;have:=aa j (by omega)
   rw[eg,QG,jh J,ej] at this;exact this
end
end L2
namespace L2
open PySem PySem.Spec PyProof.Rows
section
variable{X:Cx}
end
section
variable{b:Program}{w:World}{A:Around}{E:Value->Shared->Prop}{s:Shared}
theorem zaj{t:Addr}{c:List Value}{G:List Value->Shared->Prop}(D:IsTup s.heap t c.toArray)(z:c.length<=sizeLine)
  (k:G c { s with heap:=(s.heap.push (seqObj "list" #[] 0)).update s.heap.objs.size (Obj.mapSeq (·++c.toArray)) }):wpAny (model b w) A (collect (.ref t)) G E s:=by
 obtain⟨g,C,l,m,B⟩:=id D;unfold collect;refine zg (wpAny_runValue (codeAny_builtin entry_proto_collect' ?_))
 show wpAny _ _ (do again (.builtin "list.__iadd__" ⟨[<- newList [],.ref t],[]⟩)) _ _ s
 refine zg (wpAny_newList (zw ⟨Code.quiet_builtin _ (by decide +kernel),codeAny_builtin entry_list_iadd' ?_⟩))
 have e1:(s.heap.push (seqObj "list" #[] 0)).get? t=some g:=z7 _ C;have f:(s.heap.push (seqObj "list" #[] 0)).get? s.heap.objs.size=some (seqObj "list" #[] 0):=zW _ rfl;show wpAny _ _ (Builtin.List.listExtendWith (.ref s.heap.objs.size) (.ref t) _) _ _ { s with heap:=s.heap.push (seqObj "list" #[] 0) };unfold Builtin.List.listExtendWith;refine zg (Zt (T:= "tuple") ⟨g,e1,l⟩ ?_)
 rw[zv (by rw[show(Value.type "tuple" == Value.type "tuple")=true from rfl,VY])]
 refine zg (listItems_at e1 B (zg (listItems_at f rfl ?_)))
 rw[zu (by simp)]
 refine zg (listUpdate_at f rfl (zw ?_) (ji _) (by show(#[]++c.toArray).size<=sizeLine+1;simp;omega))
 refine zg (wpAny_load (get?_update_seq f _) ?_)
 show wpAny _ _ (pure ((#[]:Array Value)++c.toArray).toList) G E _;have e:((#[]:Array Value)++c.toArray).toList=c:=by simp
 rw[e];exact zw k
end
section
variable{X:Cx}
inductive yf(K:W.Frag)(f:List V)(H:Hp)(Q:VK):Prop
 | mk (a:Addr) (c:List Int) (_:f=[.ref a]) (_:SqT K H a (c.map V.int)) (_:c.length<64) (_:∀(p:Addr) (b:List Int),H p=none->b.Perm c->b.Pairwise (·<= ·)->Q (.ref p) (upd H p (.lst (b.map V.int)))):yf K f H Q
theorem Xm:jY X (.builtin "sorted") (yf X.K):=by
 intro l s σ H N M Q I r h;obtain⟨a,J,rfl,hx,G,q⟩:=h;obtain⟨u,rfl,E⟩:=ua r;cases(show u=Value.ref a from E)
 obtain⟨b,w,D,hz⟩:=I.tuple hx;have f:=w.length;rw[zn] at f;refine zaT kind_sorted plain_sorted entry_sorted (args_sorted1 _) ?_
 unfold Builtin.«sorted»;refine zg (m:=checkCount "sorted" 1 1 _) (zw (zg (zaj D (by rw[sizeLine_eq];omega) (zg (wpAny_newList ?_ (by rw[sizeLine_eq];omega))))))
 have A:((s.heap.push (seqObj "list" #[] 0)).update s.heap.objs.size (Obj.mapSeq (·++b.toArray))).objs.size=s.heap.objs.size+1:=by rw[Heap.size_update,size_push']
 have at1:(((s.heap.push (seqObj "list" #[] 0)).update s.heap.objs.size (Obj.mapSeq (·++b.toArray))).push (seqObj "list" b.toArray 0)).get? (s.heap.objs.size+1)=some (seqObj "list" b.toArray 0):=by
  rw[<- A];exact zW _ rfl
 rw[show(Value.ref ((s.heap.push (seqObj "list" #[] 0)).update s.heap.objs.size (Obj.mapSeq (·++b.toArray))).objs.size)=Value.ref (s.heap.objs.size+1) from congrArg Value.ref A]
 refine zg (xN (xS slot_list_sort ⟨_,at1,rfl⟩ entry_list_sort (list_sort_tree at1 (Jr w) (by omega) fun c g a1 a2 a3=>⟨_,rfl,zw ⟨_,rfl,?_⟩⟩) (args_list_sort _)))
 obtain⟨e,B⟩:=sortedAll_at s.heap b c;have C:H (s.heap.objs.size+1)=none:=I.hok.fresh (vt _);refine⟨.ref (s.heap.objs.size+1),_,I.laid (a:=s.heap.objs.size+1) (o:=.lst (g.map V.int)) (t':=s.toks) (fun _ _=>sortedAll_old) (vt _) ⟨?_,c.toList,e,ZF a1,?_⟩,rfl,q _ g C a2 a3⟩
 ·rw[zn,a2.length_eq,sizeLine_eq];omega
 ·exact B.trans (by simp[seqObj])
end
theorem zdz(g B f:Expr)(s:List Expr)(scope:Scope)(w:Pos)(A l:Value)(b:Env) :
  compTurn (.SetComp g [⟨B,f,s,0⟩] scope w) 0 A l b=(do
   standAt f.pos
   match<-pyNext A with
   | none=>pure (.done .next)
   | some v=>
    letOwnedTupleGo B A v
    assign B b v
    let mut ok:=true
    for c in s do
     if ok then ok<-isTrue c b (eval c b)
    if ok then
     (do let v<-eval g b;standAt g.pos;let _<-call (.builtin "set.add") [l,v])
    again (.compLoop (.SetComp g [⟨B,f,s,0⟩] scope w) 0 A l b)):=by rfl
section
variable{f:Program}{w:World}{A:Around}{E:Value->Shared->Prop}{R:Result->Shared->Prop}{s:Shared}
theorem zcJ{B H b C rest scope D G g c}
  (h0:codeAny (model f w) A (.compLoop (.SetComp B (⟨H,b,C,0⟩::rest) scope D) 0 G g c) R s)
  (h:wpAny (model f w) A (pyIter G) (fun I J=>codeAny (model f w) A (.compLoop (.SetComp B (⟨H,b,C,0⟩::rest) scope D) 0 I g c) R J) (notedBy (model f w) A c fun x J=>R (.error x) J) s) :
  codeAny (model f w) A (.compStart (.SetComp B (⟨H,b,C,0⟩::rest) scope D) 0 G g c) R s:=by
 refine codeAny_of_tree (show wpAny _ A ((compStart (.SetComp B (⟨H,b,C,0⟩::rest) scope D) 0 G g c).onRaise (fun x=>do noteFrame x c;standAt theWindowsPlace)) _ _ s from wpAny_notedAt ?_)
 unfold compStart;refine(show wpAny _ A (ask >>= _) _ _ s from zg (Qp (wpAny_ite ?_)))
 split
 ·first
   | exact zw ⟨rfl,h0⟩
   | exact zg (zw (zw ⟨rfl,h0⟩))
 ·first
   | exact zg (vv (zg (vV (zg (qN h (fun _ _ q=>zw ⟨rfl,q⟩) fun _ _ x=>x)))))
   | (refine zg (vv ?_)
      exact(show wpAny _ _ (standAt b.pos >>= _) _ _ s from zg (vV (zg (qN h (fun _ _ q=>zw ⟨rfl,q⟩) fun _ _ x=>x)))))
theorem zcO{g O B:Expr}{C:List Expr}{scope:Scope}{G:Pos}{I c:Value}{b:Env}(J:Nat->Shared->Prop)
  (H:∀n s,J n s->wpAny (model f w) A (pyNext I) (fun r s1=>match r with
   | none=>R (.ok .next) s1
   | some v=>wpAny (model f w) A (letOwnedTupleGo O I v) (fun _ s2=>wpAny (model f w) A (assign O b v) (fun _ Y=>
     wpAny (model f w) A (vB C b) (fun ok L=>
      if ok=true then wpAny (model f w) A (eval g b) (fun x M=>
       wpAny (model f w) A (call (.builtin "set.add") [c,x]) (fun _ N=>∃m,m<n/\J m N) (fun _ _=>False) M) (fun _ _=>False) L
      else ∃m,m<n/\J m L) (fun _ _=>False) Y) (fun _ _=>False) s2) (fun _ _=>False) s1) (fun _ _=>False) s)
  (n:Nat) (h:J n s):codeAny (model f w) A (.compLoop (.SetComp g [⟨O,B,C,0⟩] scope G) 0 I c b) R s:=by
 have D:∀{α:Type} {t:Sem α} {Q:α->Shared->Prop} {E:Value->Shared->Prop} {s:Shared},wpAny (model f w) A t Q (fun _ _=>False) s->wpAny (model f w) A t Q E s:=fun x=>qN x (fun _ _ q=>q) fun _ _ q=>q.elim
 refine codeAny_loop rfl J (fun k u hJ=>?_) n h
 refine(show wpAny _ A ((compTurn (.SetComp g [⟨O,B,C,0⟩] scope G) 0 I c b).onRaise (fun x=>do noteFrame x b;theTreesLotGoes x)) _ _ u from wpAny_noted ?_)
 rw[zdz];refine zg (vV (zg (D (qN (H k u hJ) (fun r s1 h1=>?_) fun _ _ q=>q))))
 cases r with
 | none=>exact zw h1
 | some v=>
  refine zg (D (qN h1 (fun _ s2 h2=>zg (D (qN h2 (fun _ Y h3=>zg (D (qN h3 (fun ok L U=>?_) fun _ _ q=>q))) fun _ _ q=>q))) fun _ _ q=>q))
  cases ok with
  | false=>exact zw ⟨rfl,U⟩
  | true=>
   have T:wpAny (model f w) A (eval g b) (fun x M=>wpAny (model f w) A (call (.builtin "set.add") [c,x]) (fun _ N=>∃m,m<k/\J m N) (fun _ _=>False) M) (fun _ _=>False) L:=U
   refine zg (zg (D (qN T (fun x M h5=>zg (vV (zg (D (qN h5 (fun _ N h6=>zw (zw ⟨rfl,h6⟩)) fun _ _ q=>q))))) fun _ _ q=>q)))
variable{K:Type}[DecidableEq K]{l:KeyKind f w K}
theorem zk6{a:Addr}{J:List K}{k:K}{x:Value}{b:Bool}{Q:Value->Shared->Prop}(B:l.is k x=true)(I:x.scannable=true)(M:SetX l b s.heap a J)(C:J.length+1<scanBound)
  (h:∀D L,Heap.SameBut a s.heap D->SetX l b D a (xU J k)->Q .none { s with heap:=D,toks:=L }):wpAny (model f w) A (call (.builtin "set.add") [.ref a,x]) Q E s:=by
 obtain⟨o,N,hb⟩:=id M;obtain⟨es,ep,t,G,_⟩:=id hb;refine xS F.slot_set_add ⟨o,N,G.1⟩ F.entry_set_add ?_ (F.args_set_add_2 _ _)
 have ty:s.TypeIs (.ref a) "set" :=⟨o,N,G.1⟩;unfold Builtin.«set.add»;generalize H:setAdd=Y;obtain⟨O,g,d,L,os⟩:=s;wp_walk
 subst H;refine(show wpAny _ _ (setAdd a x) _ _ _ from xN (zg (l.pyHash B ?_)))
 refine zkC (s:=⟨O,g,d,L+1,os⟩) B I M C (fun D c T U=>?_)
 exact zw ⟨_,rfl,h D _ T U⟩
theorem zgs{Q:Value->Shared->Prop}(h:Q (.ref s.heap.objs.size) { s with heap:=s.heap.push (yZ w) }):wpAny (model f w) A (newSet (.type "set")) Q E s:=by
 unfold newSet setsByText;refine zg (zg (Qp (zw ?_)))
 dsimp only;simp only[newObj];exact zg (wpAny_alloc (zw h))
end
def tSC(P:Program)(w:World)(U:TI)(n:Nat)(C:List Nat)(g:TG)(T:TT)(O:TE):TE:=fun σ H Q=>U σ H fun J I=>
 ∃W:Nat->Nat->List Key->Hp->Prop,(∃m,W 0 m [] I)/\∀i m f c,W i m f c ->
  (J.stop i c/\∀D,c D=none->Q (.ref D) (upd c D (Xj P w D f))) \/
  (J.go i c/\∃N:List Key->Hp->Prop,(∀G s,N G s->∃E,E<m/\W (i+1) E G s)/\∀x A,J.yld i c x A->g x (upS n C σ) A fun l L=>l.drop n=(upS n C σ).drop n/\T l L fun b B=>
   if b=true then O l B fun y M=>∃k:Key,y=kV k/\f.length+1<4096/\N (xU f k) M else N f B)
section
variable{X:Cx}{l E f:Expr}{w:List Expr}{scope:Scope}{A:Pos}{M:TI}{g:TG}{L:TT}{G:TE}
theorem ze4{k:Key}{u:Value}(r:RelV (kV k) u):u.scannable=true:=by
 cases k with
 | inl i=>obtain⟨t,rfl⟩:=r;rfl
 | inr i=>obtain⟨t,rfl⟩:=r;rfl
theorem zjS(own fr:List Str)(js:List Nat)(hc:X.calm=true)(hk:scope.kind=.function)(hb:ZZ scope.names X.env.scope.names X.N fr js=true)(hi:PI X E f M)
  (hg:∀C s H ex,PG (zK X (own++fr) scope C s H ex) E g) (hf:∀C s H ex,PF (zK X (own++fr) scope C s H ex) w L) (he:∀C s H ex,PE (zK X (own++fr) scope C s H ex) l G)
  (hs:∀x,foldedSetIterable f X.env x=pure x:=by intro _;rfl):PE X (.SetComp l [⟨E,f,w,0⟩] scope A) (tSC X.prog X.w M own.length js g L G):=by
 intro aa s σ H Q I h;have B:=YI hb;have af:∀y∈scope.names,y.2=NameKind.free->∃c,X.env.cells.lookup y.1=some c:=fun y hy e=>I.ok.has y.1 (B.free y hy e)
 rw[arm_eval_SetComp];refine wpAny_comprehension_free (use:=none) rfl hs (VQ af) hk (fun y hy e=>B.loc y hy e) (thn (hi aa s σ H _ I h) fun v s1 h1=>thn h1 fun bu s2 h2=>?_)
 obtain⟨it,O,tn,J,H2,e,I2,T,ap,f2,W,⟨m0,w0⟩,bc⟩:=h2;subst e;have fl:∀b∈O,b<s2.heap.objs.size:=fun b hb=>let ⟨o,e,_⟩:=T.obj _ _ ap b hb;zH e
 refine zgs (wpAny_newFunctionEnv B.cell (by intro y hy;simp at hy) (fun h1 am an=>?_) hk)
 dsimp only at am an ⊢;have b0:SetX (zO X.prog X.w) (QM X.w) (s2.heap.push (yZ X.w)) s2.heap.objs.size []:=WV s2.heap;have sD:=I2.fpOk (zJ s2.heap.objs.size) (I2.hok.fresh (zJ s2.heap.objs.size));generalize e3:s2.heap.push (yZ X.w)=Y at am an b0 ⊢;have k3:∀b o,s2.heap.get? b=some o->Y.get? b=some o:=fun b o e=>by rw[<- e3];exact z7 _ e
 have k4:∀b o,Y.get? b=some o->h1.get? b=some o:=fun b o e=>an.extBut b o (qh (zH e)) (z7 _ e)
 have I3:Inv X aa σ H2 { s2 with heap:=Y }:=I2.kept (t':=s2.toks) k3;have hz:Y.objs.size=s2.heap.objs.size+1:=by rw[<- e3,jV]
 have al:s2.heap.objs.size≠Y.objs.size:=by rw[hz];exact qh (yE _)
 generalize eD:s2.heap.objs.size=D at *
 have fD:∀b∈O,D≠b:=fun b hb=>xK (fl b hb)
 have f3:∀b∈D::O,xo X aa H2 b:=fun b hb=>(qe.mp hb).elim (fun z=>z▸sD) (f2 b)
 have I4:Inv (zK X (own++fr) scope Y.objs.size { s2 with heap:=Y,toks:=s2.toks } H2 (D::O)) [] (upS own.length js σ) H2 { s2 with heap:=h1,toks:=s2.toks+([]:List (Str×Value)).length }:=
  zaq own fr js I3 B hk f3 (fun b hb=>by
   show b<Y.objs.size;rw[hz];exact(qe.mp hb).elim (fun z=>z▸yE _) fun z=>wB (fl b z)) rfl am k4
 generalize eC:Y.objs.size=C at *
 have hx:∀b∈D::O,∀x c,(jg X.env.cells scope.names []).lookup x=some c->c≠b:=fun b hb x c e=>(f3 b hb).2.2.2.2.1 x c (qw e af)
 have bo:∀b∈D::O,b∉frs X.stack:=I4.ok.exfs;have ar:∀{a0:List (Addr×Obj)} {U:Hp} {b:Addr},b∈D::O->U b=none->(∀p∈a0,p.1≠b)->xo (zK X (own++fr) scope C { s2 with heap:=Y,toks:=s2.toks } H2 (D::O)) a0 U b:=fun {a0 U b} hb hn hp=>
  ⟨hn,(I4.ok.exf b hb).1,bo b hb,.inl hb,fun x c e=>hx b hb x c e,fun p h=>hp p (by simpa using h)⟩
 have ah:∀s4:Shared,s4={ s2 with heap:=h1,toks:=s2.toks+([]:List (Str×Value)).length } ->
   codeAny (model X.prog X.w) X.A (.compLoop (.SetComp l [⟨E,f,w,0⟩] scope A) 0 (.ref it) (.ref D) (compEnvC scope (jg X.env.cells scope.names []) C X.env))
    (compPost (model X.prog X.w) X.A X.xe none (EP X aa σ Q) (.ref D) C) s4:=by
  intro s4 e4;refine zcO (fun n s'=>∃i ks U,Inv (zK X (own++fr) scope C { s2 with heap:=Y,toks:=s2.toks } H2 (D::O)) [] (upS own.length js σ) U s'/\tn i s'.heap/\(∀b∈O,U b=none)/\U D=none/\SetX (zO X.prog X.w) (QM X.w) s'.heap D ks/\W i n ks U) ?_ m0 ?_
  ·rintro n s5 ⟨i,ks,H5,I5,az,as,bg,bq,w5⟩
   obtain⟨o5,av,ac⟩:=id bq;have nc:∀v,o5.data≠.cell v:=fun v q=>by
    obtain⟨es,ep,t,_,hd,_⟩:=ac;rw[hd] at q;cases q
   have aq:=I5.pinned (fp:=[D]) (fun b hb=>by rw[qD.mp hb];exact ar jm bg (fun p hp=>absurd hp (by simp))) (fun b hb=>by
    rw[qD.mp hb];exact⟨_,av,nc⟩)
   have pD:∀p∈[]++qB [D] s5.heap,p.1=D:=fun p hp=>by
    rw[yL] at hp;exact qD.mp (vD hp).1
   have mD:(D,o5)∈[]++qB [D] s5.heap:=by
    rw[yL];exact jb (qD.mpr rfl) av
   have ak:∀{U:Hp},(∀b∈O,U b=none)->∀b∈O,xo (zK X (own++fr) scope C { s2 with heap:=Y,toks:=s2.toks } H2 (D::O)) ([]++qB [D] s5.heap) U b:=fun hn b hb=>ar (jS _ hb) (hn b hb) fun p hp=>by
    rw[pD p hp];exact fD b hb
   rcases bc i n ks H5 w5 with ⟨stop,q⟩ | ⟨go,N,hN,step⟩
   ·refine thn (T.done (zK X (own++fr) scope C { s2 with heap:=Y,toks:=s2.toks } H2 (D::O)) rfl rfl rfl hc i _ s5 _ H5 _ aq (ak as) az stop) fun r s6 ⟨hr,I6⟩=>?_
    subst hr;obtain⟨m6,bj,_⟩:=I6.loc;refine⟨m6,bj,fun h7 bm=>?_⟩
    obtain⟨o6,ax,_⟩:=I6.pin (D,_) (qI _ mD);have k7:∀b o,b≠C->s6.heap.get? b=some o->h7.get? b=some o:=fun b o hb e=>bm.extBut b o hb e
    have br:SetX (zO X.prog X.w) (QM X.w) h7 D ks:=⟨o5,k7 D _ al o6,ac⟩;refine⟨.ref D,upd H5 D (Xj X.prog X.w D ks),?_,rfl,q D ax⟩
    refine I3.call' (s':={ s6 with heap:=h7 }) (ch:=D::O) I6.os (Q3 (YW I6.base (wf eC) k7) jm sD.1) (Qg (VI I6.hok I6.free k7) ax ⟨br,?_,fun h1 h2 x e=>x.at e⟩) I6.bare fun b hb=>?_
    ·exact⟨o5,k7 D _ al o6⟩
    ·obtain⟨_,g1,_,g3,g4,g5⟩:=f3 b hb
     exact⟨g3,g1,g4,g5⟩
   ·refine thn (T.item (zK X (own++fr) scope C { s2 with heap:=Y,toks:=s2.toks } H2 (D::O)) rfl rfl rfl hc i _ s5 _ H5 _ aq (ak as) az go) fun r s6 ⟨u,hr,h6⟩=>?_
    subst hr;refine thn h6 fun _ s7 ⟨x,H7,I7,r7,y7,ae,bf⟩=>?_
    have be:=I7.pinned (ak bf) (T.obj _ _ ae);refine thn (hg _ _ _ _ _ s7 _ H7 x u _ be r7 (step x H7 y7)) fun _ s8 ⟨σ8,H8,I8,bh,q8⟩=>?_
    refine thn (hf _ _ _ _ _ s8 σ8 H8 _ I8 q8) fun ok s9 ⟨H9,I9,q9⟩=>?_
    have aj:∀{U:Hp} {s':Shared},Inv (zK X (own++fr) scope C { s2 with heap:=Y,toks:=s2.toks } H2 (D::O)) (([]++qB [D] s5.heap)++qB O s7.heap) σ8 U s' ->
      Inv (zK X (own++fr) scope C { s2 with heap:=Y,toks:=s2.toks } H2 (D::O)) [] (upS own.length js σ) U s':=fun {U s'} J=>by
     refine(J.unpinned).unpinned.weak (I5.len.trans J.len.symm) fun k v e=>?_
     obtain⟨hn,e1,_⟩:=wn e;rw[<- bh,V8] at e1;rw[<- e1];congr 1
     omega
    have mF:∀b∈O,∀o,s7.heap.get? b=some o->(b,o)∈([]++qB [D] s5.heap)++qB O s7.heap:=fun b hb o e=>qI _ (jb hb e)
    have aw:=jN (qB O s7.heap) mD;have au:∀{U:Hp} {s':Shared},Inv (zK X (own++fr) scope C { s2 with heap:=Y,toks:=s2.toks } H2 (D::O)) (([]++qB [D] s5.heap)++qB O s7.heap) σ8 U s'->∀b∈O,U b=none:=fun {U s'} J b hb=>by
     obtain⟨o,e,_⟩:=T.obj _ _ ae b hb;exact(J.pin (b,o) (qI _ (mF b hb o e))).2.1
    cases ok with
    | false=>
     have ao:N ks H9:=by simpa using q9
     obtain⟨m',hm,w'⟩:=hN _ _ ao;obtain⟨o9,bn,_⟩:=I9.pin (D,_) (qI _ aw);exact⟨m',hm,i+1,ks,H9,aj I9,T.keep _ _ _ ae fun b hb o e=>(I9.pin (b,o) (qI _ (mF b hb o e))).1,au I9,bn,⟨o5,o9,ac⟩,w'⟩
    | true=>
     have ao:G σ8 H9 fun y H6=>∃k:Key,y=kV k/\ks.length+1<4096/\N (xU ks k) H6:=by simpa using q9
     refine thn (he _ _ _ _ _ s9 σ8 H9 _ I9 ao) fun yv bv ⟨y,bd,ab,ay,ky,ey,bi,bs⟩=>?_
     subst ey;obtain⟨m',hm,w'⟩:=hN _ _ bs;obtain⟨bp,ai,_⟩:=ab.pin (D,_) (qI _ aw);refine zk6 (wV ay) (ze4 ay) ⟨o5,bp,ac⟩ bi fun bt bb ag ba=>?_
     refine⟨m',hm,i+1,xU ks ky,bd,?_,T.keep _ _ _ ae fun b hb o e=>ag.extBut b o (z9 (fD b hb)) (ab.pin (b,o) (qI _ (mF b hb o e))).1,au ab,ai,ba,w'⟩
     exact(aj ab).turned (t':=bb) (it:=D) (fun b o hb e=>ag.extBut b o hb e) ai al (.inl jm) (fun x c e=>hx D jm x c e) fun p hp=>absurd (show p∈([]:List (Addr×Obj)) from hp) (by simp)
  ·subst e4
   exact⟨0,[],H2,I4,T.keep _ _ _ ap fun b hb o e=>k4 b o (k3 b o e),fun b hb=>(f2 b hb).1,sD.1,b0.at fun o e=>k4 _ _ e,w0⟩
 exact zcJ (ah _ rfl) (T.self X.A 0 _ _ _ (T.keep _ _ _ ap fun b hb o e=>k4 b o (k3 b o e)) (ah _ rfl))
end
section
variable{X:Cx}{x y:Str}{w A E:Pos}{l:Nat}{c b:Expr}{f:List Expr}{scope:Scope}{g:Pos}{G:TI}{D:TT}{B:TE}
theorem zh6(J:List Str)(L:List Nat)(hc:X.calm=true)(hk:scope.kind=.function)(hb:we scope.names X.env.scope.names X.N [x,y] J L=true)(Q:PI X (.Tuple [.Name x w,.Name y A] l E) b G)
  (O:∀C s H I,PF (zK X ([x,y]++J) scope C s H I) f D) (N:∀C s H I,PE (zK X ([x,y]++J) scope C s H I) c B)
  (hs:∀x,foldedSetIterable b X.env x=pure x:=by intro _;rfl):PE X (.SetComp c [⟨.Tuple [.Name x w,.Name y A] l E,b,f,0⟩] scope g) (tSC X.prog X.w G 2 L (VL X.K 2 (vk (xt 0) (vk (xt 1) Ys))) D B):=by
 obtain⟨h1,h2,M⟩:=xZ hb;refine zjS [x,y] J L hc hk h1 Q (fun C s H I=>?_) O N hs
 exact qL (X:=zK X ([x,y]++J) scope C s H I) hc (zr (xA (h2 x (by simp)) M rfl) (zr (xA (h2 y (by simp)) M rfl) qk))
end
theorem zhO{K:W.Frag}{a:Addr}{xs:List V}{g:TG}{J:TT}{I:TE}{A:St}{n:Nat}{R:List Key->Hp->Prop}{H:Hp}(Pv:Nat->List Key->Hp->Prop)(h0:Pv 0 [] H)
  (h1:∀i c H,Pv i c H->SqT K H a xs)
  (hs:∀i x c H,xs[i]? =some x->Pv i c H->g x A H fun l D=>l.drop n=A.drop n/\J l D fun b s=>
   if b=true then I l s fun v E=>∃k:Key,v=kV k/\c.length+1<4096/\Pv (i+1) (xU c k) E else Pv (i+1) c s)
  (L:∀c H,Pv xs.length c H->R c H) :
  ∃W:Nat->Nat->List Key->Hp->Prop,(∃m,W 0 m [] H)/\∀i m c f,W i m c f ->
   ((Itt K a).stop i f/\R c f) \/
   ((Itt K a).go i f/\∃N:List Key->Hp->Prop,(∀c B,N c B->∃G,G<m/\W (i+1) G c B)/\∀x C,(Itt K a).yld i f x C->g x A C fun l D=>l.drop n=A.drop n/\J l D fun b s=>
    if b=true then I l s fun y E=>∃k:Key,y=kV k/\c.length+1<4096/\N (xU c k) E else N c s):=by
 refine⟨fun i m c f=>m=xs.length-i/\i<=xs.length/\Pv i c f,⟨_,rfl,ji _,h0⟩,?_⟩
 rintro i m c f ⟨rfl,Q,p⟩;have q:=h1 i c f p;by_cases w:i<xs.length
 ·refine .inr ⟨⟨xs,xs[i],q,by simp[w]⟩,Pv (i+1),fun O B M=>⟨_,by omega,rfl,w,M⟩,fun x C y=>?_⟩
  obtain⟨e,y⟩:=y;subst e;exact hs i x c _ (y xs q) p
 ·have e:i=xs.length:=by omega
  subst e;exact .inl ⟨⟨xs,q,zJ _⟩,L c f p⟩
section
variable{X:Cx}
end
open Sem (wp)
section
variable{X:Cx}
end
end L2
namespace L2
open PySem PySem.Spec PyProof.Rows
section
variable{X:Cx}{b:Pos}
end
end L2
namespace L2
open PySem PySem.Spec PyProof.Rows PySem.W
def y3:Option Int->V
 | some i=>.int i
 | none=>.non
theorem zbU{k:Int}{t:Tok}:∀{f:List (Option Int)} {b:List Value},Vals (f.map y3) b->∀y∈b,MeetsSeq.EqGives y (.int k t) (isInt k y)
 | [],b,h=>by cases h;intro y hy;cases hy
 | n::f,b,h=>by
  cases h with
  | cons r q=>
   intro y hy;rcases qe.mp hy with z | z
   ·subst z
    cases n with
    | some i=>
     obtain⟨u,rfl⟩:=r;exact MeetsSeq.EqGives.int i k u t
    | none=>
     cases r;exact fun c w A E s Q h=>PySem.SeqAt.EqAt.none_int (A:=A) (s:=s) k t c w E Q h
   ·exact zbU q y z
theorem Jy{k:Int}:∀{c:List (Option Int)} {b:List Value},Vals (c.map y3) b->b.countP (isInt k)=c.count (some k)
 | [],b,h=>by cases h;rfl
 | n::c,b,h=>by
  cases h with
  | cons r q=>
   rw[yD,yC,Jy q];cases n with
   | some i=>
    obtain⟨u,rfl⟩:=r;rfl
   | none=>
    cases r;rfl
section
variable{X:Cx}
inductive zbx(x:V)(f:List V)(H:Hp)(Q:VK):Prop
 | mk (l:Addr) (b:List (Option Int)) (k:Int) (_:x=.ref l) (_:f=[.int k]) (_:H l=some (.lst (b.map y3))) (_:Q (.int (b.count (some k))) H):zbx  x f H Q
theorem zc1:MtM X "list.count" zbx:=by
 intro f s σ H x G v E Q I C B h;obtain⟨l,w,k,rfl,rfl,g,q⟩:=h;cases C;obtain⟨u,rfl,A⟩:=B.one;obtain⟨t,rfl⟩:=A;obtain⟨z,b,n,r,D,e⟩:=I.lstM g;refine call_meets F.slot_list_count ⟨_,e,rfl⟩ F.entry_list_count (F.args_list_count_2 _ _) (MeetsSeq.list_count l b.toArray n (.int k t) (isInt k) (fun y hy=>zbU r y (by simpa using hy))) ⟨e,?_⟩
 refine⟨.int (w.count (some k)),H,I.tok _,⟨s.toks,?_⟩,q⟩
 show Value.int ((b.toArray.toList.countP (isInt k):Nat):Int) s.toks=_;rw[show b.toArray.toList=b by simp,Jy r]
inductive zhl(K:W.Frag)(o:V)(i:V)(H:Hp)(Q:VK):Prop
 | mk (p:Addr) (b:List V) (j:Nat) (z:V) (_:o=.ref p) (_:i=.int (j:Int)) (_:SqL K H p b) (_:b[j]? =some z) (_:Q z H):zhl K o i H Q
theorem zfb:zkD X (zhl X.K):=by
 intro g s σ H o i M L Q I D C h;obtain⟨p,N,j,z,rfl,rfl,hq,f,q⟩:=h;cases D;obtain⟨t,rfl⟩:=C;obtain⟨A,r,B,hz⟩:=I.list hq;obtain⟨w,l,b⟩:=r.get f;have G:=r.length;have J:=Qe;have E:=(zC.mp f).1;exact wpAny_getItem_list B.isList (by omega) (by omega) (by simpa using l) ⟨z,H,I,b,q⟩
def tTT(K:W.Frag)(t:TE):TT:=fun σ H Q=>t σ H fun x b=>∃a f,x=.ref a/\SqT K b a f/\Q (!f.isEmpty) b
theorem zhZ{e:Expr}{t:TE}(h:PE X e t)(C:∀b,isTrue e X.env b=(do let v<-b;standAt e.pos;holding [v] (truthy v)):=by intro _;rfl):PT X e (tTT X.K t):=by
 intro f s σ H Q I E;refine isTrue_plain (thn (h f s σ H _ I E) fun v s1 ⟨x,B,A,L,J⟩=>?_) (C _)
 obtain⟨a,w,rfl,hq,q⟩:=J;cases(show v=_ from L)
 obtain⟨g,l,G,hz⟩:=A.tuple hq;have D:=l.length;refine truthy_tuple G (by rw[zQ,<- D];rw[sizeLine_eq] at hz;omega) ?_
 have e:(!w.isEmpty)=(!g.toArray.isEmpty):=by
  cases w with
  | nil=>cases l;rfl
  | cons x w=>cases l with | cons r q=>rfl
 exact⟨B,A.tok _,by rw[<- e];exact q⟩
theorem zfZ{K:W.Frag}(f:X.K=K){e:Expr}{t:TE}(h:PE X e t)(g:∀b,isTrue e X.env b=(do let v<-b;standAt e.pos;holding [v] (truthy v)):=by intro _;rfl):PT X e (tTT K t):=by
 subst f;exact zhZ h g
variable{c:Expr}
def ziE(g:TE):TI:=fun σ H R=>g σ H fun x f=>∃d o b,x=.ref d/\f d=some (.frz o (.dK b))/\R (zds d o b) f
theorem zet{l:Expr}{B:TE}(J:PE X l B):PI X c l (ziE B):=by
 intro g s σ H R I h;refine thn (J g s σ H _ I h) fun v s1 ⟨x,C,w,M,L⟩=>?_
 obtain⟨d,o,f,e,G,q⟩:=L;subst e;cases M;obtain⟨e1,z,y,Y,r,T,E,D,h1,h2,A,N,O,Q⟩:=(show ObjOk X.prog X.w C s1.heap d (.frz o (.dK f)) from w.hok d _ G)
 rw[e1] at h1;cases h1;refine WY y ⟨o,e1,h2,A⟩ ?_
 refine⟨s1.heap.objs.size,[s1.heap.objs.size],_,_,_,rfl,w.kept (t':=s1.toks) fun b u e=>z7 _ e,Q5 d _ o f E D A,⟨_,zW _ rfl,rfl,rfl⟩,fun b hb=>?_,q⟩
 have e:b=s1.heap.objs.size:=by simpa using hb
 subst e;exact w.fpOk (zJ _) (w.hok.fresh (zJ _))
end
end L2
namespace L2
open PySem PySem.Spec PyProof.Rows
section
variable{b:Program}{w:World}{K:Type}[DecidableEq K](c:KeyKind b w K)
variable{c}
variable{A:Around}{E:Value->Shared->Prop}{s:Shared}
end
end L2
namespace PySem
section
variable{b:Program}{w:World}{A:Around}{E:Value->Shared->Prop}{s:Shared}{d g:Addr}{f:Array DictEntry}{c i:Nat}
end
end PySem
namespace L2
open PySem PySem.Spec PyProof.Rows PySem.W
section
variable{X:Cx}{b:List (Addr×Obj)}{σ:St}{H:Hp}{s:Shared}
end
end L2
namespace L2
open PySem PySem.Spec PyProof.Rows PySem.W
section
variable{X:Cx}
end
end L2
namespace L2
open PySem PySem.Spec PyProof.Rows
abbrev ziS:=Addr->V->V->Hp->(Hp->Prop)->Prop
section
variable{X:Cx}{l C w b:Expr}{c:List Expr}{scope:Scope}{f:Pos}{D:TI}{g:TG}{s:TT}{A B:TE}{mk:Addr->HO}{t:ziS}
end
end L2
namespace L2
open PySem PySem.Spec PyProof.Rows PySem.W
section
variable{X:Cx}{c C O b:Expr}{f:List Expr}{scope:Scope}{s:Pos}{Q:TI}{J:TT}{I L N:TE}{mk:Addr->HO}{t:ziS}{x y z u:Str}{E G H D M w A:Pos}{B g l:Nat}
end
end L2
namespace L2
open PySem PySem.Spec PyProof.Rows
section
variable{X:Cx}{l C w b:Expr}{c:List Expr}{scope:Scope}{f:Pos}{D:TI}{g:TG}{s:TT}{A B:TE}{mk:Addr->HO}{t:ziS}
end
end L2
namespace L2
open PySem PySem.Spec PyProof.Rows PySem.W
end L2
namespace L2
open PySem PySem.W PySem.Spec PyProof.Rows
theorem QU{d:Dat}:∀{b:List Dat},d∈b->d.py.depth<=PyData.depthAll (Dat.pys b)
 | e::b,h=>by
  show _<=max (PyData.depth e.py) (PyData.depthAll (Dat.pys b));rcases qe.mp h with rfl | h
  ·exact Nat.le_max_left _ _
  ·exact jk (QU h) (Nat.le_max_right _ _)
section
variable{X:Cx}
theorem zfq(n:Nat):((List.range n).all fun _=>true)=true:=vN.mpr fun _ _=>rfl
def zky:Dat->Bool
 | .lst _=>false
 | .tup _=>false
 | _=>true
theorem Yv{H:Hp}{A:Around}{s:Shared}{d:Dat}(h:zky d=true){b f:V}{C D:Value}(w:Rep X.K H d b)(B:Rep X.K H d f)(g:RelV b C)(l:RelV f D):SeqAt.EqAt A s C D true:=by
 cases d with
 | lst G=>cases h
 | tup G=>cases h
 | non=>
  cases(show b=_ from w);cases(show f=_ from B)
  cases(show C=_ from g);cases(show D=_ from l)
  exact Zu _
 | bl c=>
  cases(show b=_ from w);cases(show f=_ from B)
  cases(show C=_ from g);cases(show D=_ from l)
  exact Zu _
 | int i=>
  cases(show b=_ from w);cases(show f=_ from B)
  obtain⟨t,rfl⟩:=g;obtain⟨E,rfl⟩:=l;have:=SeqAt.EqAt.int_int (A:=A) (s:=s) i t i E;rwa[beq_self_eq_true] at this
 | str x=>
  cases(show b=_ from w);cases(show f=_ from B)
  obtain⟨t,rfl⟩:=g;obtain⟨E,rfl⟩:=l;have:=SeqAt.EqAt.str_str (A:=A) (s:=s) x t x E;rwa[beq_self_eq_true] at this
theorem ziI{E:List (Addr×Obj)}{σ:St}{H:Hp}{s:Shared}(I:Inv X E σ H s):∀(n:Nat) {A:Around},A.units+n<cLine->∀{d:Dat},d.py.depth<=n->∀{v1 v2:V} {U Y:Value},Rep X.K H d v1->Rep X.K H d v2->RelV v1 U->RelV v2 Y->SeqAt.EqAt A s U Y true:=by
 intro n;induction n with
 | zero=>
  intro A hu d g v1 v2 U Y c f G J;cases d with
  | lst l=>exact absurd g (Nat.not_succ_le_zero _)
  | tup l=>exact absurd g (Nat.not_succ_le_zero _)
  | _=>exact Yv (by rfl) c f G J
 | succ n ih=>
  intro A hu d g v1 v2 U Y c f G J;have C:A.units<cLine:=by omega
  have D:A.in1.units+n<cLine:=by rw[Around.in1_units];omega
  cases d with
  | lst l=>
   have g:PyData.depthAll (Dat.pys l)+1<=n+1:=g;obtain⟨a,N,rfl,hx,L⟩:=c;obtain⟨b,O,rfl,hy,M⟩:=f;cases G;cases J;by_cases e:a=b
   ·subst e
    exact Zu _
   ·obtain⟨Q,c,p1,z1⟩:=I.list hx
    obtain⟨T,f,p2,z2⟩:=I.list hy;have l1:=c.length;have l2:=f.length;have lx:=L.len;have ly:=M.len;have w:=zaC (A:=A) (s:=s) (e:=fun _=>true) p1.isList p2.isList (by rw[zQ,zQ];omega) C (fun j h1 h2=>by
     rw[zQ] at h1 h2;obtain⟨c1,e1,g1⟩:=c.get (i:=j) (x:=N[j]'(by omega)) (by simp)
     obtain⟨c2,e2,g2⟩:=f.get (i:=j) (x:=O[j]'(by omega)) (by simp)
     obtain⟨d1,B,k1⟩:=L.get (i:=j) (x:=N[j]'(by omega)) (by simp)
     obtain⟨d2,f2,k2⟩:=M.get (i:=j) (x:=O[j]'(by omega)) (by simp)
     have de:d1=d2:=jq (B.symm.trans f2);subst de;have o1:Q.toArray[j]=c1:=by simpa using (zC.mp e1).2
     have o2:T.toArray[j]=c2:=by simpa using (zC.mp e2).2
     rw[o1,o2];exact ih D (jk (QU (qr B)) (by omega)) k1 k2 g1 g2)
    rw[zfq] at w;exact V7 e w
  | tup l=>
   have g:PyData.depthAll (Dat.pys l)+1<=n+1:=g;obtain⟨a,N,rfl,hx,L⟩:=c;obtain⟨b,O,rfl,hy,M⟩:=f;cases G;cases J;by_cases e:a=b
   ·subst e
    exact Zu _
   ·obtain⟨Q,c,p1,z1⟩:=I.tuple hx
    obtain⟨T,f,p2,z2⟩:=I.tuple hy;have l1:=c.length;have l2:=f.length;have lx:=L.len;have ly:=M.len;have w:=zaG (A:=A) (s:=s) (e:=fun _=>true) p1 p2 C (fun j h1 h2=>by
     rw[zQ] at h1 h2;obtain⟨c1,e1,g1⟩:=c.get (i:=j) (x:=N[j]'(by omega)) (by simp)
     obtain⟨c2,e2,g2⟩:=f.get (i:=j) (x:=O[j]'(by omega)) (by simp)
     obtain⟨d1,B,k1⟩:=L.get (i:=j) (x:=N[j]'(by omega)) (by simp)
     obtain⟨d2,f2,k2⟩:=M.get (i:=j) (x:=O[j]'(by omega)) (by simp)
     have de:d1=d2:=jq (B.symm.trans f2);subst de;have o1:Q.toArray[j]=c1:=by simpa using (zC.mp e1).2
     have o2:T.toArray[j]=c2:=by simpa using (zC.mp e2).2
     rw[o1,o2];exact ih D (jk (QU (qr B)) (by omega)) k1 k2 g1 g2)
    rw[zfq,Bool.true_and,show(Q.toArray.size==T.toArray.size)=true from xu.mpr (by rw[zQ,zQ];omega)] at w
    exact V7 e w
  | _=>exact Yv (by rfl) c f G J
inductive YM(K:W.Frag)(x:V)(y:V)(H:Hp)(Q:VK):Prop
 | mk (a b:Addr) (c:List Dat) (_:x=.ref a) (_:y=.ref b) (_:Rep K H (.lst c) x) (_:Rep K H (.lst c) y) (_:PyData.depthAll (Dat.pys c)<=50) (_:Q (.bl false) H):YM K x y H Q
theorem zif(hu:X.A.units+64<cLine):OpR X (compareOp .NotEq) (YM X.K):=by
 intro l s σ H x y v u Q I c f h;obtain⟨a,b,ds,rfl,rfl,hx,hy,O,q⟩:=h;cases c;cases f;obtain⟨a',B,e1,qx,c⟩:=hx;obtain⟨b',C,e2,qy,f⟩:=hy;cases e1;cases e2;obtain⟨T,w,p1,z1⟩:=I.list qx;obtain⟨U,A,p2,z2⟩:=I.list qy;have l1:=w.length;have l2:=A.length;have lx:=c.len;have ly:=f.len;refine zaL (e:=fun _=>true) p1.isList p2.isList (by rw[zQ,zQ];omega) (by omega) (fun j h1 h2=>?_) _ _ _ _ ⟨.bl _,H,I,rfl,?_⟩
 ·rw[zQ] at h1 h2
  obtain⟨c1,e1,M⟩:=w.get (i:=j) (x:=B[j]'(by omega)) (by simp)
  obtain⟨D,e2,N⟩:=A.get (i:=j) (x:=C[j]'(by omega)) (by simp)
  obtain⟨E,g,Y⟩:=c.get (i:=j) (x:=B[j]'(by omega)) (by simp)
  obtain⟨G,L,k2⟩:=f.get (i:=j) (x:=C[j]'(by omega)) (by simp)
  have J:E=G:=jq (g.symm.trans L);subst J;have o1:T.toArray[j]=c1:=by simpa using (zC.mp e1).2
  have o2:U.toArray[j]=D:=by simpa using (zC.mp e2).2
  rw[o1,o2];exact ziI I 50 (by rw[Around.in1_units];omega) (jk (QU (qr g)) O) Y k2 M N
 ·rw[zfq]
  exact q
end
end L2
namespace L2
open PySem PySem.Spec PyProof.Rows
def pr2(q:Int×Int):List V:=[.int q.1,.int q.2]
theorem Vs{p q:Int×Int}(h:pr2 p=pr2 q):p=q:=by
 unfold pr2 at h;have h1:=V.int.inj (List.cons.inj h).1;have h2:=V.int.inj (List.cons.inj (List.cons.inj h).2).1;exact Prod.ext h1 h2
theorem zh3(p q:Int×Int):zde (pr2 p) (pr2 q)=decide (p=q):=by
 have e:∀a b:Int,eqV (.int a) (.int b)=decide (a=b):=fun a b=>by
  show(a==b)=_;rw[xw,xu,xx]
 show(eqV (.int p.1) (.int q.1)&&(eqV (.int p.2) (.int q.2)&&true))=_;rw[e,e,Bool.and_true,xw,xO,xx,xx,xx,Prod.ext_iff]
section
variable{X:Cx}{b:List (Addr×Obj)}{σ:St}{H:Hp}{s:Shared}
theorem ziH(I:Inv X b σ H s){A:Around}(hu:A.units<cLine){a c:Addr}{p q:Int×Int}(hc:SqT X.K H c (pr2 q))(C:SqT X.K H a (pr2 p)):SeqAt.EqAt A s (.ref c) (.ref a) (decide (q=p)):=by
 by_cases e:c=a
 ·subst e
  rw[zV (Vs (I.tuple_inj hc C))];exact Zu _
 ·obtain⟨f,D,N,Y⟩:=I.tuple hc
  obtain⟨g,E,O,z2⟩:=I.tuple C;have L:=D.length;have M:=E.length;have h:=V7 e (zaG (A:=A) (s:=s) (e:=fun j=>eqV ((pr2 q).getD j .non) ((pr2 p).getD j .non)) N O hu (fun j h1 h2=>?_))
  ·rw[zQ,zQ,<- L,<- M,Jt,zh3] at h
   exact h
  ·have l:j<(pr2 q).length:=by rw[zQ] at h1;omega
   have w:j<(pr2 p).length:=by rw[zQ] at h2;omega
   obtain⟨w1,e1,Q⟩:=D.get (i:=j) (x:=(pr2 q)[j]) (jh l);obtain⟨U,e2,T⟩:=E.get (i:=j) (x:=(pr2 p)[j]) (jh w);have G:f.toArray[j]=w1:=by simpa using (zC.mp e1).2
   have J:g.toArray[j]=U:=by simpa using (zC.mp e2).2
   have B:∀(o:Int×Int) (v:V),v∈pr2 o->xH v=true:=fun o v hv=>by
    rcases qe.mp hv with rfl | hv
    ·rfl
    ·cases qD.mp hv;rfl
   rw[G,J,QG,QG,jh l,jh w];exact Ju Q T (B _ _ (vX l)) (B _ _ (vX w))
def ziT(K:W.Frag)(H:Hp)(g:List V)(f:List (Int×Int)):Prop:=g.length=f.length/\∀(i:Nat) (r:Int×Int),f[i]? =some r->∃c,g[i]? =some (.ref c)/\SqT K H c [.int r.1,.int r.2]
open Classical in
theorem zb6(I:Inv X b σ H s){a:Addr}{q:Int×Int}(N:SqT X.K H a (pr2 q)){J:List V}{f:List Value}{D:List (Int×Int)}(hx:ziT X.K H J D)(G:Vals J f){A:Around}(hu:A.units<cLine) :
  (∀y,y∈f.toArray->SeqAt.EqAt A s y (.ref a) (decide (∃c,y=Value.ref c/\SqT X.K H c (pr2 q))))/\f.toArray.any (fun y=>decide (∃c,y=Value.ref c/\SqT X.K H c (pr2 q)))=decide (q∈D):=by
 have l:∀y∈f,∃(c:Addr) (r:Int×Int),y=.ref c/\SqT X.K H c (pr2 r)/\r∈D:=fun y hy=>by
  obtain⟨i,B⟩:=yH.mp hy;have Q:=(zC.mp B).1;have T:=G.length;obtain⟨r,C⟩:∃r,D[i]? =some r:=⟨_,jh (by have:=hx.1;omega)⟩
  obtain⟨c,e1,e2⟩:=hx.2 i r C;obtain⟨w1,w,g⟩:=G.get e1;rw[B] at w;cases w;exact⟨c,r,g,e2,qr C⟩
 constructor
 ·intro y hy
  obtain⟨c,r,rfl,hc,_⟩:=l y (by simpa using hy)
  have h:=ziH I hu hc N;by_cases e:r=q
  ·subst e
   rw[zV rfl] at h;rw[zV ⟨c,rfl,hc⟩];exact h
  ·rw[jd e] at h
   rw[jd]
   ·exact h
   ·rintro⟨L,M,E⟩
    cases M;exact e (Vs (I.tuple_inj hc E))
 ·rw[xw,xx,List.any_toArray,yF]
  constructor
  ·rintro⟨y,hy,O⟩
   obtain⟨L,rfl,E⟩:=jy O;obtain⟨c,r,e,hc,C⟩:=l _ hy;cases e;rw[<- Vs (I.tuple_inj hc E)];exact C
  ·intro hq
   obtain⟨i,B⟩:=yH.mp hq;obtain⟨c,e1,e2⟩:=hx.2 i q B;obtain⟨w1,w,g⟩:=G.get e1;exact⟨w1,qr w,zV ⟨c,g,e2⟩⟩
end
inductive zhX(K:W.Frag)(b:Bool)(x:V)(y:V)(H:Hp)(Q:VK):Prop
 | mk (a p:Addr) (q:Int×Int) (f:List V) (c:List (Int×Int)) (_:x=.ref a) (_:y=.ref p) (_:SqT K H a [.int q.1,.int q.2]) (_:SqL K H p f) (_:ziT K H f c) (_:Q (.bl (if b then !decide (q∈c) else decide (q∈c))) H):zhX K b x y H Q
section
variable{X:Cx}
theorem zig{K:W.Frag}(hk:X.K=K)(hu:X.A.units+64<cLine):OpR X (compareOp .In) (zhX K false):=by
 subst hk;intro b s σ H x y v u Q I w B h;obtain⟨a,p,q,D,C,rfl,rfl,c,f,hx,k⟩:=h;cases w;cases B;obtain⟨g,r,l,hz⟩:=I.list f;obtain⟨h1,h2⟩:=zb6 I c hx r (A:=X.A.in1) (by show X.A.units+1<cLine;omega)
 refine zax _ l.isList h1 ⟨.bl _,H,I,rfl,?_⟩
 rw[h2];exact k
theorem zcT{K:W.Frag}(hk:X.K=K)(hu:X.A.units+64<cLine):OpR X (compareOp .NotIn) (zhX K true):=by
 subst hk;intro b s σ H x y v u Q I w B h;obtain⟨a,p,q,D,C,rfl,rfl,c,f,hx,k⟩:=h;cases w;cases B;obtain⟨g,r,l,hz⟩:=I.list f;obtain⟨h1,h2⟩:=zb6 I c hx r (A:=X.A.in1) (by show X.A.units+1<cLine;omega)
 refine SeqAt.notIn_listAt _ l.isList h1 ⟨.bl _,H,I,rfl,?_⟩
 rw[h2];exact k
end
end L2
namespace L2
open PySem PySem.Spec PyProof.Rows
def BoxAt(H:Hp)(b:Addr)(n:Int):Prop:=∃c b1 b2:Int,H b=some (.lst [.int c,.int b1,.int b2])/\0<=c/\0<=b1/\b1<2147483648/\0<=b2/\b2<=n
def SameB(b:Addr)(H f:Hp):Prop:=∀c o,H c=some o->c≠b->f c=some o
theorem QC{i j:Int}(h1:0<=i)(h2:i<18446744073709551616):CMul i j:=by
 have e1:(-(2^64):Int)= -18446744073709551616:=by decide
 have e2:((2^64):Int)=18446744073709551616:=by decide
 refine .inl ⟨?_,?_⟩
 ·rw[e1];omega
 ·rw[e2];exact h2
theorem zhu{a m j:Int}(h:0<m)(h2:m<18446744073709551616):CMul (a % m) j:=QC (wS _ (by omega)) (Int.lt_trans (Z3 _ h) h2)
section
variable{P:Program}{w:World}{K:W.Frag}{D:Str->Option Value}{C:Heap}
inductive WH(g:List V)(H:Hp)(Q:VK):Prop
 | mk (b:Addr) (c n:Int) (_:g=[.ref b,.int c]) (_:BoxAt H b n) (_:n<1099511627776) (_:0<c) (_:c<1073741824) (_:∀(r:Int) f,0<=r->r<c->BoxAt f b (n+1)->SameB b H f->Q (.int r) f):WH  g H Q
def vG:Sp:=fun b H Q _=>WH  b H Q
theorem u3{N P:List Str}{S:Scope}(a:S.kind=.function:=by rfl)(b:S.isCoroutine=false:=by rfl)(c:S.isGenerator=false:=by rfl)(d:N.Nodup:=by decide +kernel)(e:N.take P.length=P:=by rfl)(f:∀x∈P,S.names.lookup x=some .local∨S.names.lookup x=some .cell:=by decide +kernel)(g:∀y∈S.names,y.2≠.free:=by decide +kernel):zD N P S:=⟨a,b,c,d,e,f,g⟩
theorem zd5:zD ["_law_box_here","_law_size","_law_found","_law_step","_law_once","_law_twice"] ["_law_box_here","_law_size"] (zy (topL 33)):=u3
theorem zgh{f:Addr}{U:FuncData}(F:Fun K "_law_take" "_law_take" (topL 33) f U)(B:Blt D):qY P w K D C CX0 1 f U ["_law_box_here","_law_size"] vG:=by
 have J:=zd5.nd;refine F.ok zd5 (fun vs H Q E h=>?_) (fun a0 A T s H vs Q E hr h=>?_)
 ·obtain⟨b,I,n,rfl,_⟩:=h
  rfl
 ·obtain⟨b,I,n,rfl,⟨L,b1,b2,hb,p0,p1,G,p2,aa⟩,hn,l,O,k⟩:=h
  refine⟨_,(zf (jB (zG zbF (zF qJ (pv 0) zi (fun _ _=>rfl)) zi (zL _))
   (zf (jQ (zx YD rfl B.divmod YF (za (zF qJ (pv 0) zi (fun _ _=>rfl)) (za (pv 1) ze))) (qL rfl (zr (Vv (pv 0) zi yi) (zr (zq (i:=2) J rfl (Or.inl rfl)) qk))))
    (zo (zB (pv 2))))
   qF)
   (zf (jQ (zM ja (zF qJ (pv 0) zi (fun _ _=>rfl)) zi) (Vv (pv 0) zi yi))
   (zf (zE (i:=3) J rfl (Or.inl rfl) (zM ja zi (zM vK (zF qJ (pv 0) zi (fun _ _=>rfl)) (zF qJ (pv 0) zi (fun _ _=>rfl)))))
   (zf (zE (i:=4) J rfl (Or.inl rfl) (zM vp (zM vK (zM ja (zF qJ (pv 0) zi (fun _ _=>rfl)) (zM vK zi (zF qJ (pv 0) zi (fun _ _=>rfl)))) (pv 3)) zi))
   (zf (zE (i:=5) J rfl (Or.inl rfl) (zM vp (zM ja (zM vK (pv 4) (zM ja (zM vp (pv 4) zi) zi)) (zF qJ (pv 0) zi (fun _ _=>rfl))) zi))
   (zo (zB (zM vp (zM zbG (zM vp (zM vK (pv 5) (zM ja (zM vp (pv 5) zi) zi)) zi) zi) (pv 1))))))))),?_⟩
  refine⟨_,rfl,b,_,_,_,rfl,rfl,u4 hb,rfl,_,_,rfl,rfl,_,rfl,?_⟩
  refine xC (fun c=>?_) (fun c=>?_)
  ·refine⟨_,rfl,b,_,_,_,rfl,rfl,u4 hb,rfl,_,rfl,_,_,rfl,⟨l,O⟩,fun p Y=>?_⟩
   have M:b≠p:=zm hb Y;refine⟨p,_,rfl,u6 zd,rfl,_,_,rfl,_,rfl,b,_,_,_,rfl,rfl,(by rw[zp M];exact hb),rfl,_,_,rfl,rfl,_,rfl,?_⟩
   refine k _ _ (wS _ (by omega)) (Z3 _ l) ⟨_,b1,b2,zd,Int.ediv_nonneg p0 (by omega),p1,G,p2,by omega⟩ fun d o e N=>?_
   rw[zp N,zp (zm e Y)];exact e
  ·refine⟨_,rfl,b,_,_,_,rfl,rfl,u4 hb,rfl,_,_,rfl,rfl,_,rfl,b,_,_,_,rfl,rfl,hb,rfl,?_⟩
   have g:upd H b (.lst [.int L,.int b1,.int (b2+1)]) b=some (.lst [.int L,.int b1,.int (b2+1)]):=zd;refine⟨_,rfl,b,_,_,_,rfl,rfl,u4 g,rfl,_,rfl,b,_,_,_,rfl,rfl,u4 g,rfl,_,_,rfl,rfl,QC (by omega) (by omega),_,_,rfl,rfl,?_⟩
   refine⟨_,rfl,b,_,_,_,rfl,rfl,u4 g,rfl,_,rfl,b,_,_,_,rfl,rfl,u4 g,rfl,_,_,rfl,rfl,QC (by omega) (by omega),_,_,rfl,rfl,_,rfl,_,_,rfl,rfl,QC (by omega) (by omega),_,_,rfl,rfl,(by show(0:Int)<_;decide),?_⟩
   refine⟨_,rfl,_,rfl,_,_,rfl,rfl,(by show(0:Int)<_;decide),_,_,rfl,rfl,_,_,rfl,rfl,zhu (by decide) (by decide),_,rfl,b,_,_,_,rfl,rfl,u4 g,rfl,_,_,rfl,rfl,_,_,rfl,rfl,(by show(0:Int)<_;decide),?_⟩
   refine⟨_,rfl,_,rfl,_,_,rfl,rfl,(by show(0:Int)<_;decide),_,_,rfl,rfl,_,_,rfl,rfl,zhu (by decide) (by decide),_,_,rfl,rfl,(by show(0:Int)<_;decide),_,_,rfl,rfl,⟨by decide,by decide⟩,_,rfl,_,_,rfl,rfl,l,?_⟩
   refine k _ _ (wS _ (by omega)) (Z3 _ l) ⟨L,b1,b2+1,g,p0,p1,G,by omega,by omega⟩ fun d o e N=>?_
   rw[zp N];exact e
inductive zbj(K:W.Frag)(b:List V)(H:Hp)(Q:VK):Prop
 | mk (a:Addr) (c:List Int) (j:Nat) (_:b=[.ref a,.int j]) (_:SqL K H a (c.map V.int)) (_:j<=100) (_:∀p o,H p=none->BoxAt (upd H p o) p 0->Q (.ref p) (upd H p o)):zbj K b H Q
def zg6(K:W.Frag):Sp:=fun b H Q _=>zbj K b H Q
theorem zhf:zD ["_law_script","_law_k","_law_cell"] ["_law_script","_law_k"] (zy (topL 32)):=u3
theorem zb2{c:Int}{j:Nat}(b:j<=100):CMul (zdq c) (if decide (10^18<=zdq c)=true then 1 else 0):=by
 refine .inr ?_
 split
 ·exact⟨by decide,by decide⟩
 ·exact⟨by decide,by decide⟩
theorem zfn{c:Int}:0<=zdq c*(if decide (10^18<=zdq c)=true then 1 else 0):=by
 have h:0<=zdq c:=by unfold zdq;split<;>omega
 split
 ·rw[Int.mul_one];exact h
 ·rw[Int.mul_zero];exact Zq 0
theorem zio{f:Addr}{G:FuncData}(F:Fun K "_law_box" "_law_box" (topL 32) f G)(B:Blt D):qY P w K D C CX0 1 f G ["_law_script","_law_k"] (zg6 K):=by
 have N:=zhf.nd;refine F.ok zhf (fun O H Q E h=>?_) (fun L A l s H O Q E T h=>?_)
 ·obtain⟨a,b,j,rfl,_⟩:=h
  rfl
 ·obtain⟨a,b,j,rfl,I,J,k⟩:=h
  refine⟨_,(zf (zE (i:=2) N rfl (Or.inl rfl) (wv (zG W4 (pv 1) (zx zI rfl B.len boot_len (za (pv 0) ze)) (zL _)) (zF qJ (pv 0) (pv 1) (fun _ _=>rfl)) zi))
   (zo (zB (qC (za (zM vK (zx YE rfl B.abs YG (za (pv 2) ze)) (qH yY rfl B.int yB (za (qW zhp (zx YE rfl B.abs YG (za (pv 2) ze)) (zM zie zi zi) (zL _)) ze))) (za (zM vp (zM vK (zM ja (zM ja (zM vp (pv 2) zi) (zM vK zi (pv 1))) zi) zi) zi) (za zi ze))))))),?_⟩
  refine⟨_,rfl,_,rfl,a,_,rfl,.inl I,_,_,rfl,rfl,_,rfl,?_⟩
  refine xC (fun c=>?_) (fun c=>?_)
  ·have M:j<b.length:=by
    have:=jy c;rw[zn] at this;omega
   refine⟨_,rfl,_,rfl,a,_,_,.int b[j],rfl,rfl,I,qK (by simp[M]),?_⟩
   generalize b[j]=z;refine⟨_,rfl,_,rfl,_,rfl,_,rfl,_,_,rfl,rfl,⟨by decide,by decide,by decide⟩,_,_,rfl,rfl,.inr ⟨_,rfl,_,_,rfl,rfl,zb2 J,_,rfl,_,_,rfl,rfl,(by show(0:Int)<_;decide),_,rfl,_,_,rfl,rfl,QC (by decide) (by decide),_,_,rfl,rfl,_,_,rfl,rfl,_,_,rfl,rfl,?_,_,_,rfl,rfl,(by show(0:Int)<_;decide),(by rw[sizeLine_eq];exact(by decide:3<=16777216)),fun p g=>k p _ g ⟨_,_,_,zd,?_,?_,?_,by decide,by decide⟩⟩⟩
   ·refine QC ?_ ?_
    ·have:=wS z (show(2147483629:Int)≠0 by decide)
     omega
    ·have:=Z3 z (show(0:Int)<2147483629 by decide)
     omega
   ·exact zfn
   ·exact wS _ (by decide)
   ·exact Int.lt_trans (Z3 _ (by decide)) (by decide)
  ·refine⟨_,rfl,_,rfl,_,rfl,_,rfl,_,_,rfl,rfl,⟨by decide,by decide,by decide⟩,_,_,rfl,rfl,.inr ⟨_,rfl,_,_,rfl,rfl,zb2 J,_,rfl,_,_,rfl,rfl,(by show(0:Int)<_;decide),_,rfl,_,_,rfl,rfl,QC (by decide) (by decide),_,_,rfl,rfl,_,_,rfl,rfl,_,_,rfl,rfl,?_,_,_,rfl,rfl,(by show(0:Int)<_;decide),(by rw[sizeLine_eq];exact(by decide:3<=16777216)),fun p g=>k p _ g ⟨_,_,_,zd,?_,?_,?_,by decide,by decide⟩⟩⟩
   ·refine QC ?_ ?_
    ·have:=wS 0 (show(2147483629:Int)≠0 by decide)
     omega
    ·have:=Z3 0 (show(0:Int)<2147483629 by decide)
     omega
   ·exact zfn
   ·exact wS _ (by decide)
   ·exact Int.lt_trans (Z3 _ (by decide)) (by decide)
theorem zfh{b:List V}{lo c:Option Int}{x:V}(h:x∈jT b lo c):x∈b:=List.mem_of_mem_drop (Qu h)
theorem VG{n j:Nat}(h:j<n):ixN n (j:Int)=some j:=by
 unfold ixN;rw[zv (by omega),zv (by omega)];simp
theorem zfi(b:List Int)(lo c:Option Int):∃f:List Int,jT (b.map V.int) lo c=f.map V.int:=by
 refine⟨(b.drop (HT.sIx b.length 0 lo)).take (HT.sIx b.length b.length c-HT.sIx b.length 0 lo),?_⟩
 unfold jT;rw[zn,JL,List.map_drop]
theorem zgK(b:List Int)(z:Nat):(jT (b.map V.int) none (some (z:Int))).length=min z b.length:=by
 unfold jT;rw[HT.sIx_nat,HT.sIx_none,qm,Qq,zn];omega
theorem zgL(b:List Int)(z:Nat)(c:Option Int):(jT (b.map V.int) (some (z:Int)) c).length<=b.length-min z b.length:=by
 unfold jT;rw[HT.sIx_nat,qm,Qq,zn];omega
inductive WQ(K:W.Frag)(g:List V)(H:Hp)(Q:VK):Prop
 | mk (a:Addr) (f:List Int) (z:Nat) (_:g=[.ref a,.int z]) (_:SqL K H a (f.map V.int)) (_:f.length<=63) (_:1<=z) (_:z<=63) (_:∀(p:Addr) (c:List Int) b,Same H b->SqL K b p (c.map V.int)->c.length<=z->Q (.ref p) b):WQ K g H Q
def zdV(K:W.Frag):Sp:=fun b H Q _=>WQ K b H Q
theorem zed:zD ["_law_script","_law_size","_law_cells","_law_k","_law_cell"] ["_law_script","_law_size"] (zy (topL 34)):=u3
def zcr(a:_)(z:Nat)(p:_)(H:_)(q:_)(f:List Int):=fun(i:Nat) (σ:St) (b:Hp)=>(Ex3 fun(c:List Int) (g l:Option V)=>An5 (σ=[some (.ref a),some (.int z),some (.ref p),g,l]) (Same H b) (b p=some (.lst (c.map V.int))) (b q=some (.lst (jT (f.map V.int) (some (z:Int)) (some 63)))) (c.length=min z f.length):Prop)
theorem zgp{f:Addr}{fd:FuncData}(F:Fun K "_law_folded" "_law_folded" (topL 34) f fd)(B:Blt D):qY P w K D C CX0 1 f fd ["_law_script","_law_size"] (zdV K):=by
 have nd:=zed.nd;refine F.ok zed (fun vs H Q E h=>?_) (fun ag A ae s H vs Q E hr h=>?_)
 ·obtain⟨a,b,z,rfl,_⟩:=h
  rfl
 ·obtain⟨a,b,z,rfl,hS,af,ai,aj,k⟩:=h
  refine⟨_,(zf (zE (i:=2) nd rfl (Or.inl rfl) (qH wN rfl B.list xJ (za (wu ZJ (pv 0) ZN (wG (pv 1))) ze)))
   (zf (qZ jC rfl (Vu rfl B.enumerate (za (wu ZJ (pv 0) (wG (pv 1)) (wG zi)) ze)) (qL rfl (zr (zq (i:=3) nd rfl (Or.inl rfl)) (zr (zq (i:=4) nd rfl (Or.inl rfl)) qk)))
   (zo (jQ (zM ja (zF qJ (pv 2) (zM vp (pv 3) (pv 1)) (fun _ _=>rfl)) (zM vK (pv 4) (zM ja (pv 3) zi))) (Vv (pv 2) (zM vp (pv 3) (pv 1)) yi))))
   (zo (zB (pv 2))))),?_⟩
  refine⟨_,rfl,_,rfl,_,rfl,a,_,rfl,hS,fun l hl=>⟨l,_,rfl,.inl (u4 zd),fun p hp=>?_⟩⟩
  have s1:Same H (upd (upd H l (.lst (jT (b.map V.int) none (some (z:Int))))) p (.lst (jT (b.map V.int) none (some (z:Int))))):=(zb hl).trans (zb hp);generalize a0:upd (upd H l (.lst (jT (b.map V.int) none (some (z:Int))))) p (.lst (jT (b.map V.int) none (some (z:Int))))=H1 at s1;have M:H1 p=some (.lst (jT (b.map V.int) none (some (z:Int)))):=by rw[<- a0];exact zd
  have np:H p=none:=(zb hl).free hp;refine⟨_,rfl,_,rfl,_,rfl,_,rfl,a,_,rfl,s1.seq hS,fun q hq=>⟨q,rfl,⟨_,u4 zd⟩,?_⟩⟩
  have U:p≠q:=zm M hq;obtain⟨aa,G⟩:=zfi b none (some (z:Int));have lo:=zgK b z;have hi:=zgL b z (some 63);refine Js (K:=K) (a:=q) (xs:=jT (b.map V.int) (some (z:Int)) (some 63)) (zcr a z p H q b)
   ⟨aa,none,none,rfl,s1.trans (zb hq),by rw[zp U,M,G],zd,by rw[<- lo,G,zn]⟩ (fun i σ Y _ ⟨_,_,_,_,_,_,h,_⟩=>u4 h) ?_ ?_
  ·rintro i x σ Y T hx ⟨J,v3,v4,rfl,sm,g,I,L⟩ hT
   have ah:i<(jT (b.map V.int) (some (z:Int)) (some 63)).length:=(zC.mp hx).1;obtain⟨c,rfl⟩:∃c,x=V.int c:=by
    have:=zfh (qr hx);obtain⟨c,_,e⟩:=zN.mp this;exact⟨c,e.symm⟩
   have hj:i % z<J.length:=by
    have:=Nat.mod_lt i (show 0<z by omega)
    omega
   have ab:p≠T:=zm g hT;have ac:q≠T:=zm I hT;have N:upd Y T (.tup [.int i,.int c]) p=some (.lst (J.map V.int)):=by rw[zp ab];exact g
   have em:((i % z:Nat):Int)=(i:Int) % (z:Int):=Int.natCast_emod i z;have O:(0:Int)<(z:Int):=by omega
   refine⟨T,_,rfl,u6 zd,rfl,_,_,rfl,_,_,rfl,rfl,?_⟩
   refine⟨_,rfl,_,rfl,_,rfl,_,_,rfl,rfl,O,p,_,_,.int J[i % z],rfl,rfl,u4 N,(by rw[<- em];exact qK (by simp[hj])),?_⟩
   refine⟨_,rfl,_,rfl,_,_,rfl,rfl,_,_,rfl,rfl,.inr ⟨?_,?_⟩,_,_,rfl,rfl,?_⟩
   ·have e1:(-(2^64):Int)= -18446744073709551616:=by decide
    rw[e1];omega
   ·have e2:((2^64):Int)=18446744073709551616:=by decide
    rw[e2];omega
   refine⟨_,rfl,_,rfl,_,rfl,_,_,rfl,rfl,O,p,_,_,i % z,rfl,rfl,N,(by rw[<- em,zn];exact VG hj),?_⟩
   refine⟨J.set (i % z) (J[i % z]+c*((i:Int)+2)),_,_,rfl,fun d o e=>?_,by rw[zd,List.map_set],?_,by rw[zay];exact L⟩
   ·rw[zp (zm e np),zp (zm (sm d o e) hT)]
    exact sm d o e
   ·rw[zp (z9 U),zp ac]
    exact I
  ·rintro σ Y ⟨J,v3,v4,rfl,sm,g,I,L⟩
   exact⟨_,rfl,k p J Y sm (u4 g) (by omega)⟩
theorem le0:([]:List V).length<=sizeLine:=ji _
theorem le2{x y:V}:[x,y].length<=sizeLine:=by rw[sizeLine_eq];exact(by decide:2<=16777216)
theorem SameB.refl(b:Addr)(H:Hp):SameB b H H:=fun _ _ e _=>e
def u8:=@SameB.refl
theorem SameB.trans{b:Addr}{H f g:Hp}(a:SameB b H f)(c:SameB b f g):SameB b H g:=fun d o e l=>c d o (a d o e l) l
theorem SameB.of{b:Addr}{H c:Hp}(a:Same H c):SameB b H c:=fun d o e _=>a d o e
def u9:=@SameB.of
theorem SameB.new{b p:Addr}{o:HO}{H c:Hp}(a:SameB b H c)(h:c p=none):SameB b H (upd c p o):=a.trans (.of (zb h))
theorem BoxAt.new{b p:Addr}{o:HO}{H:Hp}{n:Int}(a:BoxAt H b n)(h:H p=none):BoxAt (upd H p o) b n:=by
 obtain⟨c,b1,b2,e,r⟩:=a;exact⟨c,b1,b2,by rw[zp (zm e h)];exact e,r⟩
theorem BoxAt.same{b:Addr}{H c:Hp}{n:Int}(a:BoxAt H b n)(s:Same H c):BoxAt c b n:=by
 obtain⟨f,b1,b2,e,r⟩:=a;exact⟨f,b1,b2,s _ _ e,r⟩
theorem BoxAt.ne{b t:Addr}{H:Hp}{n:Int}{o:HO}(a:BoxAt H b n)(h:H t=some o)(c:∀x y z,o≠.lst [x,y,z]):t≠b:=by
 obtain⟨f,b1,b2,e,r⟩:=a;exact zbH h e (c _ _ _)
theorem BoxAt.some{b:Addr}{H:Hp}{n:Int}(a:BoxAt H b n):∃o,H b=.some o:=let ⟨_,_,_,e,_⟩:=a;⟨_,e⟩
theorem BoxAt.mono{b:Addr}{H:Hp}{n m:Int}(a:BoxAt H b n)(h:n<=m):BoxAt H b m:=by
 obtain⟨c,b1,b2,e,f,g,l,s,A⟩:=a;exact⟨c,b1,b2,e,f,g,l,s,by omega⟩
theorem le1{x:V}:[x].length<=sizeLine:=by rw[sizeLine_eq];exact(by decide:1<=16777216)
theorem le3{x y z:V}:[x,y,z].length<=sizeLine:=by rw[sizeLine_eq];exact(by decide:3<=16777216)
theorem le4{x y z u:V}:[x,y,z,u].length<=sizeLine:=by rw[sizeLine_eq];exact(by decide:4<=16777216)
theorem leN{b:List V}(h:b.length<=1000):b.length<=sizeLine:=by rw[sizeLine_eq];omega
theorem VU{α:Type}{xs:List α}{i:Int}(h:0<=i)(c:i<xs.length):∃v,atI xs i=some v/\xs[i.toNat]? =some v:=by
 have b:i.toNat<xs.length:=by omega
 refine⟨xs[i.toNat],?_,by simp[b]⟩
 have:=qK (xs:=xs) (j:=i.toNat) (v:=xs[i.toNat]) (by simp[b])
 rwa[show((i.toNat:Nat):Int)=i by omega] at this
theorem SameB.put{b m:Addr}{H f:Hp}{o:HO}(s:SameB b H f)(h:H m=none):SameB b H (upd f m o):=fun c u e hc=>by
 rw[zp (zm e h)];exact s c u e hc
theorem SameB.none{b m:Addr}{H c:Hp}(s:SameB b H c)(h:c m=none)(f:m≠b):H m=none:=by
 cases q:H m with
 | none=>rfl
 | some o=>have:=s m o q f;rw[h] at this;cases this
def wK(x:Str):Prop:=(x.cps.toList.map Yj).all id=true
theorem ziu{r:Int}(h0:0<=r)(h1:r<26):∃c,atI zjI.cps.toList r=some c/\Yj c=true:=by
 rw[zeW];obtain⟨c,e,b⟩:=VU (xs:=List.range' 97 26) h0 (by rw[List.length_range'];omega)
 have f:=List.mem_range'_1.mp (qr b);refine⟨c,e,?_⟩
 unfold Yj;rw[zV (by omega),zV (by omega)]
 rfl
theorem zeV{c:Nat}{y:Str}(h:Yj c=true)(hy:wK y):wK ((⟨#[c]⟩:Str)++y):=by
 unfold wK at hy ⊢;show((#[c]++y.cps).toList.map Yj).all id=true;rw[Array.toList_append,zP,List.all_append,hy,Bool.and_true];show(Yj c&&true)=true;rw[h];rfl
theorem zeX{c:Nat}{y:Str}:((⟨#[c]⟩:Str)++y).length=y.length+1:=by
 show(#[c]++y.cps).size=y.cps.size+1;rw[Array.size_append];show 1+_=_;omega
theorem BoxAt.nne{b p:Addr}{H:Hp}{n:Int}(a:BoxAt H b n)(h:H p=none):p≠b:=by
 obtain⟨o,e⟩:=a.some;exact(zm e h).symm
theorem BoxAt.other{b l:Addr}{H:Hp}{n:Int}{o:HO}(a:BoxAt H b n)(h:l≠b):BoxAt (upd H l o) b n:=by
 obtain⟨c,b1,b2,e,r⟩:=a;exact⟨c,b1,b2,by rw[zp (z9 h)];exact e,r⟩
def Nm(x:Str):Prop:=x.length<=8/\∀c∈x.cps.toList,c<1000000
theorem zkg{x:Str}(h:x.length<=8)(l:wK x):Nm x:=⟨h,fun c hc=>by
 unfold wK at l;have:=vN.mp l (Yj c) (zN.mpr ⟨c,hc,rfl⟩);unfold Yj at this;simp at this;omega⟩
theorem XD:∀(b:List Str),(b.map V.str).all xH=true
 | []=>rfl
 | n::b=>by
  show(true&&(b.map V.str).all xH)=true;rw[XD b];rfl
inductive XI(f:List V)(H:Hp)(Q:VK):Prop
 | mk (c b:Int) (_:f=[.int c,.int b]) (_:0<=c) (_:1<=b) (_:b<=8) (_:∀y:Str,(y.length:Int)=b->wK y->Q (.str y) H):XI  f H Q
def za8:Sp:=fun b H Q _=>XI  b H Q
theorem zbn:zD ["_law_number","_law_size","_law_word","_law_k"] ["_law_number","_law_size"] (zy (topL 35)):=u3
def zcq(c:_)(H:_):=fun(i:Nat) (σ:St) (f:Hp)=>(Ex3 fun(b:Int) (y:Str) (g:Option V)=>An5 (σ=[some (.int b),some (.int c),some (.str y),g]) (0<=b) (y.length=i) (wK y) (f=H):Prop)
theorem zeJ{f:Addr}{M:FuncData}(F:Fun K "_law_spelled" "_law_spelled" (topL 35) f M)(B:Blt D):qY P w K D C CX0 1 f M ["_law_number","_law_size"] za8:=by
 have I:=zbn.nd;refine F.ok zbn (fun vs H Q E h=>?_) (fun Y A L s H vs Q E hr h=>?_)
 ·obtain⟨G,g,rfl,_⟩:=h
  rfl
 ·obtain⟨G,g,rfl,n0,s0,s1,k⟩:=h
  have N:=bG100000;have l:=bGe;refine⟨_,(zf (zE (i:=2) I rfl (Or.inl rfl) Qc)
   (zf (qZ jC rfl (jz rfl B.range (za (pv 1) ze)) (zq (i:=3) I rfl (Or.inl rfl))
   (zf (zE (i:=2) I rfl (Or.inl rfl) (zM Y9 (zF ziz Qc (zM vp (pv 0) zi) (fun _ _=>rfl)) (pv 2)))
    (zo (zE (i:=0) I rfl (Or.inl rfl) (zM zbG (pv 0) zi)))))
   (zo (zB (pv 2))))),?_⟩
  refine⟨_,rfl,_,rfl,(by rw[l];omega),(by rw[l];omega),?_⟩
  refine j5 (zcq g H) ⟨G,_,_,rfl,n0,rfl,rfl,rfl⟩ ?_ ?_
  ·rintro i σ U hi ⟨b,y,v3,rfl,T,O,J,rfl⟩
   obtain⟨c,hc,lc⟩:=ziu (r:=b % 26) (wS _ (by decide)) (Z3 _ (by decide))
   refine⟨_,rfl,_,_,rfl,rfl,(by show(0:Int)<26;decide),_,_,c,rfl,rfl,(by rw[sizeLine_eq];decide),hc,_,rfl,_,_,rfl,rfl,?_,?_⟩
   ·show 1+y.length<=sizeLine
    omega
   ·exact⟨_,rfl,_,_,rfl,rfl,⟨by decide,by decide⟩,_,_,_,rfl,Int.ediv_nonneg T (by decide),by rw[zeX,O],zeV lc J,rfl⟩
  ·rintro σ U ⟨b,y,v3,rfl,T,O,J,rfl⟩
   exact⟨_,rfl,k y (by omega) J⟩
inductive zbe(g:List V)(H:Hp)(Q:VK):Prop
 | mk (b t:Addr) (n:Int) (f:List Str) (_:g=[.ref b,.ref t]) (_:BoxAt H b n) (_:n<1099511000000) (_:t≠b) (_:H t=some (.lst (f.map V.str))) (_:f.length<=1000) (_:∀(y:Str) c,SameB b H c->BoxAt c b (n+12)->1<=y.length->y.length<=8->wK y->Q (.str y) c):zbe  g H Q
def zg2:Sp:=fun b H Q _=>zbe  b H Q
theorem zg9:zD ["_law_box_here","_law_taken","_law_size","_law_number","_law_k","_law_word","_law_turn"] ["_law_box_here","_law_taken"] (zy (topL 36)):=u3
theorem zh4{r:Int}(h0:0<=r)(h1:r<4):∃z:Int,atI [V.int 3,V.int 3,V.int 3,V.int 8] r=some (.int z)/\3<=z/\z<=8:=by
 have hc:r=0\/r=1\/r=2\/r=3:=by omega
 rcases hc with rfl | rfl | rfl | rfl
 ·exact⟨3,rfl,by decide,by decide⟩
 ·exact⟨3,rfl,by decide,by decide⟩
 ·exact⟨3,rfl,by decide,by decide⟩
 ·exact⟨8,rfl,by decide,by decide⟩
def zcp(b:_)(t:_)(g:_)(H:_)(n:_):=fun(i:Nat) (σ:St) (f:Hp)=>(Ex2 fun(c:Int) (l:Option V)=>An4 (σ=[some (.ref b),some (.ref t),some (.int (1+g)),some (.int c),l,none,none]) (0<=c) (SameB b H f) (BoxAt f b (n+2+i)):Prop)
def zco(b:_)(t:_)(l:_)(c:_)(f:_):=fun(i:Nat) (σ:St) (g:Hp)=>(Ex3 fun(s A:Option V) (y:Str)=>An5 (σ=[some (.ref b),some (.ref t),some (.int (1+l)),some (.int c),s,some (.str y),A]) (1<=y.length) (y.length<=8) (wK y) (g=f):Prop)
theorem zii{f:Addr}{fd:FuncData}(F:Fun K "_law_name" "_law_name" (topL 36) f fd)(B:Blt D)(G:Dfn P w K D C "_law_take" 1 ["_law_box_here","_law_size"] vG)(g:Dfn P w K D C "_law_spelled" 1 ["_law_number","_law_size"] za8):qY P w K D C CX0 2 f fd ["_law_box_here","_law_taken"] zg2:=by
 have J:=zg9.nd;refine F.ok zg9 (fun vs H Q E h=>?_) (fun ag A af s H vs Q E N h=>?_)
 ·obtain⟨b,t,n,U,rfl,_⟩:=h
  rfl
 ·obtain⟨b,t,n,U,rfl,B0,hn,ae,ht,ah,k⟩:=h
  have I:=bGe;refine⟨_,(zf (zE (i:=2) J rfl (Or.inl rfl) (zM ja zi (zk G N.m rfl (za (pv 0) (za (zF qJ (qC (za zi (za zi (za zi (za zi ze))))) (zk G N.m rfl (za (pv 0) (za zi ze))) (fun _ _=>rfl)) ze)))))
   (zf (zE (i:=3) J rfl (Or.inl rfl) zi)
   (zf (qZ jC rfl (jz rfl B.range (za (pv 2) ze)) (zq (i:=4) J rfl (Or.inl rfl))
   (zo (zE (i:=3) J rfl (Or.inl rfl) (zM ja (zM vK (pv 3) zi) (zk G N.m rfl (za (pv 0) (za zi ze)))))))
   (zf (zE (i:=5) J rfl (Or.inl rfl) (zk g N.m rfl (za (pv 3) (za (pv 2) ze))))
   (zf (qZ jC rfl (jz rfl B.range (za (zM ja (zx zI rfl B.len boot_len (za (pv 1) ze)) zi) ze)) (zq (i:=6) J rfl (Or.inl rfl))
   (zo (jB (zG Qd (pv 5) (pv 1) (by with_unfolding_all rfl))
    (zo (zE (i:=5) J rfl (Or.inl rfl) (zk g N.m rfl (za (zM ja (pv 3) (pv 6)) (za zi ze)))))
    qF)))
   (zo (zB (pv 5)))))))),?_⟩
  refine⟨_,rfl,le4,fun l hl=>⟨_,rfl,b,4,n,rfl,B0.new hl,by omega,by decide,by decide,fun r H1 r0 r1 B1 S1=>?_⟩⟩
  have L1:=S1 l _ (zd (H:=H)) ((B0.new hl).ne (zd (H:=H) (o:=.lst [.int 3,.int 3,.int 3,.int 8])) (by intro x y z e;cases e))
  have aa:=((u8 b H).new (o:=.lst [.int 3,.int 3,.int 3,.int 8]) hl).trans S1;obtain⟨z,ez,z0,z1⟩:=zh4 r0 r1;refine⟨l,_,_,_,rfl,rfl,u4 L1,ez,b,z,n+1,rfl,B1,by omega,by omega,by omega,fun r2 H2 a0 a1 B2 S2=>⟨_,_,rfl,rfl,?_⟩⟩
  have ab:=aa.trans S2;refine⟨_,rfl,_,rfl,(by rw[I];omega),(by rw[I];omega),?_⟩
  refine j5 (zcp b t r2 H n) ⟨0,_,rfl,by decide,ab,B2.mono (by omega)⟩ ?_ ?_
  ·rintro i σ H4 hi ⟨L,v4,rfl,m0,T,Y⟩
   refine⟨_,rfl,_,_,rfl,rfl,.inr ⟨by decide,by decide⟩,_,rfl,b,26,_,rfl,Y,by omega,by decide,by decide,fun r3 H5 c0 c1 B5 S5=>⟨_,_,rfl,rfl,_,_,rfl,?_,T.trans S5,B5.mono (by omega)⟩⟩
   omega
  ·rintro σ H4 ⟨L,v4,rfl,m0,T,Y⟩
   refine⟨_,rfl,_,rfl,L,1+r2,rfl,m0,by omega,by omega,fun y ly M=>?_⟩
   have O:=T t _ ht ae;have el:(U.map V.str).length=U.length:=zn ..;refine⟨_,rfl,t,_,rfl,.inl (u4 O),_,_,rfl,rfl,_,rfl,(by rw[I,el];omega),(by rw[I,el];omega),?_⟩
   refine j5 (zco b t r2 L H4) ⟨_,_,y,rfl,by omega,by omega,M,rfl⟩ ?_ ?_
   ·rintro i σ H5 hi ⟨v4,v6,y,rfl,y0,y1,M,rfl⟩
    refine⟨_,rfl,_,rfl,t,_,rfl,.inl (u4 O),rfl,XD U,_,rfl,xC (fun c=>?_) (fun c=>⟨_,_,y,rfl,y0,y1,M,rfl⟩)⟩
    exact⟨_,rfl,_,rfl,_,_,rfl,rfl,_,8,rfl,by omega,by decide,by decide,fun y' ai ac=>⟨_,_,y',rfl,by omega,by omega,ac,rfl⟩⟩
   ·rintro σ H5 ⟨v4,v6,y,rfl,y0,y1,M,rfl⟩
    exact⟨_,rfl,k y _ T (Y.mono (by omega)) y0 y1 M⟩
def Row(H:Hp)(l:Addr)(b:List Str):Prop:=H l=some (.lst (b.map V.str))/\∀x∈b,Nm x
theorem Row.same{H b:Hp}{l:Addr}{c:List Str}(r:Row H l c)(s:Same H b):Row b l c:=⟨s _ _ r.1,r.2⟩
theorem Row.draw{H c:Hp}{b l:Addr}{f:List Str}(r:Row H l f)(s:SameB b H c)(h:l≠b):Row c l f:=⟨s _ _ r.1 h,r.2⟩
inductive XO(g:List V)(H:Hp)(Q:VK):Prop
 | mk (b:Addr) (m n:Int) (_:g=[.ref b,.int m]) (_:BoxAt H b n) (_:n<1000000) (_:0<=m) (_:m<=12) (_:∀(l:Addr) (f:List Str) c,SameB b H c->BoxAt c b (n+150)->l≠b->H l=none->Row c l f->(f.length:Int)=m->Q (.ref l) c):XO  g H Q
def zbd:Sp:=fun b H Q _=>XO  b H Q
theorem zbr:zD ["_law_box_here","_law_many","_law_found","_law_k"] ["_law_box_here","_law_many"] (zy (topL 37)):=u3
def zcn(b:_)(m:_)(l:_)(H:_)(n:_):=fun(i:Nat) (σ:St) (c:Hp)=>(Ex2 fun(f:List Str) (g:Option V)=>An5 (σ=[some (.ref b),some (.int m),some (.ref l),g]) (SameB b H c) (BoxAt c b (n+12*i)) (Row c l f) (f.length=i):Prop)
theorem zeN{f:Addr}{fd:FuncData}(F:Fun K "_law_names" "_law_names" (topL 37) f fd)(B:Blt D)(c:Dfn P w K D C "_law_name" 2 ["_law_box_here","_law_taken"] zg2):qY P w K D C CX0 3 f fd ["_law_box_here","_law_many"] zbd:=by
 have nd:=zbr.nd;refine F.ok zbr (fun vs H Q E h=>?_) (fun aa A O s H vs Q E hr h=>?_)
 ·obtain⟨b,m,n,rfl,_⟩:=h
  rfl
 ·obtain⟨b,m,n,rfl,T,hn,m0,m1,k⟩:=h
  have a0:=bG100000;have I:=bGe;refine⟨_,(zf (zE (i:=2) nd rfl (Or.inl rfl) (qC ze))
   (zf (qZ jC rfl (jz rfl B.range (za (pv 1) ze)) (zq (i:=3) nd rfl (Or.inl rfl))
   (zo (jt (xE xL w9 w8 jE (pv 2) (za (zk c hr.m rfl (za (pv 0) (za (pv 2) ze))) ze)))))
   (zo (zB (pv 2))))),?_⟩
  refine⟨le0,fun l J=>?_⟩
  have nl:=T.nne J;refine⟨_,rfl,_,rfl,(by rw[I];omega),(by rw[I];omega),?_⟩
  refine j5 (zcn b m l H n) ⟨[],_,rfl,(u8 b H).new J,(T.new J).mono (by omega),⟨zd,fun x h=>nomatch h⟩,rfl⟩ ?_ ?_
  ·rintro i σ U hi ⟨L,v3,rfl,N,M,G,g⟩
   refine⟨_,rfl,.inl ⟨rfl,_,u4 G.1⟩,_,rfl,_,rfl,b,l,_,L,rfl,M,by omega,nl,G.1,by omega,fun y H5 Y B5 y0 y1 al=>⟨l,_,_,rfl,rfl,(G.draw Y nl).1,by rw[zn,g];omega,?_⟩⟩
   refine⟨L++[y],_,rfl,(N.trans Y).put J,(B5.other nl).mono (by omega),⟨by rw[zd,zP];rfl,fun x hx=>?_⟩,by rw[qo,g];rfl⟩
   rcases qU.mp hx with q | q
   ·exact G.2 x q
   ·rw[qD.mp q];exact zkg y1 al
  ·rintro σ U ⟨L,v3,rfl,N,M,G,g⟩
   exact⟨_,rfl,k l L U N (M.mono (by omega)) nl J G (by omega)⟩
def SameT(H c:Hp):Prop:=∀a u,H a=some u->(∀f,u≠.lst f)->(∀b,u≠.dK b)->c a=some u
theorem SameT.refl(H:Hp):SameT H H:=fun _ _ e _ _=>e
theorem SameT.trans{H f g:Hp}(a:SameT H f)(b:SameT f g):SameT H g:=fun c u e h i=>b c u (a c u e h i) h i
theorem SameT.of{H b:Hp}(s:Same H b):SameT H b:=fun a u e _ _=>s a u e
theorem SameT.draw{H c:Hp}{b:Addr}{n:Int}(B:BoxAt H b n)(s:SameB b H c):SameT H c:=fun a u e h _=>by
 obtain⟨g,b1,b2,f,_⟩:=B;exact s a u e (fun z=>by rw[z,f] at e;cases e;exact h _ rfl)
def u7:=@SameT.draw
theorem SameT.put{H:Hp}{l:Addr}{b ys:List V}(h:H l=some (.lst b)):SameT H (upd H l (.lst ys)):=fun a u e hu _=>by
 rw[zp (fun z=>by rw[z,h] at e;cases e;exact hu _ rfl)];exact e
def ub:=@SameT.put
theorem SameT.putD{H:Hp}{l:Addr}{b:List (Key×V)}{o:HO}(h:H l=some (.dK b)):SameT H (upd H l o):=fun a u e _ hu=>by
 rw[zp (fun z=>by rw[z,h] at e;cases e;exact hu _ rfl)];exact e
def PlA(H:Hp)(a:Addr):Prop:=∃x y:Int,H a=some (.tup [.int x,.int y])/\0<=x/\x<=1000/\0<=y/\y<=1000
theorem PlA.draw{H c:Hp}{a b:Addr}{n:Int}(h:PlA H a)(B:BoxAt H b n)(s:SameB b H c):PlA c a:=by
 obtain⟨x,y,e,r⟩:=h;obtain⟨g,b1,b2,f,_⟩:=B;exact⟨x,y,s a _ e (zbH e f (by intro z;cases z)),r⟩
inductive XL(K:W.Frag)(g:List V)(H:Hp)(Q:VK):Prop
 | mk (b t:Addr) (n:Int) (f:List Addr) (_:g=[.ref b,.ref t]) (_:BoxAt H b n) (_:n<1099511627000) (_:t≠b) (_:H t=some (.lst (f.map V.ref))) (_:f.length<=1000) (_:(∀a∈f,PlA H a)) (_:∀(p:Addr) c,SameB b H c->BoxAt c b (n+3)->H p=none->PlA c p->Q (.ref p) c):XL K g H Q
def QQ(K:W.Frag):Sp:=fun b H Q _=>XL K b H Q
theorem zbo:zD ["_law_box_here","_law_taken","_law_most","_law_x","_law_y","_law_turn"] ["_law_box_here","_law_taken"] (zy (topL 38)):=u3
def zcm(b:_)(t:_)(y:_)(H:_)(n:_):=fun(i:Nat) (σ:St) (c:Hp)=>(Ex3 fun(f g:Option V) (x:Int)=>An5 (σ=[some (.ref b),some (.ref t),f,some (.int x),some (.int y),g]) (0<=x) (x<=1000) (SameB b H c) (BoxAt c b (n+1+1+1)):Prop)
theorem zeK{f:Addr}{fd:FuncData}(F:Fun K "_law_place" "_law_place" (topL 38) f fd)(B:Blt D)(g:Dfn P w K D C "_law_take" 1 ["_law_box_here","_law_size"] vG):qY P w K D C CX0 2 f fd ["_law_box_here","_law_taken"] (QQ K):=by
 have U:=zbo.nd;refine F.ok zbo (fun vs H Q E h=>?_) (fun ac A ab s H vs Q E T h=>?_)
 ·obtain⟨b,t,n,Y,rfl,_⟩:=h
  rfl
 ·obtain⟨b,t,n,Y,rfl,B0,hn,O,ht,ae,pa,k⟩:=h
  have N:=T.units;have M:=bGe;have el:(Y.map V.ref).length=Y.length:=zn ..;refine⟨_,(zf (zE (i:=2) U rfl (Or.inl rfl) (wv (zG j8 (zk g T.m rfl (za (pv 0) (za zi ze))) zi (zL _)) zi zi))
   (zf (zem (i:=3) (j:=4) rfl U rfl rfl (by decide) rfl rfl (za (zk g T.m rfl (za (pv 0) (za (pv 2) ze))) (za (zk g T.m rfl (za (pv 0) (za (pv 2) ze))) ze)) (by rfl))
   (zf (qZ jC rfl (jz rfl B.range (za (zM ja (zx zI rfl B.len boot_len (za (pv 1) ze)) zi) ze)) (zq (i:=5) U rfl (Or.inl rfl))
   (zo (jB (zG (zgd N) (qX (za (pv 3) (za (pv 4) ze))) (pv 1) (by with_unfolding_all rfl))
    (zo (zE (i:=3) U rfl (Or.inl rfl) (zM vp (zM ja (pv 3) zi) zi)))
    qF)))
   (zo (zB (qX (za (pv 3) (za (pv 4) ze)))))))),?_⟩
  refine⟨_,rfl,b,4,n,rfl,B0,by omega,by decide,by decide,fun r H1 r0 r1 B1 S1=>⟨rfl,_,rfl,xC (fun c=>?_) (fun c=>?_)⟩⟩
  all_goals
   refine⟨_,rfl,_,rfl,b,_,n+1,rfl,B1,by omega,by decide,by decide,fun x H2 x0 x1 B2 S2=>⟨_,rfl,_,rfl,b,_,n+1+1,rfl,B2,by omega,by decide,by decide,fun y H3 y0 y1 B3 S3=>⟨_,_,rfl,?_⟩⟩⟩
   have S4:=S1.trans (S2.trans S3);have aa:=S4 t _ ht O;refine⟨_,rfl,t,_,rfl,.inl (u4 aa),_,_,rfl,rfl,_,rfl,(by rw[M,el];omega),(by rw[M,el];omega),?_⟩
   refine j5 (zcm b t y H n) ⟨_,none,x,rfl,x0,by omega,S4,B3⟩ ?_ ?_
   ·rintro i σ H4 _ ⟨v2,v5,x,rfl,I,J,G,L⟩
    refine⟨_,rfl,_,rfl,le2,fun p l=>⟨_,rfl,p,t,_,_,rfl,rfl,u6 zd,rfl,u4 ((G.new l) t _ ht O),fun v hv=>?_,fun q=>⟨_,rfl,xC (fun d=>?_) (fun d=>?_)⟩⟩⟩
    ·obtain⟨c,hc,rfl⟩:=zN.mp hv
     obtain⟨cx,cy,a0,_⟩:=(pa c hc).draw B0 (G.new (o:=.tup [.int x,.int y]) l);exact⟨c,_,rfl,u6 a0,rfl⟩
    ·exact⟨_,rfl,_,_,rfl,rfl,_,_,rfl,rfl,(by show(0:Int)<1001;decide),_,_,_,rfl,wS _ (by decide),by have:=Z3 (x+1) (by decide:(0:Int)<1001);omega,G.new l,L.new l⟩
    ·exact⟨_,_,x,rfl,I,J,G.new l,L.new l⟩
   ·rintro σ H4 ⟨v2,v5,x,rfl,I,J,G,L⟩
    have B6:BoxAt H4 b (n+3):=by
     have e:n+3=n+1+1+1:=by omega
     rw[e];exact L
    exact⟨_,rfl,_,rfl,le2,fun p l=>k p _ (G.new l) (B6.new l) (G.none l (L.nne l)) ⟨x,y,zd,I,J,y0,by omega⟩⟩
inductive Q6(g:List V)(H:Hp)(Q:VK):Prop
 | mk (b:Addr) (m n:Int) (_:g=[.ref b,.int m]) (_:BoxAt H b n) (_:n<1000000) (_:0<=m) (_:m<=100) (_:∀(l:Addr) (f:List Addr) c,SameB b H c->BoxAt c b (n+400)->l≠b->H l=none->c l=some (.lst (f.map V.ref))->(∀a∈f,PlA c a)->(f.length:Int)=m->Q (.ref l) c):Q6  g H Q
def WL:Sp:=fun b H Q _=>Q6  b H Q
theorem WW:zD ["_law_box_here","_law_many","_law_found","_law_k"] ["_law_box_here","_law_many"] (zy (topL 39)):=u3
def zcl(b:_)(m:_)(l:_)(H:_)(n:_):=fun(i:Nat) (σ:St) (c:Hp)=>(Ex2 fun(f:List Addr) (g:Option V)=>An6 (σ=[some (.ref b),some (.int m),some (.ref l),g]) (SameB b H c) (BoxAt c b (n+3*i)) (c l=some (.lst (f.map V.ref))) ((∀a∈f,PlA c a)) (f.length=i):Prop)
theorem zcU{f:Addr}{fd:FuncData}(F:Fun K "_law_places" "_law_places" (topL 39) f fd)(B:Blt D)(c:Dfn P w K D C "_law_place" 2 ["_law_box_here","_law_taken"] (QQ K)):qY P w K D C CX0 3 f fd ["_law_box_here","_law_many"] WL:=by
 have nd:=WW.nd;refine F.ok WW (fun vs H Q E h=>?_) (fun aa A Y s H vs Q E hr h=>?_)
 ·obtain⟨b,m,n,rfl,_⟩:=h
  rfl
 ·obtain⟨b,m,n,rfl,B0,hn,m0,m1,k⟩:=h
  have a0:=bG100000;have L:=bGe;refine⟨_,(zf (zE (i:=2) nd rfl (Or.inl rfl) (qC ze))
   (zf (qZ jC rfl (jz rfl B.range (za (pv 1) ze)) (zq (i:=3) nd rfl (Or.inl rfl))
   (zo (jt (xE xL w9 w8 jE (pv 2) (za (zk c hr.m rfl (za (pv 0) (za (pv 2) ze))) ze)))))
   (zo (zB (pv 2))))),?_⟩
  refine⟨le0,fun l M=>?_⟩
  have nl:=B0.nne M;refine⟨_,rfl,_,rfl,(by rw[L];omega),(by rw[L];omega),?_⟩
  refine j5 (zcl b m l H n) ⟨[],_,rfl,(u8 b H).new M,(B0.new M).mono (by omega),zd,(fun x h=>nomatch h),rfl⟩ ?_ ?_
  ·rintro i σ H4 hi ⟨J,v3,rfl,U,N,I,O,G⟩
   refine⟨_,rfl,.inl ⟨rfl,_,u4 I⟩,_,rfl,_,rfl,b,l,_,J,rfl,N,by omega,nl,I,by omega,O,fun p H5 T B5 pN pp=>⟨l,_,_,rfl,rfl,T l _ I nl,by rw[zn,G];omega,?_⟩⟩
   have L5:=T l _ I nl;have g:∀{a:Addr},PlA H5 a->PlA (upd H5 l (.lst (J.map V.ref++[.ref p]))) a:=fun {a} h=>by
    obtain⟨x,y,e,r⟩:=h;exact⟨x,y,by rw[zp (zbH e L5 (by intro z;cases z))];exact e,r⟩
   refine⟨J++[p],_,rfl,(U.trans T).put M,(B5.other nl).mono (by omega),by rw[zd,zP];rfl,fun a ha=>?_,by rw[qo,G];rfl⟩
   rcases qU.mp ha with q | q
   ·exact g ((O a q).draw N T)
   ·rw[qD.mp q];exact g pp
  ·rintro σ H4 ⟨J,v3,rfl,U,N,I,O,G⟩
   exact⟨_,rfl,k l J H4 U (N.mono (by omega)) nl M I O (by omega)⟩
theorem SqT.keep{H b:Hp}{a:Addr}{c:List V}(q:SqT K H a c)(s:SameT H b):SqT K b a c:=by
 rcases q with(q | ⟨o,q⟩) | q
 ·exact .inl (.inl (s a _ q (fun z h=>nomatch h) (fun z h=>nomatch h)))
 ·exact .inl (.inr ⟨o,s a _ q (fun z h=>nomatch h) (fun z h=>nomatch h)⟩)
 ·exact .inr q
def SqE(K:W.Frag)(b:Addr)(H:Hp)(a:Addr)(c:List V):Prop:=(a≠b/\H a=some (.lst c))\/SqT K H a c
inductive WI(K:W.Frag)(g:List V)(H:Hp)(Q:VK):Prop
 | mk (b a:Addr) (n:Int) (f:List V) (_:g=[.ref b,.ref a]) (_:BoxAt H b n) (_:n<1000000) (_:SqE K b H a f) (_:f.length<=1000) (_:∀(l:Addr) (s:List V) c,SameB b H c->BoxAt c b (n+f.length)->l≠b->H l=none->c l=some (.lst s)->s.Perm f->Q (.ref l) c):WI K g H Q
def Vm(K:W.Frag):Sp:=fun b H Q _=>WI K b H Q
theorem zd6:zD ["_law_box_here","_law_some","_law_found","_law_one"] ["_law_box_here","_law_some"] (zy (topL 40)):=u3
def zck(b:_)(a:_)(l:_)(H:_)(n:_)(s:List V):=fun(i:Nat) (σ:St) (c:Hp)=>(Ex2 fun(f:List V) (g:Option V)=>An5 (σ=[some (.ref b),some (.ref a),some (.ref l),g]) (SameB b H c) (BoxAt c b (n+i)) (c l=some (.lst f)) (f.Perm (s.take i)):Prop)
def zcj(b:_)(a:_)(l:_)(H:_)(n:_)(s:List V):=fun(i:Nat) (σ:St) (c:Hp)=>(Ex2 fun(f:List V) (g:Option V)=>An5 (σ=[some (.ref b),some (.ref a),some (.ref l),g]) (SameB b H c) (BoxAt c b (n+i)) (c l=some (.lst f)) (f.Perm (s.take i)):Prop)
theorem zgi{f:Addr}{fd:FuncData}(F:Fun K "_law_shuffled" "_law_shuffled" (topL 40) f fd)(B:Blt D)(c:Dfn P w K D C "_law_take" 1 ["_law_box_here","_law_size"] vG):qY P w K D C CX0 2 f fd ["_law_box_here","_law_some"] (Vm K):=by
 have nd:=zd6.nd;refine F.ok zd6 (fun vs H Q E h=>?_) (fun ab A a0 s H vs Q E hr h=>?_)
 ·obtain⟨b,a,n,G,rfl,_⟩:=h
  rfl
 ·obtain⟨b,a,n,G,rfl,M,hn,hq,ac,k⟩:=h
  have aa:=bG100000;have U:=bGe;refine⟨_,(zf (zE (i:=2) nd rfl (Or.inl rfl) (qC ze))
   (zf (qZ jC rfl (Y7 (pv 1)) (zq (i:=3) nd rfl (Or.inl rfl))
   (zo (jt (xE xL PySem.F.slot_list_insert PySem.F.type_list_insert zc0 (pv 2) (za (zk c hr.m rfl (za (pv 0) (za (zM ja (zx zI rfl B.len boot_len (za (pv 2) ze)) zi) ze))) (za (pv 3) ze))))))
   (zo (zB (pv 2))))),?_⟩
  refine⟨le0,fun l g=>?_⟩
  have nl:=M.nne g;refine⟨_,rfl,a,rfl,hq.elim (fun Y=>.inl ⟨⟨_,u4 ((zb g) _ _ Y.2)⟩,jW (K:=K) (a:=a) (xs:=G) (zck b a l H n G)
   ⟨[],_,rfl,(u8 b H).new g,(M.new g).mono (by omega),zd,.nil⟩ (fun i σ N _ ⟨_,_,_,I,_,_,_⟩=>u4 (I _ _ Y.2 Y.1)) ?s1 ?e1⟩) (fun hT=>.inr ⟨⟨_,(zb g).sqT hT⟩,zbS (K:=K) (a:=a) (xs:=G) (zcj b a l H n G)
   ⟨[],_,rfl,(u8 b H).new g,(M.new g).mono (by omega),zd,.nil⟩ (fun i σ N _ ⟨_,_,_,I,_,_,_⟩=>hT.keep (u7 M I)) ?s2 ?e2⟩)⟩
  case s1 | s2=>
   rintro i x σ N hx ⟨O,v3,rfl,I,T,J,L⟩;have hi:=(zC.mp hx).1;have yl:O.length=i:=by rw[L.length_eq,qm];omega
   refine⟨_,rfl,.inl ⟨rfl,_,u4 J⟩,_,rfl,_,rfl,l,_,rfl,.inl (u4 J),_,_,rfl,rfl,b,_,_,rfl,T,by omega,by omega,by omega,fun q H5 q0 q1 B5 S5=>⟨_,rfl,?_⟩⟩
   refine⟨l,O,q,x,rfl,rfl,S5 l _ J nl,q0,by rw[U];omega,by omega,?_⟩
   refine⟨_,_,rfl,(I.trans S5).put g,(B5.other nl).mono (by omega),zd,?_⟩
   have e1:G.take (i+1)=G.take i++[x]:=by
    obtain⟨h1,h2⟩:=zC.mp hx;rw[<- h2,Ze]
   rw[e1];refine List.perm_middle.trans ?_
   rw[JW];exact((List.Perm.cons x L).trans (List.perm_append_singleton x _).symm)
  case e1 | e2=>
   rintro σ N ⟨O,v3,rfl,I,T,J,L⟩;rw[qz] at L;exact⟨_,rfl,k l O N I T nl g J L⟩
end
mutual
def Dat.imm:Dat->Bool
 | .lst _=>false
 | .tup b=>Dat.imms b
 | _=>true
def Dat.imms:List Dat->Bool
 | []=>true
 | d::b=>d.imm&&Dat.imms b
end
section
variable{P:Program}{w:World}{K:W.Frag}{M:Str->Option Value}{C:Heap}
mutual
theorem Rep.keep{H H':Hp}(s:SameT H H'):∀{d:Dat} {v:V},d.imm=true->Rep K H d v->Rep K H' d v
 | .non,_,_,h=>h
 | .bl _,_,_,h=>h
 | .int _,_,_,h=>h
 | .str _,_,_,h=>h
 | .lst _,_,i,_=>by cases i
 | .tup ds,_,i,h=>by
  obtain⟨a,c,e,q,r⟩:=h;exact⟨a,c,e,q.keep s,Reps.keep s (ds:=ds) i r⟩
theorem Reps.keep{H H':Hp}(s:SameT H H'):∀{ds:List Dat} {f:List V},Dat.imms ds=true->Reps K H ds f->Reps K H' ds f
 | [],_,_,h=>h
 | d::ds,_,i,h=>by
  obtain⟨x,r,e,h1,h2⟩:=h;have c:(d.imm&&Dat.imms ds)=true:=i;rw[xO] at c;exact⟨x,r,e,Rep.keep s c.1 h1,Reps.keep s c.2 h2⟩
end
theorem Reps.snoc{H:Hp}{d:Dat}{v:V}(h:Rep K H d v):∀{c:List Dat} {f:List V},Reps K H c f->Reps K H (c++[d]) (f++[v])
 | [],_,e=>by rw[show _=_ from e];exact⟨v,[],rfl,h,rfl⟩
 | _::_,_,e=>by
  obtain⟨x,r,e1,h1,h2⟩:=e;subst e1;exact⟨x,r++[v],rfl,h1,Reps.snoc h h2⟩
def uc:=@Reps.snoc
theorem ZO{α β:Type}{f:α->β}{L J:List β}(h:L.Perm J):∀{g:List α},J=g.map f->∃s:List α,s.Perm g/\L=s.map f:=by
 induction h with
 | nil=>
  intro g e;have:g=[]:=by simpa using e.symm
  exact⟨[],by rw[this],rfl⟩
 | @cons x l1 l2 p Q=>
  intro g e;cases g with
  | nil=>simp at e
  | cons a G=>
   rw[qO] at e;injection e with e1 e2;obtain⟨s,D,E⟩:=Q e2;exact⟨a::s,D.cons a,by rw[qO,<- E,<- e1]⟩
 | swap x y l=>
  intro g e;cases g with
  | nil=>simp at e
  | cons a G=>
   cases G with
   | nil=>simp at e
   | cons c I=>
    rw[qO,qO] at e;injection e with e1 e2;injection e2 with e2 O;exact⟨c::a::I,.swap a c I,by rw[qO,qO,<- e1,<- e2,<- O]⟩
 | trans p q A B=>
  intro g e;obtain⟨s,D,E⟩:=B e;obtain⟨Y,T,U⟩:=A E;exact⟨Y,T.trans D,U⟩
def jJ(p:Nat×Nat):Dat:=.tup [.int p.1,.int p.2]
def Z5(c:List (Nat×Nat)):Dat:=.tup (c.map jJ)
theorem qA:∀(c:List (Nat×Nat)),Dat.imms (c.map jJ)=true
 | []=>rfl
 | p::c=>by
  show(Dat.imm (jJ p)&&Dat.imms (c.map jJ))=true;rw[qA c];rfl
def ByOrd(c:List Nat)(f:List (Nat×Nat)):Prop:=∀p∈f,∃k l:Nat,k<l/\c[k]? =some p.1/\c[l]? =some p.2
theorem Reps.take{H:Hp}:∀(n:Nat) {c:List Dat} {f:List V},Reps K H c f->Reps K H (c.take n) (f.take n)
 | 0,_,_,_=>rfl
 | n+1,[],_,h=>by rw[show _=_ from h];exact rfl
 | n+1,d::c,_,h=>by
  obtain⟨x,r,e,h1,h2⟩:=h;subst e;exact⟨x,r.take n,rfl,h1,Reps.take n h2⟩
theorem Reps.app{H:Hp}:∀{c g:List Dat} {l s:List V},Reps K H c l->Reps K H g s->Reps K H (c++g) (l++s)
 | [],_,_,_,h,f=>by rw[show _=_ from h];exact f
 | d::c,_,_,_,h,f=>by
  obtain⟨x,r,e,h1,h2⟩:=h;subst e;exact⟨x,r++_,rfl,h1,Reps.app h2 f⟩
inductive Q7(K:W.Frag)(g:List V)(H:Hp)(Q:VK):Prop
 | mk (b:Addr) (m n:Int) (_:g=[.ref b,.int m]) (_:BoxAt H b n) (_:n<1000000) (_:0<=m) (_:m<=100) (_:∀(p:Addr) (f:List (Nat×Nat)) (c:List Nat) H',SameB b H H'->BoxAt H' b (n+800)->Rep K H' (Z5 f) (.ref p)->c.Perm (List.range m.toNat)->ByOrd c f->f.length<=300->Q (.ref p) H'):Q7 K g H Q
def WS(K:W.Frag):Sp:=fun c H Q _=>Q7 K c H Q
theorem WX:zD ["_law_box_here","_law_many","_law_order_here","_law_found","_law_turn","_law_k"] ["_law_box_here","_law_many"] (zy (topL 42)):=u3
theorem zjQ{m r:Int}(h:0<=r)(c:r<4)(g:2<=m)(f:m<=100):∃z:Int,atI [V.int 1,V.int 4,V.int 13,V.int (2*m)] r=some (.int z)/\1<=z/\z<=200:=by
 have hc:r=0\/r=1\/r=2\/r=3:=by omega
 rcases hc with rfl | rfl | rfl | rfl
 ·exact⟨1,rfl,by omega,by omega⟩
 ·exact⟨4,rfl,by omega,by omega⟩
 ·exact⟨13,rfl,by omega,by omega⟩
 ·exact⟨2*m,rfl,by omega,by omega⟩
theorem zeC{ord:List Nat}{i:Int}(h:0<=i)(c:i<ord.length):∃x:Nat,atI (ord.map fun i:Nat=>V.int (i:Int)) i=some (.int (x:Int))/\ord[i.toNat]? =some x:=by
 obtain⟨v,e1,e2⟩:=VU (xs:=ord.map fun i:Nat=>V.int (i:Int)) h (by rw[zn];exact c)
 rw[zZ] at e2;obtain⟨x,hx,rfl⟩:=qE.mp e2;exact⟨x,e1,hx⟩
def zci(b:_)(m:_)(o:_)(R:_)(H:_)(n:_)(f:_)(K:_):=fun(i:Nat) (σ:St) (c:Hp)=>(Ex4 fun(g:List (Nat×Nat)) (l:List V) (s A:Option V)=>An8 (σ=[some (.ref b),some (.int m),some (.ref o),some (.ref R),s,A]) (SameB b H c) (BoxAt c b (n+110+2*i)) (c o=some (.lst (f.map fun i:Nat=>V.int (i:Int)))) (c R=some (.lst l)) (Reps K c (g.map jJ) l) (ByOrd f g) (g.length=i):Prop)
theorem zcV{f:Addr}{fd:FuncData}(F:Fun K "_law_aheads" "_law_aheads" (topL 42) f fd)(B:Blt M)(g:Dfn P w K M C "_law_take" 1 ["_law_box_here","_law_size"] vG)(l:Dfn P w K M C "_law_shuffled" 2 ["_law_box_here","_law_some"] (Vm K)):qY P w K M C CX0 3 f fd ["_law_box_here","_law_many"] (WS K):=by
 have nd:=WX.nd;refine F.ok WX (fun vs H Q E h=>?_) (fun ao A aj s H vs Q E hr h=>?_)
 ·obtain⟨b,m,n,rfl,_⟩:=h
  rfl
 ·obtain⟨b,m,n,rfl,B0,hn,m0,m1,k⟩:=h
  have an:=bG100000;have ae:=bGe;refine⟨_,(zf (zem (i:=2) (j:=3) rfl nd rfl rfl (by decide) rfl rfl (za (zk l hr.m rfl (za (pv 0) (za (ZP rfl rfl B.list rfl B.range xJ (za (pv 1) ze)) ze))) (za (qC ze) ze)) (by rfl))
   (zf (jB (zG W4 (pv 1) zi (zL _))
   (zo (zB (qX ze)))
   qF)
   (zf (qZ jC rfl (jz rfl B.range (za (zk g hr.m rfl (za (pv 0) (za (zF qJ (qC (za zi (za zi (za zi (za (zM vK zi (pv 1)) ze))))) (zk g hr.m rfl (za (pv 0) (za zi ze))) (fun _ _=>rfl)) ze))) ze)) (zq (i:=4) nd rfl (Or.inl rfl))
   (zf (zE (i:=5) nd rfl (Or.inl rfl) (zk g hr.m rfl (za (pv 0) (za (zM vJ (pv 1) zi) ze))))
    (zo (jt (xE xL w9 w8 jE (pv 3) (za (qX (za (zF qJ (pv 2) (pv 5) (fun _ _=>rfl)) (za (zF qJ (pv 2) (zM ja (zM ja (pv 5) zi) (zk g hr.m rfl (za (pv 0) (za (zM vJ (zM vJ (pv 1) zi) (pv 5)) ze)))) (fun _ _=>rfl)) ze))) ze))))))
   (zo (zB (qH jx rfl B.tuple jM (za (zM Zl (pv 3) (wu ZJ (pv 3) ZN (wG (qH yY rfl B.int yB (za (qW j8 (zk g hr.m rfl (za (pv 0) (za zi ze))) zi (zL _)) ze))))) ze))))))),?_⟩
  refine⟨_,rfl,_,rfl,m,rfl,m0,by omega,fun l0 h0=>?_⟩
  have U:((List.range m.toNat).map fun i:Nat=>V.int (i:Int)).length=m.toNat:=by rw[zn,vO]
  refine⟨b,l0,n,_,rfl,B0.new h0,by omega,.inl ⟨B0.nne h0,zd⟩,by rw[U];omega,fun o ys H1 S1 B1 no oN ho pm=>⟨le0,fun R hR=>⟨_,_,rfl,?_⟩⟩⟩
  obtain⟨D,op,rfl⟩:=ZO pm rfl;have ol:D.length=m.toNat:=by rw[op.length_eq,vO]
  rw[U] at B1;have Y:=B1.nne hR;have oR:o≠R:=zm ho hR;have ac:=((u8 b H).new h0).trans S1;have RH:H R=none:=ac.none hR Y;have S2:=ac.new (o:=.lst []) hR;have B2:=B1.new (o:=.lst []) hR;have O2:=(zb (o:=.lst []) hR) _ _ ho;have R2:upd H1 R (.lst []) R=some (.lst []):=zd;generalize upd H1 R (.lst [])=H2 at S2 B2 O2 R2;refine⟨_,rfl,_,_,rfl,rfl,_,rfl,xC (fun c=>?_) (fun c=>?_)⟩
  ·exact⟨le0,fun p hp=>k p [] D _ (S2.new hp) ((B2.new hp).mono (by omega)) ⟨p,[],rfl,u6 zd,rfl⟩ op (fun p h=>nomatch h) (ji _)⟩
  have m2:2<=m:=by
   have:¬m<2:=fun z=>c (zV z)
   omega
  refine⟨_,rfl,_,rfl,_,_,rfl,rfl,.inl ⟨by decide,by decide⟩,le4,fun l1 h1=>⟨_,rfl,b,4,_,rfl,B2.new h1,by omega,by decide,by decide,fun r H3 r0 r1 B3 S3=>?_⟩⟩
  have L3:=S3 l1 _ zd (B2.nne h1);obtain⟨z,ez,z0,z1⟩:=zjQ r0 r1 m2 m1;refine⟨l1,_,_,_,rfl,rfl,u4 L3,ez,b,z,_,rfl,B3,by omega,by omega,by omega,fun cnt H4 c0 c1 B4 S4=>⟨_,rfl,(by rw[ae];omega),(by rw[ae];omega),?_⟩⟩
  have U4:=((u8 b H2).new h1).trans (S3.trans S4);have ag:=S2.trans U4;have O4:=U4 _ _ O2 no;have R4:=U4 _ _ R2 Y;clear S2 B2 O2 R2 S3 S4 U4 L3 h1 B3;refine j5 (zci b m o R H n D K)
   ⟨[],[],_,_,rfl,ag,B4.mono (by omega),O4,R4,rfl,(fun p h=>nomatch h),rfl⟩ ?_ ?_
  ·rintro i σ H5 hi ⟨L,G,v4,v5,rfl,S5,B5,O5,R5,rp,bo,a0⟩
   have xl:G.length=i:=by rw[rp.len,zn,a0]
   refine⟨_,rfl,_,rfl,_,_,rfl,rfl,b,_,_,rfl,B5,by omega,by omega,by omega,fun kk H6 k0 k1 B6 I=>?_⟩
   have O6:=I _ _ O5 no;obtain⟨x1,ah,ak⟩:=zeC (ord:=D) k0 (by omega)
   refine⟨_,rfl,.inl ⟨rfl,_,u4 (I _ _ R5 Y)⟩,_,rfl,_,rfl,o,_,_,_,rfl,rfl,u4 O6,ah,?_⟩
   refine⟨_,rfl,_,rfl,_,_,rfl,rfl,_,rfl,_,rfl,_,_,rfl,rfl,_,rfl,_,_,rfl,rfl,b,_,_,rfl,B6,by omega,by omega,by omega,fun q H7 q0 q1 B7 S7=>⟨_,_,rfl,rfl,?_⟩⟩
   have O7:=S7 _ _ O6 no;have R7:=S7 _ _ (I _ _ R5 Y) Y;obtain⟨x2,ai,al⟩:=zeC (ord:=D) (i:=kk+1+q) (by omega) (by omega)
   refine⟨o,_,_,_,rfl,rfl,u4 O7,ai,le2,fun T O=>⟨R,G,.ref T,rfl,rfl,(zb O) _ _ R7,by omega,?_⟩⟩
   have R8:=(zb (o:=.tup [.int (x1:Int),.int (x2:Int)]) O) _ _ R7;have st:SameT H5 (upd (upd H7 T (.tup [.int (x1:Int),.int (x2:Int)])) R (.lst (G++[.ref T]))):=((u7 B5 (I.trans S7)).trans (.of (zb O))).trans (.put R8);refine⟨L++[(x1,x2)],_,_,_,rfl,(((S5.trans I).trans S7).new O).put RH,((B7.new O).other Y).mono (by omega),by rw[zp oR];exact(zb O) _ _ O7,zd,?_,fun pq ab=>?_,by rw[qo,a0];rfl⟩
   ·rw[zP]
    refine uc ?_ (Reps.keep st (qA L) rp)
    refine⟨T,_,rfl,u6 ?_,_,_,rfl,rfl,_,_,rfl,rfl,rfl⟩
    rw[zp (fun zz=>by rw[zz,R7] at O;cases O)]
    exact zd
   ·rcases qU.mp ab with w1 | w1
    ·exact bo pq w1
    ·rw[qD.mp w1]
     exact⟨kk.toNat,(kk+1+q).toNat,by omega,ak,al⟩
  ·rintro σ H5 ⟨L,G,v4,v5,rfl,S5,B5,O5,R5,rp,bo,a0⟩
   have xl:G.length=L.length:=by rw[rp.len,zn]
   refine⟨_,rfl,_,rfl,_,rfl,b,4,_,rfl,B5,by omega,by decide,by decide,fun r9 H6 ap aq B6 I=>⟨rfl,.inr ⟨_,rfl,_,rfl,R,G,rfl,u4 (I _ _ R5 Y),fun s1 J=>?_⟩⟩⟩
   have R6:=I _ _ R5 Y;obtain⟨t,et⟩:∃t:Nat,jT G none (some (if decide (V.int r9=V.int 0)=true then(1:Int) else 0))=G.take t/\t<=1:=by
    unfold jT;by_cases hd:decide (V.int r9=V.int 0)=true
    ·rw[zv hd,show(some (1:Int))=some ((1:Nat):Int) from rfl,HT.sIx_nat,HT.sIx_none]
     refine⟨min 1 G.length,by simp,by omega⟩
    ·rw[zu hd,show(some (0:Int))=some ((0:Nat):Int) from rfl,HT.sIx_nat,HT.sIx_none]
     refine⟨0,by simp,by omega⟩
   rw[et.1];have st:SameT H5 H6:=.draw B5 I;have am:=Reps.keep st (qA L) rp;have tl:(G.take t).length<=1:=by rw[qm];omega
   refine⟨R,s1,_,_,rfl,rfl,(zb J) _ _ R6,zd,by omega,fun c1 aa=>⟨c1,_,rfl,.inl ⟨u4 zd,fun p hp=>?_⟩⟩⟩
   have sm:=((zb (o:=.lst (G.take t)) J).trans (zb (o:=.lst (G++G.take t)) aa)).trans (zb (o:=.tup (G++G.take t)) hp);refine k p (L++L.take t) D _ ((((S5.trans I).new J).new aa).new hp) ((((B6.new J).new aa).new hp).mono (by omega)) ⟨p,_,rfl,u6 zd,?_⟩ op (fun pq ab=>?_) (by rw[qo,qm];omega)
   ·have af:=Reps.keep (SameT.of sm) (qA L) am
    have rt:=Reps.take t af;rw[<- JL] at rt;have:=Reps.app af rt;rw[<- zP] at this;exact this
   ·rcases qU.mp ab with w1 | w1
    ·exact bo pq w1
    ·exact bo pq (Qu w1)
structure yh where
 k:Str
 x:Int
 y:Int
structure wD where
 k:Str
 x:Int
 y:Int
 m:Int
def vI(p:yh):Dat:=.tup [.str p.k,.tup [.int p.x,.int p.y]]
def wW(p:wD):Dat:=.tup [.str p.k,.tup [.int p.x,.int p.y],.int p.m]
theorem xX:∀(c:List wD),Dat.imms (c.map wW)=true
 | []=>rfl
 | p::c=>by
  show(Dat.imm (wW p)&&Dat.imms (c.map wW))=true;rw[xX c];rfl
theorem xF:∀(c:List yh),Dat.imms (c.map vI)=true
 | []=>rfl
 | p::c=>by
  show(Dat.imm (vI p)&&Dat.imms (c.map vI))=true;rw[xF c];rfl
def inP(x y:Int):Prop:=0<=x/\x<=1000/\0<=y/\y<=1000
inductive WR(K:W.Frag)(B:List V)(H:Hp)(Q:VK):Prop
 | mk (b l A:Addr) (D:Bool) (n:Int) (c:List Str) (g:List yh) (_:B=[.ref b,.ref l,.ref A,.bl D]) (_:BoxAt H b n) (_:n<900000) (_:l≠b) (_:Row H l c) (_:1<=c.length) (_:c.length<=12) (_:Rep K H (.tup (g.map vI)) (.ref A)) (_:g.length<=100) (_:∀(p:Addr) (fs:List wD) (s:List Str) H',SameB b H H'->BoxAt H' b (n+400)->Rep K H' (.tup (fs.map wW)) (.ref p)->(fs.map (·.k)).Perm (c++s)->(∀e∈s,e∈c)->fs.length<=40->(∀f∈fs,Nm f.k/\inP f.x f.y/\0<=f.m/\f.m<=400)->Q (.ref p) H'):WR K B H Q
def zdW(K:W.Frag):Sp:=fun c H Q _=>WR K c H Q
theorem zee:zD ["_law_box_here","_law_kinds","_law_parts","_law_plenty","_law_great","_law_more","_law_some","_law_found","_law_kind","_law_need","_law_many"] ["_law_box_here","_law_kinds","_law_parts","_law_plenty"] (zy (topL 41)):=u3
theorem zdB{ns:List Str}{i:Int}(h:0<=i)(c:i<ns.length):∃x,atI (ns.map V.str) i=some (.str x)/\x∈ns:=by
 obtain⟨v,e1,e2⟩:=VU (xs:=ns.map V.str) h (by rw[zn];exact c)
 rw[zZ] at e2;obtain⟨x,hx,rfl⟩:=qE.mp e2;exact⟨x,e1,qr hx⟩
theorem zjP{a c r:Int}(h:0<=r)(l:r<3)(f:0<=a)(a1:a<=400)(g:0<=c)(c1:c<=400):∃z:Int,atI [V.int a,V.int c,V.int 400] r=some (.int z)/\0<=z/\z<=400:=by
 have hc:r=0\/r=1\/r=2:=by omega
 rcases hc with rfl | rfl | rfl
 ·exact⟨a,rfl,f,a1⟩
 ·exact⟨c,rfl,g,c1⟩
 ·exact⟨400,rfl,by omega,by omega⟩
def zch(c:List Str)(b:_)(l:_)(n:_):=fun(j:Nat) (s:List V) (g:Hp)=>(Ex1 fun(f:List Str)=>An5 (s=f.map V.str) (f.length=j) ((∀x∈f,x∈c)) (SameB b l g) (BoxAt g b (n+2+j)):Prop)
theorem zgq{f:Addr}{fd:FuncData}(F:Fun K "_law_feeders" "_law_feeders" (topL 41) f fd)(B:Blt M)(I:Dfn P w K M C "_law_take" 1 ["_law_box_here","_law_size"] vG)(U:Dfn P w K M C "_law_shuffled" 2 ["_law_box_here","_law_some"] (Vm K))(aa:Dfn P w K M C "_law_place" 2 ["_law_box_here","_law_taken"] (QQ K)):qY P w K M C CX0 3 f fd ["_law_box_here","_law_kinds","_law_parts","_law_plenty"] (zdW K):=by
 have nd:=zee.nd;refine F.ok zee (fun vs H Q E h=>?_) (fun bg A bb s H vs Q E hr h=>?_)
 ·obtain⟨b,ks,ps,pl,n,G,O,rfl,_⟩:=h
  rfl
 ·obtain⟨b,ks,ps,pl,n,G,O,rfl,B0,hn,nk,Rk,k0,k1,hp,lp,k⟩:=h
  have bf:=bG100000;have au:=bGe;have ek:(G.map V.str).length=G.length:=zn ..;refine⟨_,(zf (zE (i:=4) nd rfl (Or.inl rfl) (qW j8 (zk I hr.m rfl (za (pv 0) (za zi ze))) zi (zL _)))
   (zf (yR (zE (i:=5) nd rfl (Or.inl rfl) (zk I hr.m rfl (za (pv 0) (za (wv (xf (pv 4)) (zM vJ zi (zx zI rfl B.len boot_len (za (pv 1) ze))) zi) ze)))))
   (zf (zE (i:=6) nd rfl (Or.inl rfl) (zM Zl (pv 1) (jv ["_law_kinds","_law_box_here"] [1,0] rfl rfl (by kernel_rfl) (jz rfl B.range (za (pv 5) ze)) (fun _ _ _ _=>qS) (fun _ _ _ _=>(zF (yu (K:=K) rfl) (pv 1) (zk I hr.m rfl (za (pv 2) (za (zx (va (K:=K) rfl) rfl B.len boot_len (za (pv 1) ze)) ze))) (fun _ _=>rfl))))))
   (zf (zE (i:=7) nd rfl (Or.inl rfl) (qC ze))
   (zf (qZ jC rfl (qg (zk U hr.m rfl (za (pv 0) (za (pv 6) ze)))) (zq (i:=8) nd rfl (Or.inr rfl))
   (zf (zE (i:=9) nd rfl (Or.inl rfl) (zx zI rfl B.len boot_len (za (jv ["_law_kind"] [8] rfl rfl (by kernel_rfl) (xg (pv 2)) (fun _ _ _ _=>(ju (zG j8 (zF (qM (K:=K) rfl) (pv 0) zi (fun _ _=>rfl)) (pv 1) (zL _)))) (fun _ _ _ _=>(pv 0))) ze)))
    (zf (yR (zE (i:=10) nd rfl (Or.inl rfl) (wv (xf (pv 3)) (zF qJ (qC (za (pv 9) (za (zM ja (pv 9) (zk I hr.m rfl (za (pv 0) (za zi ze)))) (za zi ze)))) (zk I hr.m rfl (za (pv 0) (za zi ze))) (fun _ _=>rfl)) (zk I hr.m rfl (za (pv 0) (za zi ze))))))
    (zo (jt (xE xL w9 w8 jE (pv 7) (za (qX (za (pv 8) (za (zk aa hr.m rfl (za (pv 0) (za (qC ze) ze))) (za (pv 10) ze)))) ze)))))))
   (zo (zB (qH jx rfl B.tuple jM (za (pv 7) ze))))))))),?_⟩
  refine⟨_,rfl,b,8,n,rfl,B0,by omega,by decide,by decide,fun r H1 r0 r1 B1 S1=>⟨rfl,?_⟩⟩
  have ap:=Rk.draw S1 nk;refine⟨fun σ' H'=>Ex1 fun(L:Int)=>An5 (σ'=[some (.ref b),some (.ref ks),some (.ref ps),some (.bl pl),some (.bl (decide (V.int r=V.int 0))),some (.int L),none,none,none,none,none]) (0<=L) (L<=20) (SameB b H H') (BoxAt H' b (n+2)),?_,?_⟩
  ·refine⟨_,rfl,_,rfl,_,rfl,xC (fun c=>?_) (fun c=>?_)⟩
   ·exact⟨_,rfl,ks,_,rfl,.inl (u4 ap.1),_,_,rfl,rfl,b,_,_,rfl,B1,by omega,by omega,by omega,fun L H2 a0 a1 B2 S2=>⟨_,rfl,a0,by omega,S1.trans S2,B2.mono (by omega)⟩⟩
   ·exact⟨b,4,_,rfl,B1,by omega,by decide,by decide,fun L H2 a0 a1 B2 S2=>⟨_,rfl,a0,by omega,S1.trans S2,B2.mono (by omega)⟩⟩
  rintro σ' H2 ⟨L,rfl,bi,bj,S2,B2⟩;clear S1 B1 ap;have ae:=Rk.draw S2 nk;refine⟨_,rfl,_,rfl,_,rfl,(by rw[au];omega),(by rw[au];omega),Jk (zch G b H2 n) ⟨[],rfl,rfl,(fun x h=>nomatch h),u8 _ _,B2.mono (by omega)⟩ ?_ ?_⟩
  ·rintro j zs H3 hj ⟨Y,rfl,el,ee,S3,B3⟩
   refine⟨rfl,⟨_,rfl,_,rfl,_,rfl,ks,_,rfl,.inl (u4 (ae.draw S3 nk).1),b,_,_,rfl,B3,by omega,by omega,by omega,fun q H4 q0 q1 B4 S4=>?_⟩⟩
   obtain⟨y,ey,my⟩:=zdB (ns:=G) q0 (by omega)
   refine⟨ks,_,_,_,rfl,rfl,u4 (ae.draw (S3.trans S4) nk).1,ey,by rw[zn,el];omega,Y++[y],by rw[zP];rfl,by rw[qo,el];rfl,fun x hx=>?_,S3.trans S4,B4.mono (by omega)⟩
   rcases qU.mp hx with pq | pq
   ·exact ee x pq
   ·rw[qD.mp pq];exact my
  rintro zs H3 ⟨Y,rfl,el,ee,S3,B3⟩;refine⟨by rw[zn,el];omega,fun D hD=>?_⟩
  have ar:=(S2.trans S3).new (o:=.lst (Y.map V.str)) hD;have aq:=(ae.draw S3 nk).same (zb (o:=.lst (Y.map V.str)) hD);refine⟨ks,D,_,_,rfl,rfl,aq.1,zd,by rw[ek,zn,el];omega,fun sm hs=>?_⟩
  have B4:=(B3.new (o:=.lst (Y.map V.str)) hD).new (o:=.lst (G.map V.str++Y.map V.str)) hs;have S4:=ar.new (o:=.lst (G.map V.str++Y.map V.str)) hs;have ns:=(B3.new (o:=.lst (Y.map V.str)) hD).nne hs;have M4:upd (upd H3 D (.lst (Y.map V.str))) sm (.lst (G.map V.str++Y.map V.str)) sm=some (.lst ((G++Y).map V.str)):=by rw[zd,zP]
  generalize upd (upd H3 D (.lst (Y.map V.str))) sm (.lst (G.map V.str++Y.map V.str))=H4 at B4 S4 M4;clear S2 S3 ar ae aq B2 B3 hD hs;refine⟨le0,fun R hR=>?_⟩
  have nR:=B4.nne hR;have RH:H R=none:=S4.none hR nR;have af:((G++Y).map V.str).length<=32:=by rw[zn,qo,el];omega
  refine⟨_,rfl,_,rfl,b,sm,_,_,rfl,B4.new hR,by omega,.inl ⟨ns,(zb hR) _ _ M4⟩,by omega,fun l ys H5 S5 B5 nl lN hl pm=>?_⟩
  obtain⟨sh,al,rfl⟩:=ZO pm rfl;have ay:=(S4.new (o:=.lst []) hR).trans S5;have R5:H5 R=some (.lst []):=S5 _ _ zd nR;have lR:l≠R:=fun z=>by rw[z,zd] at lN;cases lN
  have bp:sh.length<=32:=by rw[al.length_eq];rw[zn] at af;exact af
  have be:∀x∈sh,Nm x:=fun x hx=>by
   rcases qU.mp (al.mem_iff.mp hx) with q | q
   ·exact Rk.2 x q
   ·exact Rk.2 x (ee x q)
  clear pm M4 S4 S5 B4 hR;refine⟨l,rfl,⟨_,u4 hl⟩,jW (K:=K) (a:=l) (xs:=sh.map V.str) (fun i σ H6=>Ex6 fun(fs:List wD) (xs:List V) (v6 v8 v9 am:Option V)=>An8 (σ=[some (.ref b),some (.ref ks),some (.ref ps),some (.bl pl),some (.bl (decide (V.int r=V.int 0))),some (.int L),v6,some (.ref R),v8,v9,am]) (SameB b H H6) (BoxAt H6 b (n+60+6*i)) (H6 l=some (.lst (sh.map V.str))) (H6 R=some (.lst xs)) (Reps K H6 (fs.map wW) xs) (fs.map (·.k)=sh.take i) (∀f∈fs,Nm f.k/\inP f.x f.y/\0<=f.m/\f.m<=400))
   ⟨[],[],_,_,_,_,rfl,ay,B5.mono (by omega),hl,R5,rfl,rfl,(fun f h=>nomatch h)⟩ (fun i σ H6 _ ⟨_,_,_,_,_,_,_,_,_,h,_,_,_,_⟩=>u4 h) ?_ ?_⟩
  ·rintro i x σ H6 hx ⟨fs,xs,v6,v8,v9,am,rfl,S6,B6,L6,R6,rp,fk,fa⟩
   rw[zZ] at hx;obtain⟨kd,aj,rfl⟩:=qE.mp hx;have hi:=(zC.mp aj).1;have fl:fs.length=i:=by
    have:=congrArg List.length fk;rw[zn,qm] at this;omega
   have xl:xs.length=i:=by rw[rp.len,zn,fl]
   have ba:=Rep.keep (d:=.tup (O.map vI)) (u7 B0 S6) (xF O) hp;obtain⟨_,aw,ep,hq,av⟩:=ba;cases ep;have bm:aw.length=O.length:=by rw[av.len,zn]
   refine⟨_,rfl,ps,rfl,⟨_,hq⟩,j6 (K:=K) (a:=ps) (xs:=aw) (fun j zs H7=>zs.length<=j/\Same H6 H7) ⟨zJ _,u5 _⟩ (fun j zs H7 ⟨_,s7⟩=>s7.sqT hq) ?_ ?_⟩
   ·rintro j v zs H7 hv ⟨zl,s7⟩
    have hj:=(zC.mp hv).1;obtain⟨d,hd,rd⟩:=av.get hv;rw[zZ] at hd;obtain⟨pt,_,rfl⟩:=qE.mp hd;obtain⟨c,bh,rfl,hc,u1,bo,e1,e2,e3⟩:=rd;subst e1;cases(show u1=.str pt.k from e2)
    refine⟨rfl,⟨_,rfl,c,_,_,.str pt.k,rfl,rfl,s7.sqT hc,qK (j:=0) rfl,_,rfl,rfl,_,rfl,xC (fun dd=>⟨_,rfl,by omega,by rw[qo];simp;omega,s7⟩) (fun dd=>⟨by omega,s7⟩)⟩⟩
   rintro zs H7 ⟨zl,s7⟩;refine⟨by omega,fun D2 az=>⟨D2,zs,rfl,.inl (u4 zd),?_⟩⟩
   have s8:=s7.trans (zb (o:=.lst zs) az);have B8:=B6.same s8;generalize upd H7 D2 (.lst zs)=H8 at s8 B8;refine⟨fun σ' H'=>Ex1 fun(J:Int)=>An5 (σ'=[some (.ref b),some (.ref ks),some (.ref ps),some (.bl pl),some (.bl (decide (V.int r=V.int 0))),some (.int L),v6,some (.ref R),some (.str kd),some (.int (zs.length:Int)),some (.int J)]) (0<=J) (J<=400) (SameB b H8 H') (BoxAt H' b (n+60+6*i+2)),?_,?_⟩
   ·refine⟨_,rfl,_,rfl,xC (fun c=>?_) (fun c=>?_)⟩
    ·refine⟨_,rfl,_,rfl,_,rfl,b,9,_,rfl,B8,by omega,by decide,by decide,fun q9 H9 a0 a1 B9 S9=>⟨_,_,rfl,rfl,le3,fun l3 h3=>⟨_,rfl,b,3,_,rfl,B9.new h3,by omega,by decide,by decide,fun q3 an c0 c1 ag ab=>?_⟩⟩⟩
     have ax:=ab l3 _ zd (B9.nne h3);obtain⟨z,ez,z0,z1⟩:=zjP (a:=(zs.length:Int)) (c:=(zs.length:Int)+q9) c0 c1 (by omega) (by omega) (by omega) (by omega)
     exact⟨l3,_,_,_,rfl,rfl,u4 ax,ez,z,rfl,z0,z1,(S9.new h3).trans ab,ag.mono (by omega)⟩
    ·exact⟨_,rfl,b,4,_,rfl,B8,by omega,by decide,by decide,fun q9 H9 a0 a1 B9 S9=>⟨q9,rfl,a0,by omega,S9,B9.mono (by omega)⟩⟩
   rintro σ' H9 ⟨J,rfl,y0,y1,S9,B9⟩;have as:=(u9 (b:=b) s8).trans S9;have R9:=as _ _ R6 nR;refine⟨_,rfl,.inl ⟨rfl,_,u4 R9⟩,_,rfl,_,rfl,le0,fun e he=>⟨b,e,_,[],rfl,B9.new he,by omega,B9.nne he,zd,ji _,(fun a h=>nomatch h),fun pp an ab ag bn pa=>⟨_,rfl,le3,fun T hT=>?_⟩⟩⟩
   obtain⟨px,py,ac,b1,b2,b3,b4⟩:=pa;have ah:=ab _ _ ((zb he) _ _ R9) nR;have ao:=(zb (o:=.tup [.str kd,.ref pp,.int J]) hT) _ _ ah;refine⟨R,xs,.ref T,rfl,rfl,ao,by omega,?_⟩
   have ai:=(as.new he).trans (ab.new (o:=.tup [.str kd,.ref pp,.int J]) hT);have st:SameT H6 (upd (upd an T (.tup [.str kd,.ref pp,.int J])) R (.lst (xs++[.ref T]))):=(u7 B6 ai).trans (.put ao);have TR:T≠R:=fun z=>by rw[z,ah] at hT;cases hT
   have bc:pp≠R:=fun z=>by rw[z,ah] at ac;cases ac
   have bd:pp≠T:=fun z=>by rw[z,hT] at ac;cases ac
   refine⟨fs++[⟨kd,px,py,J⟩],_,_,_,_,_,rfl,(S6.trans ai).put RH,((ag.new hT).other nR).mono (by omega),by rw[zp lR];exact ai _ _ L6 nl,zd,?_,?_,fun g b0=>?_⟩
   ·rw[zP]
    refine uc ?_ (Reps.keep st (xX fs) rp)
    refine⟨T,_,rfl,u6 (by rw[zp TR];exact zd),_,_,rfl,rfl,_,_,rfl,⟨pp,_,rfl,u6 (by rw[zp bc,zp bd];exact ac),_,_,rfl,rfl,_,_,rfl,rfl,rfl⟩,_,_,rfl,rfl,rfl⟩
   ·rw[zP,fk]
    obtain⟨h1,h2⟩:=zC.mp aj;rw[<- Ze h1,h2];rfl
   ·rcases qU.mp b0 with q | q
    ·exact fa g q
    ·rw[qD.mp q]
     exact⟨be kd (qr aj),⟨b1,b2,b3,b4⟩,y0,y1⟩
  ·rintro σ H6 ⟨fs,xs,v6,v8,v9,am,rfl,S6,B6,L6,R6,rp,fk,fa⟩
   rw[zn,qz] at fk;have fl:fs.length<=32:=by
    have:=congrArg List.length fk;rw[zn] at this;omega
   refine⟨_,rfl,R,xs,rfl,.inl ⟨u4 R6,fun p ak=>?_⟩⟩
   refine k p fs Y _ (S6.new ak) ((B6.new ak).mono (by rw[zn] at *;omega)) ⟨p,_,rfl,u6 zd,Reps.keep (SameT.of (zb ak)) (xX fs) rp⟩ (by rw[fk];exact al) ee (by omega) fa
structure Job where
 gx:Int
 gy:Int
 hd:Int
 fs:List wD
 ps:List yh
 as:List (Nat×Nat)
def xQ(J:Job):Dat:=.tup [.tup [.int J.gx,.int J.gy],.int J.hd,.tup (J.fs.map wW),.tup (J.ps.map vI),Z5 J.as]
theorem ZV(J:Job):(xQ J).imm=true:=by
 show(true&&(true&&(Dat.imms (J.fs.map wW)&&(Dat.imms (J.ps.map vI)&&(Dat.imms (J.as.map jJ)&&true)))))=true;rw[xX,xF,qA];rfl
structure JobOk(J:Job)(ord:List Nat):Prop where
 gate:inP J.gx J.gy
 hd0:1<=J.hd
 hd1:J.hd<=4
 fl:J.fs.length<=40
 fa:∀f∈J.fs,Nm f.k/\inP f.x f.y/\0<=f.m/\f.m<=400
 pl:J.ps.length<=60
 pa:∀p∈J.ps,Nm p.k/\inP p.x p.y/\∃f∈J.fs,f.k=p.k
 op:ord.Perm (List.range J.ps.length)
 bo:ByOrd ord J.as
 al:J.as.length<=300
 f0:1<=J.fs.length
theorem zf4{r:Int}(h0:0<=r)(h1:r<4):∃z:Int,atI [V.int 3,V.int 3,V.int 3,V.int 12] r=some (.int z)/\3<=z/\z<=12:=by
 have hc:r=0\/r=1\/r=2\/r=3:=by omega
 rcases hc with rfl | rfl | rfl | rfl
 ·exact⟨3,rfl,by decide,by decide⟩
 ·exact⟨3,rfl,by decide,by decide⟩
 ·exact⟨3,rfl,by decide,by decide⟩
 ·exact⟨12,rfl,by decide,by decide⟩
inductive zbg(K:W.Frag)(l:List V)(H:Hp)(Q:VK):Prop
 | mk (b:Addr) (f c n:Int) (s:Bool) (_:l=[.ref b,.int f,.int c,.bl s]) (_:BoxAt H b n) (_:n<500000) (_:0<=f) (_:f<=60) (_:0<=c) (_:c<=60) (_:∀(p:Addr) (J:Job) (g:List Nat) H',SameB b H H'->BoxAt H' b (n+3000)->Rep K H' (xQ J) (.ref p)->JobOk J g->Q (.ref p) H'):zbg K l H Q
def zg3(K:W.Frag):Sp:=fun c H Q _=>zbg K c H Q
theorem zhb:zD ["_law_box_here","_law_few","_law_most","_law_plenty","_law_many","_law_kinds","_law_parts","_law_feeders_here"] ["_law_box_here","_law_few","_law_most","_law_plenty"] (zy (topL 43)):=u3
def zcg(b:_)(f:_)(c:_)(g:_)(H:_)(n:_):=fun(l:St) (H':Hp)=>(Ex1 fun(m:Int)=>An5 (l=[some (.ref b),some (.int f),some (.int c),some (.bl g),some (.int m),none,none,none]) (0<=m) (m<=60) (SameB b H H') (BoxAt H' b (n+2)):Prop)
def zcf(K:_)(c:List Str)(b:_)(l:_)(n:_):=fun(j:Nat) (s:List V) (f:Hp)=>(Ex1 fun(g:List yh)=>An5 (Reps K f (g.map vI) s) (g.length=j) ((∀q∈g,q.k∈c/\inP q.x q.y)) (SameB b l f) (BoxAt f b (n+700+j)):Prop)
theorem zik{f:Addr}{fd:FuncData}(F:Fun K "_law_job" "_law_job" (topL 43) f fd)(B:Blt M)(g:Dfn P w K M C "_law_take" 1 ["_law_box_here","_law_size"] vG)(U:Dfn P w K M C "_law_names" 3 ["_law_box_here","_law_many"] zbd)(Y:Dfn P w K M C "_law_place" 2 ["_law_box_here","_law_taken"] (QQ K))(O:Dfn P w K M C "_law_places" 3 ["_law_box_here","_law_many"] WL)
  (I:Dfn P w K M C "_law_feeders" 3 ["_law_box_here","_law_kinds","_law_parts","_law_plenty"] (zdW K)) (L:Dfn P w K M C "_law_aheads" 3 ["_law_box_here","_law_many"] (WS K)):qY P w K M C CX0 4 f fd ["_law_box_here","_law_few","_law_most","_law_plenty"] (zg3 K):=by
 have nd:=zhb.nd;refine F.ok zhb (fun vs H Q E h=>?_) (fun bj A be s H vs Q E hr h=>?_)
 ·obtain⟨b,ao,ae,n,pl,rfl,_⟩:=h
  rfl
 ·obtain⟨b,ao,ae,n,pl,rfl,B0,hn,f0,f1,bm,bn,k⟩:=h
  have bh:=bG100000;refine⟨_,(zf (yR (zE (i:=4) nd rfl (Or.inl rfl) (zk g hr.m rfl (za (pv 0) (za (zM ja (wv (zG zbF (zk g hr.m rfl (za (pv 0) (za zi ze))) zi (zL _)) (pv 1) (pv 2)) zi) ze)))))
   (zf (zE (i:=5) nd rfl (Or.inr rfl) (zk U hr.m rfl (za (pv 0) (za (zM ja zi (zk g hr.m rfl (za (pv 0) (za (zF qJ (qC (za zi (za zi (za zi (za zi ze))))) (zk g hr.m rfl (za (pv 0) (za zi ze))) (fun _ _=>rfl)) ze)))) ze))))
   (zf (zE (i:=6) nd rfl (Or.inl rfl) (qH jx rfl B.tuple jM (za (jv ["_law_kinds","_law_box_here"] [5,0] rfl rfl (by kernel_rfl) (qg (zk O hr.m rfl (za (pv 0) (za (pv 4) ze)))) (fun _ _ _ _=>qS) (fun _ _ _ _=>(qX (za (zF (yu (K:=K) rfl) (pv 1) (zk g hr.m rfl (za (pv 2) (za (zx (va (K:=K) rfl) rfl B.len boot_len (za (pv 1) ze)) ze))) (fun _ _=>rfl)) (za (pv 0) ze))))) ze)))
   (zf (zE (i:=7) nd rfl (Or.inl rfl) (zk I hr.m rfl (za (pv 0) (za (pv 5) (za (pv 6) (za (pv 3) ze))))))
   (zo (zB (qX (pa5 (zk Y hr.m rfl (za (pv 0) (za (qC ze) ze))) (zM ja zi (zk g hr.m rfl (za (pv 0) (za zi ze)))) (pv 7) (pv 6) (zk L hr.m rfl (za (pv 0) (za (pv 4) ze))))))))))),?_⟩
  refine⟨zcg b ao ae pl H n,?_,?_⟩
  ·refine⟨_,rfl,_,rfl,b,8,n,rfl,B0,by omega,by decide,by decide,fun r H1 r0 r1 B1 S1=>⟨_,_,rfl,rfl,_,rfl,xC (fun c=>⟨_,rfl,_,_,rfl,rfl,?_⟩) (fun c=>⟨_,rfl,_,_,rfl,rfl,?_⟩)⟩⟩
   ·exact⟨b,_,_,rfl,B1,by omega,by omega,by omega,fun m H2 a0 a1 B2 S2=>⟨m,rfl,a0,by omega,S1.trans S2,B2.mono (by omega)⟩⟩
   ·exact⟨b,_,_,rfl,B1,by omega,by omega,by omega,fun m H2 a0 a1 B2 S2=>⟨m,rfl,a0,by omega,S1.trans S2,B2.mono (by omega)⟩⟩
  rintro σ' H2 ⟨m,rfl,m0,m1,S2,B2⟩;refine⟨_,rfl,_,rfl,le4,fun l1 h1=>⟨_,rfl,b,4,_,rfl,B2.new h1,by omega,by decide,by decide,fun r H3 r0 r1 B3 S3=>?_⟩⟩
  have L3:=S3 l1 _ zd (B2.nne h1);obtain⟨z,ez,z0,z1⟩:=zf4 r0 r1;refine⟨l1,_,_,_,rfl,rfl,u4 L3,ez,b,z,_,rfl,B3,by omega,by omega,by omega,fun q H4 q0 q1 B4 S4=>⟨_,_,rfl,rfl,b,1+q,_,rfl,B4,by omega,by omega,by omega,fun ks G H5 S5 B5 nk kN Rk kl=>?_⟩⟩
  have an:=(((S2.new h1).trans S3).trans S4).trans S5;have ek:(G.map V.str).length=G.length:=zn ..;clear S2 S3 S4 S5 B2 B3 B4 L3 h1;refine⟨_,rfl,_,rfl,b,m,_,rfl,B5,by omega,m0,by omega,fun l as H6 S6 B6 nl lN hl pa al=>?_⟩
  have ac:=Rk.draw S6 nk;refine⟨l,rfl,⟨_,u4 hl⟩,qQ (K:=K) (a:=l) (xs:=as.map V.ref) (zcf K G b H6 n) ⟨[],rfl,rfl,(fun x h=>nomatch h),u8 _ _,B6.mono (by omega)⟩ (fun j zs H7 ⟨_,_,_,_,s7,_⟩=>u4 (s7 _ _ hl nl)) ?_ ?_⟩
  ·rintro j x zs H7 hx ⟨J,rq,ql,qa,S7,B7⟩
   rw[zZ] at hx;obtain⟨a,ha,rfl⟩:=qE.mp hx;have hj:=(zC.mp ha).1;have zl:zs.length=j:=by rw[rq.len,zn,ql]
   refine⟨rfl,⟨_,rfl,_,rfl,_,rfl,ks,_,rfl,.inl (u4 (ac.draw S7 nk).1),b,_,_,rfl,B7,by omega,by omega,by omega,fun q H8 c0 c1 B8 S8=>?_⟩⟩
   obtain⟨y,ey,my⟩:=zdB (ns:=G) c0 (by omega)
   obtain⟨px,py,bd,b1,b2,b3,b4⟩:=(pa a (qr ha)).draw B6 (S7.trans S8);refine⟨ks,_,_,_,rfl,rfl,u4 (ac.draw (S7.trans S8) nk).1,ey,_,rfl,le2,fun T hT=>⟨by omega,J++[⟨y,px,py⟩],?_,by rw[qo,ql];rfl,fun q hq=>?_,(S7.trans S8).new hT,(B8.new hT).mono (by omega)⟩⟩
   ·rw[zP]
    have rT:Rep K (upd H8 T (.tup [.str y,.ref a])) (vI ⟨y,px,py⟩) (.ref T):=⟨T,_,rfl,u6 zd,_,_,rfl,rfl,_,_,rfl,⟨a,_,rfl,u6 ((zb hT) _ _ bd),_,_,rfl,rfl,_,_,rfl,rfl,rfl⟩,rfl⟩;exact uc rT (Reps.keep ((u7 B7 S8).trans (.of (zb hT))) (xF J) rq)
   ·rcases qU.mp hq with w1 | w1
    ·exact qa q w1
    ·rw[qD.mp w1];exact⟨my,b1,b2,b3,b4⟩
  rintro zs H7 ⟨J,rq,ql,qa,S7,B7⟩;rw[zn] at ql;have B7:BoxAt H7 b (n+800):=B7.mono (by rw[zn];omega)
  have zl:zs.length=as.length:=by rw[rq.len,zn,ql]
  refine⟨by omega,fun D hD=>⟨D,zs,rfl,.inl ⟨u4 zd,fun ps aq=>?_⟩⟩⟩
  have sm:=(zb (o:=.lst zs) hD).trans (zb (o:=.tup zs) aq);have S8:=(an.trans S6).trans (S7.trans (u9 (b:=b) sm));have B8:=B7.same sm;have ah:=(ac.draw S7 nk).same sm;have P8:Rep K (upd (upd H7 D (.lst zs)) ps (.tup zs)) (.tup (J.map vI)) (.ref ps):=⟨ps,_,rfl,u6 zd,Reps.keep (.of sm) (xF J) rq⟩;generalize upd (upd H7 D (.lst zs)) ps (.tup zs)=H8 at sm S8 B8 ah P8;clear an S6 S7 B5 B6 B7 Rk ac rq hD aq pa hl;refine⟨_,rfl,_,rfl,_,rfl,_,rfl,b,ks,ps,pl,_,G,J,rfl,B8,by omega,nk,ah,by omega,by omega,P8,by omega,fun fp fs es H9 S9 B9 F9 aa ee fl fa=>?_⟩
  have P9:=Rep.keep (d:=.tup (J.map vI)) (u7 B8 S9) (xF J) P8;refine⟨_,rfl,le0,fun t ht=>⟨b,t,_,[],rfl,B9.new ht,by omega,B9.nne ht,zd,ji _,(fun a h=>nomatch h),fun gp az am af gN ga=>?_⟩⟩
  obtain⟨gx,gy,bb,g1,g2,g3,g4⟩:=ga;refine⟨_,rfl,b,4,_,rfl,af,by omega,by decide,by decide,fun hd bi d0 d1 ag ai=>⟨_,_,rfl,rfl,_,rfl,_,rfl,_,rfl,_,rfl,b,m,_,rfl,ag,by omega,m0,by omega,fun ap ak ar ab aj aw au op bo ba=>⟨leN (by show 5<=1000;decide),fun p hp=>?_⟩⟩⟩
  have t9:SameT H9 ab:=((SameT.of (zb ht)).trans (.draw (B9.new ht) am)).trans ((u7 af ai).trans (.draw ag aj));have bg:SameT az ab:=(u7 af ai).trans (.draw ag aj);have up:Same ab (upd ab p (.tup [.ref gp,.int (1+hd),.ref fp,.ref ps,.ref ap])):=zb hp;have ax:=Rep.keep (d:=.tup (fs.map wW)) (t9.trans (.of up)) (xX fs) F9;have b0:=Rep.keep (d:=.tup (J.map vI)) (t9.trans (.of up)) (xF J) P9;have av:=Rep.keep (d:=Z5 ak) (.of up) (qA ak) au;have ay:=(bg.trans (.of up)) gp _ bb (fun xs h=>nomatch h) (fun xs h=>nomatch h)
  have bf:J.length=m.toNat:=by omega
  have fk:∀kd∈G,∃f∈fs,f.k=kd:=fun kd bc=>by
   have:=aa.mem_iff.mpr (jN es bc);obtain⟨f,hf,e⟩:=zN.mp this;exact⟨f,hf,e⟩
  refine k p ⟨gx,gy,1+hd,fs,J,ak⟩ ar _ (((S8.trans S9).trans ((u9 (zb ht)).trans am)).trans ((ai.trans aj).new hp)) ((aw.new hp).mono (by omega)) ?_ ?_
  ·exact⟨p,_,rfl,u6 zd,_,_,rfl,⟨gp,_,rfl,u6 ay,_,_,rfl,rfl,_,_,rfl,rfl,rfl⟩,_,_,rfl,rfl,_,_,rfl,ax,_,_,rfl,b0,_,_,rfl,av,rfl⟩
  ·refine⟨⟨g1,g2,g3,g4⟩,by show 1<=1+hd;omega,by show 1+hd<=4;omega,fl,fa,by show J.length<=60;omega,fun q hq=>?_,by show ar.Perm (List.range J.length);rw[bf];exact op,bo,ba,?_⟩
   ·obtain⟨hk,hi⟩:=qa q hq
    exact⟨ah.2 q.k hk,hi,fk q.k hk⟩
   ·have:=aa.length_eq
    rw[zn,qo] at this;show 1<=fs.length;omega
theorem zR{α:Type}{l:List α}{i:Nat}{x:α}(h:l[i]? =some x):l.take (i+1)=l.take i++[x]:=by
 obtain⟨h1,h2⟩:=zC.mp h;rw[<- h2,Ze]
def zt(os:List Nat):List V:=os.map fun i:Nat=>V.int (i:Int)
theorem zA(os:List Nat):(zt os).length=os.length:=zn ..
theorem Yb(os:List Nat):zt os=(os.map fun i:Nat=>(i:Int)).map V.int:=by unfold zt;rw[j9];rfl
theorem xG:∀os:List Nat,(zt os).all xH=true
 | []=>rfl
 | o::os=>by
  show(true&&(zt os).all xH)=true;rw[xG os];rfl
theorem yW(k:Nat):∀os:List Nat,inV (.int (k:Int)) (zt os)=decide (k∈os)
 | []=>rfl
 | o::os=>by
  show((o:Int)==(k:Int)||inV (.int (k:Int)) (zt os))=_
  rw[yW k os];by_cases h:o=k
  ·subst h;simp
  ·have e:((o:Int)==(k:Int))=false:=by simp;omega
   rw[e,VZ,decide_eq_decide];exact⟨fun z=>jS _ z,fun z=>(qe.mp z).resolve_left fun y=>h y.symm⟩
theorem X2(k:Nat):∀os:List Nat,((os.map fun i:Nat=>(i:Int)).erase (k:Int))=(os.erase k).map fun i:Nat=>(i:Int)
 | []=>rfl
 | o::os=>by
  rw[qO,List.erase_cons,List.erase_cons];by_cases h:(o==k)=true
  ·have e:((o:Int)==(k:Int))=true:=by
    have:=eq_of_beq h;simp[this]
   rw[zv h,zv e]
  ·have e:¬((o:Int)==(k:Int))=true:=fun z=>h (by
    have:=eq_of_beq z;have:o=k:=by omega
    simp[this])
   rw[zu h,zu e,qO,X2 k os]
theorem ww{os:List Nat}{i:Nat}{x:V}(h:(zt os)[i]? =some x):∃k,os[i]? =some k/\x=.int (k:Int):=by
 unfold zt at h;rw[zZ] at h;obtain⟨k,hk,rfl⟩:=qE.mp h;exact⟨k,hk,rfl⟩
def Early(os:List Nat)(c:List (Nat×Nat)):Prop:=∀p∈c,∀l:Nat,os[l]? =some p.2->∃k:Nat,k<l/\os[k]? =some p.1
theorem Early.snoc{os:List Nat}{f:List (Nat×Nat)}{k:Nat}(h:Early os f)(hk:∀p∈f,p.2=k->p.1∈os):Early (os++[k]) f:=by
 intro p B l c;by_cases A:l<os.length
 ·rw[yc A] at c
  obtain⟨j,h1,h2⟩:=h p B l c;exact⟨j,h1,by rw[yc (by omega)];exact h2⟩
 ·have s:l=os.length:=by
   have:=(zC.mp c).1;rw[qo] at this;simp at this;omega
  subst s;rw[wC (zJ _),Nat.sub_self] at c;have e:k=p.2:=by simpa using c
  obtain⟨j,g,D⟩:=JV.mp (hk p B e.symm);exact⟨j,g,by rw[yc g,<- D];simp[g]⟩
theorem ByOrd.mem1{c:List Nat}{f:List (Nat×Nat)}(h:ByOrd c f){p:Nat×Nat}(g:p∈f):p.1∈c:=by
 obtain⟨k,l,_,e,_⟩:=h p g;exact qr e
theorem ByOrd.mem2{c:List Nat}{f:List (Nat×Nat)}(h:ByOrd c f){p:Nat×Nat}(g:p∈f):p.2∈c:=by
 obtain⟨k,l,_,_,e⟩:=h p g;exact qr e
theorem Early.ord{os ord:List Nat}{c:List (Nat×Nat)}(h:Early os c)(b:ByOrd ord c)(s:os.Perm ord):ByOrd os c:=by
 intro p hq;obtain⟨l,g,f⟩:=JV.mp (s.mem_iff.mpr (b.mem2 hq));have e:os[l]? =some p.2:=by rw[<- f];simp[g]
 obtain⟨k,h1,h2⟩:=h p hq l e;exact⟨k,l,h1,h2,e⟩
def jc(left:List Nat)(c:List (Nat×Nat)):List Nat:=(c.filter fun p=>decide (p.1∈left)).map fun p=>p.2
def j7(left:List Nat)(c:List (Nat×Nat)):List Nat:=left.filter fun k=>!decide (k∈jc left c)
theorem Yh{left:List Nat}{f:List (Nat×Nat)}{c:Nat}:c∈jc left f↔∃p∈f,p.1∈left/\p.2=c:=by
 unfold jc;rw[zN];constructor
 ·rintro⟨p,g,rfl⟩
  obtain⟨h1,h2⟩:=qG.mp g;exact⟨p,h1,jy h2,rfl⟩
 ·rintro⟨p,h1,h2,rfl⟩
  exact⟨p,qG.mpr ⟨h1,zV h2⟩,rfl⟩
theorem zdb{left f:List Nat}{g:List (Nat×Nat)}(b:ByOrd f g)(T:f.Nodup)(hs:∀k∈left,k∈f)(B:left≠[]):j7 left g≠[]:=by
 have D:∀(n:Nat) (k:Nat),k∈left->(∃i,i<n/\f[i]? =some k)->∃c∈left,c∉jc left g:=by
  intro n;induction n with
  | zero=>rintro k _ ⟨i,A,_⟩;omega
  | succ n Q=>
   rintro k hk ⟨i,A,l⟩;by_cases E:k∈jc left g
   ·obtain⟨p,L,h1,rfl⟩:=Yh.mp E
    obtain⟨x,y,O,G,s⟩:=b p L;have e:y=i:=by
     have h1:=(zC.mp l).1;have h2:=(zC.mp s).1;have I:f[y]=f[i]:=by
      rw[jh h1] at l;rw[jh h2] at s;exact(jq s).trans (jq l).symm
     exact(Qr T).mp I
    exact Q p.1 h1 ⟨x,by omega,G⟩
   ·exact⟨k,hk,E⟩
 obtain⟨k,hk⟩:∃k,k∈left:=by
  cases left with
  | nil=>exact absurd rfl B
  | cons a r=>exact⟨a,by simp⟩
 obtain⟨i,A,l⟩:=JV.mp (hs k hk);obtain⟨c,hc,J⟩:=D (i+1) k hk ⟨i,by omega,by rw[<- l];simp[A]⟩
 intro z;have:c∈j7 left g:=qG.mpr ⟨hc,by simp[J]⟩
 rw[z] at this;cases this
theorem Yq{H:Hp}{J:Job}{A:Addr}(h:Rep K H (xQ J) (.ref A)):∃g fs f c:Addr,SqT K H A [.ref g,.int J.hd,.ref fs,.ref f,.ref c]/\Rep K H (.tup [.int J.gx,.int J.gy]) (.ref g)/\Rep K H (.tup (J.fs.map wW)) (.ref fs)/\Rep K H (.tup (J.ps.map vI)) (.ref f)/\Rep K H (Z5 J.as) (.ref c):=by
 obtain⟨a,xs,e,q,x0,r0,E,h0,x1,r1,e1,h1,x2,r2,e2,h2,x3,r3,G,Y,x4,r4,I,h4,L⟩:=h;cases e;subst E e1 e2 G I;have l:r4=[]:=L;subst l;have s:x1=.int J.hd:=h1;subst s;obtain⟨g,U,rfl,T⟩:=h0;obtain⟨fs,Q,rfl,O⟩:=h2;obtain⟨f,px,rfl,pq⟩:=Y;obtain⟨c,D,rfl,B⟩:=h4;exact⟨g,fs,f,c,q,⟨g,U,rfl,T⟩,⟨fs,Q,rfl,O⟩,⟨f,px,rfl,pq⟩,⟨c,D,rfl,B⟩⟩
theorem ZL{H:Hp}{f:List Dat}{a:Addr}(h:Rep K H (.tup f) (.ref a)):∃c,SqT K H a c/\Reps K H f c:=by
 obtain⟨g,c,e,q,r⟩:=h;cases e;exact⟨c,q,r⟩
inductive XN(K:W.Frag)(g:List V)(H:Hp)(Q:VK):Prop
 | mk (b f:Addr) (J:Job) (c:List Nat) (n:Int) (_:g=[.ref b,.ref f]) (_:BoxAt H b n) (_:n<600000) (_:Rep K H (xQ J) (.ref f)) (_:JobOk J c) (_:∀(l:Addr) (os:List Nat) H',SameB b H H'->BoxAt H' b (n+60)->l≠b->H l=none->H' l=some (.lst (zt os))->os.Perm (List.range J.ps.length)->ByOrd os J.as->Q (.ref l) H'):XN K g H Q
def zbb(K:W.Frag):Sp:=fun c H Q _=>XN K c H Q
inductive zkF(b l f g:Addr)(H:Hp)(n:Int)(J:Job)(m:Nat)(σ:St)(c:Hp):Prop
 | mk (left os:List Nat) (s A:Option V) (_:σ=[some (.ref b),some (.ref l),some (.ref f),some (.ref g),s,A]) (_:m=left.length) (_:SameB b H c) (_:BoxAt c b (n+os.length)) (_:c f=some (.lst (zt left))) (_:c g=some (.lst (zt os))) (_:(left++os).Perm (List.range J.ps.length)) (_:Early os J.as):zkF b l f g H n J m σ c
inductive zkG(b s g l:Addr)(H:Hp)(n:Int)(J:Job)(left:List Nat)(σ:St)(f:Hp):Prop
 | mk (c os:List Nat) (A B:Option V) (_:c.length<left.length) (_:σ=[some (.ref b),some (.ref s),some (.ref g),some (.ref l),A,B]) (_:SameB b H f) (_:BoxAt f b (n+os.length)) (_:f g=some (.lst (zt c))) (_:f l=some (.lst (zt os))) (_:(c++os).Perm (List.range J.ps.length)) (_:Early os J.as):zkG b s g l H n J left σ f
theorem zbq:zD ["_law_box_here","_law_job_here","_law_left","_law_found","_law_late","_law_free"] ["_law_box_here","_law_job_here"] (zy (topL 44)):=u3
theorem zeM{f:Addr}{fd:FuncData}(F:Fun K "_law_order" "_law_order" (topL 44) f fd)(B:Blt M)(Y:Dfn P w K M C "_law_take" 1 ["_law_box_here","_law_size"] vG):qY P w K M C CX0 2 f fd ["_law_box_here","_law_job_here"] (zbb K):=by
 have nd:=zbq.nd;refine F.ok zbq (fun vs H Q E h=>?_) (fun c2 A bt s H vs Q E hr h=>?_)
 ·obtain⟨b,jp,J,ar,n,rfl,_⟩:=h
  rfl
 ·obtain⟨b,jp,J,ar,n,rfl,B0,hn,rj,jo,k⟩:=h
  have hu:=hr.units0;have bz:=bG100000;have pl:=jo.pl;have al:=jo.al;obtain⟨g,fs,ps,as,qj,_,_,rp,ra⟩:=Yq rj;obtain⟨O,qp,bw⟩:=ZL rp;obtain⟨av,qa,bd⟩:=ZL ra;have lp:=bw.len;rw[zn] at lp;have la:=bd.len;rw[zn] at la;refine⟨_,(zf (jQ (qX (za (ZP rfl rfl B.list rfl B.range xJ (za (zx zI rfl B.len boot_len (za (zF je (pv 1) zi (fun _ _=>rfl)) ze)) ze)) (za (qC ze) ze))) (qL rfl (zr (zq (i:=2) nd rfl (Or.inr rfl)) (zr (zq (i:=3) nd rfl (Or.inl rfl)) qk))))
   (zf (W1 jC (zG (ZR hu) (pv 2) (qC ze) (zL _))
   (zf (zE (i:=4) nd rfl (Or.inr rfl) (xh ["_law_left"] [2] rfl rfl (by kernel_rfl) (xg (zF je (pv 1) zi (fun _ _=>rfl))) (fun _ _ _ _=>(ju (zG (xB (K:=K) rfl) (pv 0) (pv 2) (by with_unfolding_all rfl)))) (fun _ _ _ _=>(pv 1))))
    (zf (Jc ["_law_late"] [4] rfl rfl (by kernel_rfl) (qg (pv 2)) (fun _ _ _ _=>(ju (zG (j3 (K:=K) rfl) (pv 0) (pv 1) (by with_unfolding_all rfl)))) (fun _ _ _ _=>(pv 0)) (zq (i:=5) nd rfl (Or.inl rfl)))
    (zf (jt (xE xL w9 w8 jE (pv 3) (za (zF qJ (pv 5) (zk Y hr.m rfl (za (pv 0) (za (zx zI rfl B.len boot_len (za (pv 5) ze)) ze))) (fun _ _=>rfl)) ze)))
    (zo (jt (xE xL PySem.F.slot_list_remove PySem.F.type_list_remove zad (pv 2) (za (zF qJ (pv 3) (zjR zhx zi) (fun _ _=>rfl)) ze))))))))
   (zo (zB (pv 3))))),?_⟩
  refine⟨_,rfl,jp,_,_,_,rfl,rfl,qj,rfl,ps,_,rfl,.inr qp,_,rfl,by omega,by omega,fun G h0=>⟨le0,fun I h1=>⟨le2,fun t ht=>?_⟩⟩⟩
  have eN:((List.range ((O.length:Int)).toNat).map fun i:Nat=>V.int (i:Int))=zt (List.range J.ps.length):=by
   unfold zt;rw[show((O.length:Int)).toNat=J.ps.length by omega]
  have n0:=B0.nne h0;have S0:=(u8 b H).new (o:=.lst ((List.range ((O.length:Int)).toNat).map fun i:Nat=>V.int (i:Int))) h0
  have B1:=B0.new (o:=.lst ((List.range ((O.length:Int)).toNat).map fun i:Nat=>V.int (i:Int))) h0
  have L0:upd H G (.lst ((List.range ((O.length:Int)).toNat).map fun i:Nat=>V.int (i:Int))) G=some (.lst (zt (List.range J.ps.length))):=by rw[zd,eN]
  generalize upd H G (.lst ((List.range ((O.length:Int)).toNat).map fun i:Nat=>V.int (i:Int)))=H1 at S0 B1 L0 h1 ht
  have n1:=B1.nne h1;have N1:=S0.none h1 n1;have bb:G≠I:=zm L0 h1;have S1:=S0.new (o:=.lst []) h1;have B2:=B1.new (o:=.lst []) h1;have ae:=(zb (o:=.lst []) h1) _ _ L0;have L1:upd H1 I (.lst []) I=some (.lst []):=zd;generalize upd H1 I (.lst [])=H2 at S1 B2 ae L1 ht;have S2:=S1.new (o:=.tup [.ref G,.ref I]) ht;have B3:=B2.new (o:=.tup [.ref G,.ref I]) ht;have af:=(zb (o:=.tup [.ref G,.ref I]) ht) _ _ ae;have ag:=(zb (o:=.tup [.ref G,.ref I]) ht) _ _ L1;have T3:upd H2 t (.tup [.ref G,.ref I]) t=some (.tup [.ref G,.ref I]):=zd;generalize upd H2 t (.tup [.ref G,.ref I])=H3 at S2 B3 af ag T3;refine⟨t,_,rfl,u6 T3,rfl,_,_,rfl,_,_,rfl,rfl,?_⟩
  clear S0 S1 B1 B2 L0 ae L1 ht h1 T3;refine⟨zkF b jp G I H n J,
   ⟨_,List.range J.ps.length,[],none,none,rfl,rfl,S2,B3.mono (by simp),af,ag,by rw[jn],fun p _ l hl=>by simp at hl⟩,?_⟩
  clear S2 B3 af ag;rintro m σ H4 ⟨left,os,v4,v5,rfl,rfl,S4,B4,LL,LO,pm,ea⟩;have ac:=pm.length_eq;rw[qo,vO] at ac;refine⟨_,rfl,le0,fun q hq=>⟨G,q,_,rfl,rfl,u4 ((zb hq) _ _ LL),u4 zd,_,rfl,?_⟩⟩
  have S5:=S4.new (o:=.lst []) hq;have B5:=B4.new (o:=.lst []) hq;have a0:=(zb (o:=.lst []) hq) _ _ LL;have aa:=(zb (o:=.lst []) hq) _ _ LO;generalize upd H4 q (.lst [])=H5 at S5 B5 a0 aa;clear S4 B4 LL LO hq;cases left with
  | nil=>
   refine ifF rfl ⟨_,rfl,k I os H5 S5 (B5.mono (by simp at ac;omega)) n1 N1 aa (by simpa using pm) (ea.ord jo.bo ?_)⟩
   have:os.Perm (List.range J.ps.length):=by simpa using pm
   exact this.trans jo.op.symm
  | cons c rest=>
   refine ifT rfl ?_
   have bp:c::rest≠[]:=fun z=>by cases z
   generalize c::rest=left at *
   clear c rest;refine⟨zkG b jp G I H n J left,
    fun σ' H' ⟨aq,bs,v4,v5,bo,e,a1,a2,a3,a4,a5,a6⟩=>⟨_,bo,aq,bs,v4,v5,e,rfl,a1,a2,a3,a4,a5,a6⟩,?_⟩
   have T5:=SameT.trans (u7 B0 S5) (SameT.refl H5);have bc:=qj.keep T5;have aw:=qa.keep T5;have be:=bd.keep T5 (qA J.as);refine⟨_,rfl,jp,_,_,_,rfl,rfl,bc,rfl,as,rfl,⟨_,aw⟩,j6 (K:=K) (a:=as) (xs:=av) (fun i zs H6=>zs=zt (jc left (J.as.take i))/\Same H5 H6) ⟨rfl,u5 _⟩ (fun i zs H6 ⟨_,D⟩=>D.sqT aw) ?_ ?_⟩
   ·rintro i x zs H6 hx ⟨rfl,D⟩
    obtain⟨d,e1,r1⟩:=(be.same D).get hx;rw[zZ] at e1;obtain⟨p,ep,rfl⟩:=qE.mp e1;obtain⟨pa,xs,rfl,bu,y0,r0,f0,g0,y1,bv,f1,g1,f2⟩:=r1;subst f0 f1;cases(show bv=[] from f2)
    cases(show y0=_ from g0)
    cases(show y1=_ from g1)
    have hi:i<J.as.length:=(zC.mp ep).1;refine⟨pa,_,rfl,bu,rfl,_,_,rfl,_,_,rfl,rfl,rfl,?_⟩
    refine⟨_,rfl,_,rfl,G,zt left,rfl,.inl (u4 (D _ _ a0)),rfl,xG left,_,rfl,?_⟩
    have et:J.as.take (i+1)=J.as.take i++[p]:=zR ep;have ao:(if false=true then !inV (.int (p.1:Int)) (zt left) else inV (.int (p.1:Int)) (zt left))=decide (p.1∈left):=yW p.1 left
    rw[ao];refine xC (fun c=>⟨_,rfl,?_,?_,D⟩) (fun c=>⟨?_,D⟩)
    ·have:(jc left (J.as.take i)).length<=J.as.length:=by
      unfold jc;rw[zn];refine jk (qV _ _) ?_
      rw[qm];omega
     rw[zA];omega
    ·rw[et]
     unfold jc;rw[xT,zP,J4 (by exact c)]
     unfold zt;rw[zP];rfl
    ·rw[et]
     unfold jc;rw[xT,J3 (by exact c),JO,jn]
   rintro zs H6 ⟨rfl,D⟩;have ay:J.as.take av.length=J.as:=by rw[la,qz]
   rw[ay];have bq:(jc left J.as).length<=300:=by
    unfold jc;rw[zn];exact jk (qV _ _) al
   refine⟨by rw[zA];omega,fun ab U=>?_⟩
   have S6:=(S5.trans (u9 D)).new (o:=.lst (zt (jc left J.as))) U;have B6:=(B5.same D).new (o:=.lst (zt (jc left J.as))) U;have T:=(zb (o:=.lst (zt (jc left J.as))) U) _ _ (D _ _ a0);have ak:=(zb (o:=.lst (zt (jc left J.as))) U) _ _ (D _ _ aa);have ah:upd H6 ab (.lst (zt (jc left J.as))) ab=some (.lst (zt (jc left J.as))):=zd;generalize upd H6 ab (.lst (zt (jc left J.as)))=H7 at S6 B6 T ak ah;clear S5 B5 a0 aa D U T5 bc aw be;refine⟨_,rfl,G,rfl,⟨_,u4 T⟩,qQ (K:=K) (a:=G) (xs:=zt left) (fun i zs H8=>zs=zt ((left.take i).filter fun k=>!decide (k∈jc left J.as))/\Same H7 H8) ⟨rfl,u5 _⟩ (fun i zs H8 ⟨_,D⟩=>u4 (D _ _ T)) ?_ ?_⟩
   ·rintro i x zs H8 hx ⟨rfl,D⟩
    obtain⟨c,ec,rfl⟩:=ww hx;have hi:i<left.length:=(zC.mp ec).1;refine⟨rfl,?_⟩
    refine⟨_,rfl,_,rfl,ab,zt (jc left J.as),rfl,.inl (u4 (D _ _ ah)),rfl,xG _,_,rfl,?_⟩
    have ao:(if true=true then !inV (.int (c:Int)) (zt (jc left J.as)) else inV (.int (c:Int)) (zt (jc left J.as)))=!decide (c∈jc left J.as):=by rw[yW];rfl
    rw[ao,zR ec];refine xC (fun d=>⟨_,rfl,?_,?_,D⟩) (fun d=>⟨?_,D⟩)
    ·have:=qV (fun k=>!decide (k∈jc left J.as)) (left.take i)
     rw[qm] at this;rw[zA];omega
    ·rw[xT,J4 (by exact d)]
     unfold zt;rw[zP];rfl
    ·rw[xT,J3 (by exact d),JO,jn]
   rintro zs H8 ⟨rfl,D⟩;have bj:left.take (zt left).length=left:=by rw[zA,qz]
   rw[bj];have bn:(left.filter fun k=>!decide (k∈jc left J.as))=j7 left J.as:=rfl
   rw[bn];have c3:(j7 left J.as).length<=left.length:=qV _ _;refine⟨by rw[zA];omega,fun lf L=>?_⟩
   have S7:=(S6.trans (u9 D)).new (o:=.lst (zt (j7 left J.as))) L;have B7:=(B6.same D).new (o:=.lst (zt (j7 left J.as))) L;have ax:=(zb (o:=.lst (zt (j7 left J.as))) L) _ _ (D _ _ T);have am:=(zb (o:=.lst (zt (j7 left J.as))) L) _ _ (D _ _ ak);have ai:upd H8 lf (.lst (zt (j7 left J.as))) lf=some (.lst (zt (j7 left J.as))):=zd;have br:=(B6.same D).nne L;generalize upd H8 lf (.lst (zt (j7 left J.as)))=H9 at S7 B7 ax am ai;clear S6 B6 T ak ah D L;have inr:∀x∈left,x∈ar:=fun x hx=>by
    have h1:=pm.mem_iff.mp (jN os hx);exact jo.op.mem_iff.mpr h1
   have au:ar.Nodup:=jo.op.nodup_iff.mpr Zx;have bm:=zdb jo.bo au inr bp;have bx:0<(j7 left J.as).length:=V9.mpr bm;refine⟨_,rfl,.inl ⟨rfl,_,u4 am⟩,_,rfl,_,rfl,_,rfl,lf,_,rfl,.inl (u4 ai),b,_,_,rfl,B7,by omega,by rw[zA];omega,by rw[zA];omega,fun r Ha r0 r1 Ba Sa=>?_⟩
   rw[zA] at r1;have ba:r.toNat<(j7 left J.as).length:=by omega
   have er:(zt (j7 left J.as))[r.toNat]? =some (.int (((j7 left J.as)[r.toNat]:Nat):Int)):=by
    unfold zt;rw[zZ,jh ba];rfl
   have az:atI (zt (j7 left J.as)) r=some (.int (((j7 left J.as)[r.toNat]:Nat):Int)):=by
    have:=qK er;rwa[show((r.toNat:Nat):Int)=r by omega] at this
   have b0:=vX ba;generalize (j7 left J.as)[r.toNat]=c at er az b0;obtain⟨cl,cn⟩:=qG.mp b0;have bi:c∉jc left J.as:=by simpa using cn
   have bf:=Sa _ _ ai br;have bh:=Sa _ _ am n1;have bg:=Sa _ _ ax n0;refine⟨lf,_,_,_,rfl,rfl,u4 bf,az,I,_,_,rfl,rfl,bh,by rw[zA];omega,?_⟩
   have eO:zt os++[V.int (c:Int)]=zt (os++[c]):=by unfold zt;rw[zP];rfl
   rw[eO];have Sb:=(S7.trans Sa).put (o:=.lst (zt (os++[c]))) N1;have Bb:=Ba.other (o:=.lst (zt (os++[c]))) n1;have an:upd Ha I (.lst (zt (os++[c]))) I=some (.lst (zt (os++[c]))):=zd;have aj:upd Ha I (.lst (zt (os++[c]))) G=some (.lst (zt left)):=by rw[zp bb];exact bg
   generalize upd Ha I (.lst (zt (os++[c])))=Hb at Sb Bb an aj;have ap:atI (zt (os++[c])) (-1)=some (.int (c:Int)):=by
    have:zt (os++[c])=zt os++[V.int (c:Int)]:=eO.symm;rw[this];exact zfp _ _
   refine⟨_,rfl,.inl ⟨rfl,_,u4 aj⟩,_,rfl,_,rfl,I,_,_,_,rfl,rfl,u4 an,ap,G,left.map fun i:Nat=>(i:Int),(c:Int),rfl,rfl,by rw[aj,Yb],zN.mpr ⟨c,cl,rfl⟩,?_⟩
   have eE:((left.map fun i:Nat=>(i:Int)).erase (c:Int)).map V.int=zt (left.erase c):=by rw[X2,Yb]
   rw[eE];have N0:H G=none:=h0;have c0:(left.erase c).length+1=left.length:=by
    have:=zaS cl;have:=zaQ cl;omega
   refine⟨left.erase c,os++[c],_,_,by omega,rfl,Sb.put N0,(Bb.other n0).mono (by rw[qo];simp;omega),zd,by rw[zp bb.symm];exact an,?_,?_⟩
   ·have h1:(left++os).Perm (c::(left.erase c)++os):=(List.perm_cons_erase cl).append_right os
    have h2:(left.erase c++(os++[c])).Perm (c::left.erase c++os):=by
     rw[<- yG];exact List.perm_append_comm
    exact(h2.trans h1.symm).trans pm
   ·refine ea.snoc fun p hp e=>?_
    have h1:p.1∈left++os:=pm.mem_iff.mpr (jo.op.mem_iff.mp (jo.bo.mem1 hp));rcases qU.mp h1 with z | z
    ·exact absurd (Yh.mpr ⟨p,hp,z,e⟩) bi
    ·exact z
structure zS where
 pk:List (Nat×Nat)
 ly:List Nat
def y4(k:Nat):Dat:=.int (k:Int)
def jH(t:zS):Dat:=.tup [.tup (t.pk.map jJ),.tup (t.ly.map y4)]
theorem W9:∀(l:List Nat),Dat.imms (l.map y4)=true
 | []=>rfl
 | k::l=>by
  show(true&&Dat.imms (l.map y4))=true;rw[W9 l];rfl
theorem Xz(t:zS):(jH t).imm=true:=by
 show(Dat.imms (t.pk.map jJ)&&(Dat.imms (t.ly.map y4)&&true))=true;rw[qA,W9];rfl
theorem xD:∀(l:List zS),Dat.imms (l.map jH)=true
 | []=>rfl
 | t::l=>by
  show((jH t).imm&&Dat.imms (l.map jH))=true;rw[Xz,xD l];rfl
theorem Reps.perm{H:Hp}{α:Type}{f:α->Dat}{E D:List V}(h:E.Perm D):∀{g:List α},Reps K H (g.map f) D->∃s:List α,s.Perm g/\Reps K H (s.map f) E:=by
 induction h with
 | nil=>intro g h;exact⟨g,List.Perm.refl _,h⟩
 | cons x T L=>
  intro g h;cases g with
  | nil=>cases(show _=[] from h)
  | cons a g=>
   obtain⟨y,r,e,h1,h2⟩:=h;cases e;obtain⟨s,p,q⟩:=L h2;exact⟨a::s,p.cons a,⟨_,_,rfl,h1,q⟩⟩
 | swap x y l=>
  intro g h;cases g with
  | nil=>cases(show _=[] from h)
  | cons a g=>
   obtain⟨u,r,e,h1,h2⟩:=h;cases e;cases g with
   | nil=>cases(show _=[] from h2)
   | cons c g=>
    obtain⟨u,r,e,I,J⟩:=h2;cases e;exact⟨c::a::g,List.Perm.swap a c g,⟨_,_,rfl,I,_,_,rfl,h1,J⟩⟩
 | trans h1 h2 A B=>
  intro g h;obtain⟨s,p,q⟩:=B h;obtain⟨G,O,Q⟩:=A q;exact⟨G,O.trans p,Q⟩
theorem vE{H:Hp}:∀(l:List Nat),Reps K H (l.map y4) (zt l)
 | []=>rfl
 | k::l=>⟨_,_,rfl,rfl,vE l⟩
theorem qv{H:Hp}{p:Nat×Nat}{x:V}(h:Rep K H (jJ p) x):∃a,x=.ref a/\SqT K H a [.int p.1,.int p.2]:=by
 obtain⟨D,J,rfl,c,E,I,g,A,G,f,l,B,s⟩:=h;subst g l;cases(show f=[] from s)
 cases(show E=_ from A)
 cases(show G=_ from B)
 exact⟨D,rfl,c⟩
inductive WG(K:W.Frag)(g:List V)(H:Hp)(Q:VK):Prop
 | mk (b pk:Addr) (n:Int) (l:List V) (c:List (Nat×Nat)) (_:g=[.ref b,.ref pk]) (_:BoxAt H b n) (_:n<900000) (_:pk≠b) (_:H pk=some (.lst l)) (_:Reps K H (c.map jJ) l) (_:c.length<=1000) (_:∀(p:Addr) (f:List (Nat×Nat)) H',SameB b H H'->BoxAt H' b (n+c.length)->f.Perm c->Rep K H' (jH ⟨f,c.map (·.1)⟩) (.ref p)->Q (.ref p) H'):WG K g H Q
def zdG(K:W.Frag):Sp:=fun c H Q _=>WG K c H Q
theorem zd4:zD ["_law_box_here","_law_picks"] ["_law_box_here","_law_picks"] (zy (topL 45)):=u3
theorem zgg{f:Addr}{fd:FuncData}(F:Fun K "_law_trip" "_law_trip" (topL 45) f fd)(B:Blt M)(c:Dfn P w K M C "_law_shuffled" 2 ["_law_box_here","_law_some"] (Vm K)):qY P w K M C CX0 3 f fd ["_law_box_here","_law_picks"] (zdG K):=by
 have nd:=zd4.nd;refine F.ok zd4 (fun vs H Q E h=>?_) (fun ak A af s H vs Q E hr h=>?_)
 ·obtain⟨b,pk,n,O,g,rfl,_⟩:=h
  rfl
 ·obtain⟨b,pk,n,O,g,rfl,B0,hn,T,hp,rp,lp,k⟩:=h
  have aj:=bG100000;have lx:O.length=g.length:=by have:=rp.len;rwa[zn] at this
  refine⟨_,(zo (zB (qX (za (qH jx rfl B.tuple jM (za (zk c hr.m rfl (za (pv 0) (za (pv 1) ze))) ze)) (za (qH jx rfl B.tuple jM (za (xh [] [] rfl rfl (by kernel_rfl) (qg (pv 1)) (fun _ _ _ _=>qS) (fun _ _ _ _=>(pv 0))) ze)) ze))))),?_⟩
  refine⟨_,rfl,_,rfl,b,pk,n,O,rfl,B0,by omega,.inl ⟨T,hp⟩,by omega,fun l G H1 S1 B1 nl hl hL pm=>?_⟩
  have T1:=u7 B0 S1;obtain⟨sh,ai,ah⟩:=Reps.perm pm (rp.keep T1 (qA g));have ag:=rp.keep T1 (qA g);refine⟨l,G,rfl,.inl ⟨u4 hL,fun Y J=>?_⟩⟩
  have s1:=zb (o:=.tup G) J;have I:=s1 _ _ (S1 _ _ hp T);have U:=ag.same s1;have D:=ah.same s1;have a0:upd H1 Y (.tup G) Y=some (.tup G):=zd;have S2:=S1.new (o:=.tup G) J;have B2:=B1.new (o:=.tup G) J;generalize upd H1 Y (.tup G)=H2 at s1 I U D a0 S2 B2;refine⟨_,rfl,pk,rfl,⟨_,u4 I⟩,qQ (K:=K) (a:=pk) (xs:=O) (fun i zs H3=>zs=zt ((g.map (·.1)).take i)/\Same H2 H3) ⟨rfl,u5 _⟩ (fun i zs H3 ⟨_,L⟩=>u4 (L _ _ I)) ?_ ?_⟩
  ·rintro i x zs H3 hx ⟨rfl,L⟩
   obtain⟨d,e1,r1⟩:=(U.same L).get hx;rw[zZ] at e1;obtain⟨p,ep,rfl⟩:=qE.mp e1;obtain⟨pa,rfl,qp⟩:=qv r1;have hi:i<g.length:=(zC.mp ep).1;refine⟨pa,_,rfl,qp,rfl,_,_,rfl,_,_,rfl,rfl,rfl,?_⟩
   refine⟨_,rfl,?_,?_,L⟩
   ·rw[zA,qm,zn];omega
   ·have aa:(g.map (·.1))[i]? =some p.1:=by rw[zZ,ep];rfl
    rw[zR aa];unfold zt;rw[zP];rfl
  rintro zs H3 ⟨rfl,L⟩;have ab:(g.map (·.1)).take O.length=g.map (·.1):=by rw[lx,<- zn (f:=(·.1)),qz]
  rw[ab];refine⟨by rw[zA,zn];omega,fun l2 ac=>⟨l2,_,rfl,.inl ⟨u4 zd,fun t2 ae=>⟨le2,fun q hq=>?_⟩⟩⟩⟩
  have s2:=(L.trans (zb (o:=.lst (zt (g.map (·.1)))) ac)).trans (zb (o:=.tup (zt (g.map (·.1)))) ae)
  have s3:=s2.trans (zb (o:=.tup [.ref Y,.ref t2]) hq);refine k q sh _ (S2.trans (u9 s3)) (B2.same s3 |>.mono (by omega)) ai ?_
  refine⟨q,_,rfl,u6 zd,_,_,rfl,⟨Y,G,rfl,u6 (s3 _ _ a0),D.same s3⟩,_,_,rfl,⟨t2,_,rfl,u6 ((zb hq) _ _ zd),vE _⟩,rfl⟩
def xp(J:Job)(p:Nat×Nat):Prop:=∃f c,J.ps[p.1]? =some f/\J.fs[p.2]? =some c/\c.k=f.k
structure J8(J:Job)(t:zS):Prop where
 p1:1<=t.pk.length
 p2:(t.pk.length:Int)<=J.hd
 ok:∀p∈t.pk,xp J p
 ly:t.ly.Perm (t.pk.map (·.1))
def zY(ts:List zS):List Nat:=ts.flatMap (·.ly)
theorem vh(ts:List zS)(t:zS):zY (ts++[t])=zY ts++t.ly:=by
 unfold zY;rw[QF];simp
def yk(ts:List zS):List (Nat×Nat):=ts.flatMap (·.pk)
theorem Zk(ts:List zS)(t:zS):yk (ts++[t])=yk ts++t.pk:=by
 unfold yk;rw[QF];simp
structure StL(J:Job)(st:List Int)(l:List (Nat×Nat)):Prop where
 len:st.length=J.fs.length
 nn:∀(f:Nat) (z:Int),st[f]? =some z->0<=z
 cnt:∀(f:Nat) (z:Int) (fe:wD),st[f]? =some z->J.fs[f]? =some fe->z=fe.m-((l.map (·.2)).count f:Int)
theorem StL.nil{J:Job}(h:∀f∈J.fs,0<=f.m):StL J (J.fs.map (·.m)) []:=by
 refine⟨zn ..,fun f z e=>?_,fun f z c e g=>?_⟩
 ·rw[zZ] at e
  obtain⟨x,l,rfl⟩:=qE.mp e;exact h x (qr l)
 ·rw[zZ,g] at e
  cases e;show c.m=c.m-((0:Nat):Int);omega
theorem StL.perm{J:Job}{st:List Int}{l c:List (Nat×Nat)}(s:StL J st l)(p:l.Perm c):StL J st c:=⟨s.len,s.nn,fun f z A e g=>by rw[<- (p.map (·.2)).count_eq];exact s.cnt f z A e g⟩
theorem StL.take{J:Job}{st:List Int}{l:List (Nat×Nat)}(s:StL J st l){c f:Nat}{z:Int}(e:st[f]? =some z)(h:0<z):StL J (st.set f (z-1)) (l++[(c,f)]):=by
 refine⟨by rw[zay];exact s.len,fun g y A=>?_,fun g y D A B=>?_⟩
 ·rw[zaE] at A
  split at A
  ·split at A
   ·cases A;omega
   ·cases A
  ·exact s.nn g y A
 ·rw[zP,yM]
  show _=_-((_+[f].count g:Nat):Int);rw[zaE] at A;split at A
  ·split at A
   ·cases A
    rename_i x _
    subst x;have:=s.cnt f z D e B;rw[zfr];omega
   ·cases A
  ·rename_i x
   have:=s.cnt g y D A B;rw[List.count_eq_zero_of_not_mem (a:=g) (l:=[f]) (fun z=>x (qD.mp z).symm)]
   omega
structure PlanOk(J:Job)(os:List Nat)(ts:List zS):Prop where
 tr:∀t∈ts,J8 J t
 sub:(zY ts).Sublist os
 len:ts.length<=60
 cl:∀p∈J.as,p.2∈zY ts->p.1∈zY ts
 stk:∃st,StL J st (yk ts)
structure PlC(J:Job)(ou laid pre:List Nat):Prop where
 a1:∀x∈pre,x∈laid\/x∈ou
 a2:∀p∈J.as,p.2∈laid->p.1∈laid
theorem PlC.out{J:Job}{ou f g:List Nat}{c:Nat}(h:PlC J ou f g):PlC J (ou++[c]) f (g++[c]):=⟨fun x hx=>by
 rcases qU.mp hx with z | z
 ·exact(h.a1 x z).imp id fun y=>jN _ y
 ·exact .inr (qI _ z),h.a2⟩
theorem PlC.lay{J:Job}{ou f os:List Nat}{c i:Nat}(h:PlC J ou f (os.take i))(A:os[i]? =some c)(G:os.Nodup)(s:ByOrd os J.as)(hc:∀p∈J.as,p.2=c->p.1∉ou):PlC J ou (f++[c]) (os.take i++[c]):=⟨fun x hx=>by
 rcases qU.mp hx with z | z
 ·exact(h.a1 x z).imp (fun y=>jN _ y) id
 ·exact .inl (qI _ z),fun p g E=>by
 rcases qU.mp E with z | z
 ·exact jN _ (h.a2 p g z)
 ·have e:p.2=c:=qD.mp z
  obtain⟨k,l,L,e1,e2⟩:=s p g;have I:l=i:=by
   obtain⟨h1,B⟩:=zC.mp e2;obtain⟨h2,D⟩:=zC.mp A;exact(Qr G).mp (B.trans (e.trans D.symm))
  have:p.1∈os.take i:=yH.mpr ⟨k,by rw[V5,zv (by omega)];exact e1⟩
  rcases h.a1 _ this with y | y
  ·exact jN _ y
  ·exact absurd y (hc p g e)⟩
structure PlS(K:W.Frag)(H:Hp)(b ls lf lp lo lq:Addr)(st:List Int)(tr pk:List V)(ou os:List Nat)(ts:List zS)(pks:List (Nat×Nat))(H':Hp)(n:Int):Prop where
 s:SameB b H H'
 bx:BoxAt H' b n
 nb:ls≠b/\lf≠b/\lp≠b/\lo≠b/\lq≠b
 nn:ls≠lf/\ls≠lp/\ls≠lo/\ls≠lq/\lf≠lp/\lf≠lo/\lf≠lq/\lp≠lo/\lp≠lq/\lo≠lq
 hN:H ls=none/\H lf=none/\H lp=none/\H lo=none
 hs:H' ls=some (.lst (st.map V.int))
 hf:H' lf=some (.lst tr)
 hp:H' lp=some (.lst pk)
 ho:H' lo=some (.lst (zt ou))
 hq:H' lq=some (.lst (zt os))
 rt:Reps K H' (ts.map jH) tr
 rk:Reps K H' (pks.map jJ) pk
variable{H H' N:Hp}{b ls lf lp lo lq:Addr}{st:List Int}{tr pk:List V}{ou os:List Nat}{ts:List zS}{pks:List (Nat×Nat)}{n m:Int}
theorem PlS.draw(g:PlS K H b ls lf lp lo lq st tr pk ou os ts pks H' n)(S:SameB b H' N)(B:BoxAt N b m):PlS K H b ls lf lp lo lq st tr pk ou os ts pks N m:=by
 obtain⟨c,f,l,s,A⟩:=g.nb;have T:=u7 g.bx S;exact⟨g.s.trans S,B,g.nb,g.nn,g.hN,S _ _ g.hs c,S _ _ g.hf f,S _ _ g.hp l,S _ _ g.ho s,S _ _ g.hq A,g.rt.keep T (xD ts),g.rk.keep T (qA pks)⟩
theorem PlS.same(g:PlS K H b ls lf lp lo lq st tr pk ou os ts pks H' n)(S:Same H' N):PlS K H b ls lf lp lo lq st tr pk ou os ts pks N n:=g.draw (u9 S) (g.bx.same S)
theorem PlS.new{q:Addr}{o:HO}(g:PlS K H b ls lf lp lo lq st tr pk ou os ts pks H' n)(h:H' q=none):PlS K H b ls lf lp lo lq st tr pk ou os ts pks (upd H' q o) n:=g.same (zb h)
theorem PlS.mono(g:PlS K H b ls lf lp lo lq st tr pk ou os ts pks H' n)(h:n<=m):PlS K H b ls lf lp lo lq st tr pk ou os ts pks H' m:=⟨g.s,g.bx.mono h,g.nb,g.nn,g.hN,g.hs,g.hf,g.hp,g.ho,g.hq,g.rt,g.rk⟩
theorem PlS.putO{c:List Nat}(g:PlS K H b ls lf lp lo lq st tr pk ou os ts pks H' n):PlS K H b ls lf lp lo lq st tr pk c os ts pks (upd H' lo (.lst (zt c))) n:=by
 obtain⟨s,A,B,l,D⟩:=g.nb;obtain⟨a1,a2,a3,a4,a5,a6,a7,a8,a9,f⟩:=g.nn;have T:=ub (ys:=zt c) g.ho;exact⟨g.s.put g.hN.2.2.2,g.bx.other l,g.nb,g.nn,g.hN,by rw[zp a3];exact g.hs,by rw[zp a6];exact g.hf,by rw[zp a8];exact g.hp,zd,by rw[zp f.symm];exact g.hq,g.rt.keep T (xD ts),g.rk.keep T (qA pks)⟩
theorem PlS.putS{st':List Int}(g:PlS K H b ls lf lp lo lq st tr pk ou os ts pks H' n):PlS K H b ls lf lp lo lq st' tr pk ou os ts pks (upd H' ls (.lst (st'.map V.int))) n:=by
 obtain⟨f,l,s,A,B⟩:=g.nb;obtain⟨a1,a2,a3,a4,a5,a6,a7,a8,a9,c⟩:=g.nn;have T:=ub (ys:=st'.map V.int) g.hs;exact⟨g.s.put g.hN.1,g.bx.other f,g.nb,g.nn,g.hN,zd,by rw[zp a1.symm];exact g.hf,by rw[zp a2.symm];exact g.hp,by rw[zp a3.symm];exact g.ho,by rw[zp a4.symm];exact g.hq,g.rt.keep T (xD ts),g.rk.keep T (qA pks)⟩
theorem PlS.putF{v:V}{t:zS}(g:PlS K H b ls lf lp lo lq st tr pk ou os ts pks H' n)(hv:Rep K H' (jH t) v):PlS K H b ls lf lp lo lq st (tr++[v]) pk ou os (ts++[t]) pks (upd H' lf (.lst (tr++[v]))) n:=by
 obtain⟨l,f,s,A,B⟩:=g.nb;obtain⟨a1,a2,a3,a4,a5,a6,a7,a8,a9,c⟩:=g.nn;have T:=ub (ys:=tr++[v]) g.hf;refine⟨g.s.put g.hN.2.1,g.bx.other f,g.nb,g.nn,g.hN,by rw[zp a1];exact g.hs,zd,by rw[zp a5.symm];exact g.hp,by rw[zp a6.symm];exact g.ho,by rw[zp a7.symm];exact g.hq,?_,g.rk.keep T (qA pks)⟩
 rw[zP];exact uc (hv.keep T (Xz t)) (g.rt.keep T (xD ts))
theorem PlS.putP{v:V}{p:Nat×Nat}(g:PlS K H b ls lf lp lo lq st tr pk ou os ts pks H' n)(hv:Rep K H' (jJ p) v):PlS K H b ls lf lp lo lq st tr (pk++[v]) ou os ts (pks++[p]) (upd H' lp (.lst (pk++[v]))) n:=by
 obtain⟨l,s,f,A,B⟩:=g.nb;obtain⟨a1,a2,a3,a4,a5,a6,a7,a8,a9,c⟩:=g.nn;have T:=ub (ys:=pk++[v]) g.hp;refine⟨g.s.put g.hN.2.2.1,g.bx.other f,g.nb,g.nn,g.hN,by rw[zp a2];exact g.hs,by rw[zp a5];exact g.hf,zd,by rw[zp a8.symm];exact g.ho,by rw[zp a9.symm];exact g.hq,g.rt.keep T (xD ts),?_⟩
 rw[zP];exact uc (hv.keep T (by rfl)) (g.rk.keep T (qA pks))
theorem PlS.newP{q:Addr}(g:PlS K H b ls lf lp lo lq st tr pk ou os ts pks H' n)(h:H' q=none):PlS K H b ls lf q lo lq st tr [] ou os ts [] (upd H' q (.lst [])) n:=by
 obtain⟨s,A,E,B,D⟩:=g.nb;obtain⟨a1,a2,a3,a4,a5,a6,a7,a8,a9,f⟩:=g.nn;have c:=g.new (o:=.lst []) h;have l:=g.bx.nne h;exact⟨c.s,c.bx,⟨s,A,l,B,D⟩,⟨a1,zm g.hs h,a3,a4,zm g.hf h,a6,a7,(zm g.ho h).symm,(zm g.hq h).symm,f⟩,⟨g.hN.1,g.hN.2.1,g.s.none h l,g.hN.2.2.2⟩,c.hs,c.hf,zd,c.ho,c.hq,c.rt,rfl⟩
inductive zi0(t:TT)(σ:St)(H:Hp)(Q:Bool->Hp->Prop):Prop
 | mk (J:Bool->Hp->Prop) (_:t σ H J) (_:∀c H',J c H'->Q c H'):zi0 t σ H Q
theorem zbA{X:Cx}{e:Expr}{t:TT}(h:PT X e t):PT X e (zi0 t):=by
 intro f s σ H Q I A;obtain⟨J,B,D⟩:=A;exact thn (h f s σ H J I B) fun c s1 ⟨g,l,q⟩=>⟨g,l,D _ _ q⟩
theorem xI{H:Hp}{p:wD}{x:V}(h:Rep K H (wW p) x):∃a c,x=.ref a/\SqT K H a [.str p.k,.ref c,.int p.m]/\SqT K H c [.int p.x,.int p.y]:=by
 obtain⟨a,xs,rfl,q,O,Y,g,B,y1,r1,l,D,Q,L,s,E,A⟩:=h;subst g l s;cases(show L=[] from A)
 cases(show O=_ from B)
 cases(show Q=_ from E)
 obtain⟨c,ys,rfl,J,T,s0,f,G,U,s1,e1,I,e2⟩:=D;subst f e1;cases(show s1=[] from e2)
 cases(show T=_ from G)
 cases(show U=_ from I)
 exact⟨a,c,rfl,q,J⟩
theorem xV{H:Hp}{p:yh}{x:V}(h:Rep K H (vI p) x):∃a c,x=.ref a/\SqT K H a [.str p.k,.ref c]/\SqT K H c [.int p.x,.int p.y]:=by
 obtain⟨a,U,rfl,q,J,Q,g,A,Y,I,l,B,s⟩:=h;subst g l;cases(show I=[] from s)
 cases(show J=_ from A)
 obtain⟨c,ys,rfl,G,L,T,f,D,O,s1,e1,E,e2⟩:=B;subst f e1;cases(show s1=[] from e2)
 cases(show L=_ from D)
 cases(show O=_ from E)
 exact⟨a,c,rfl,q,G⟩
theorem wO{H:Hp}{α:Type}{f:α->Dat}{l:List α}{g:List V}(h:Reps K H (l.map f) g){i:Nat}{a:α}(s:l[i]? =some a):∃v,g[i]? =some v/\Rep K H (f a) v:=by
 have A:=h.len;rw[zn] at A;have c:i<g.length:=by have:=(zC.mp s).1;omega
 obtain⟨d,e,r⟩:=h.get (i:=i) (x:=g[i]) (by simp[c])
 rw[zZ,s] at e;cases e;exact⟨g[i],by simp[c],r⟩
inductive WK(K:W.Frag)(s:List V)(H:Hp)(Q:VK):Prop
 | mk (b g:Addr) (J:Job) (f:List Nat) (c n:Int) (_:s=[.ref b,.ref g,.int c]) (_:BoxAt H b n) (_:n<500000) (_:Rep K H (xQ J) (.ref g)) (_:JobOk J f) (_:0<=c) (_:c<=100) (_:∀(l:Addr) (os:List Nat) (ts:List zS) (tr:List V) H',SameB b H H'->BoxAt H' b (n+1000)->l≠b->H l=none->H' l=some (.lst tr)->Reps K H' (ts.map jH) tr->os.Perm (List.range J.ps.length)->ByOrd os J.as->PlanOk J os ts->Q (.ref l) H'):WK K s H Q
def zdL(K:W.Frag):Sp:=fun c H Q _=>WK K c H Q
theorem zd8:zD ["_law_box_here","_law_job_here","_law_most","_law_stock","_law_found","_law_picks","_law_out","_law_part","_law_some","_law_lost","_law_at"] ["_law_box_here","_law_job_here","_law_most"] (zy (topL 46)):=u3
def zce(b:_)(g:_)(c:_)(ls:_)(lf:_)(lo:_)(K:_)(H:_)(lq:_)(os:List Nat)(n:_)(J:Job):=fun(i:Nat) (σ:St) (H':Hp)=>(zkN fun(lp:Addr) (l s A f:Option V) (st:List Int) (tr pk:List V) (ou:List Nat) (ts:List zS) (pks:List (Nat×Nat))=>zkR (σ=[some (.ref b),some (.ref g),some (.int c),some (.ref ls),some (.ref lf),some (.ref lp),some (.ref lo),l,s,A,f]) (PlS K H b ls lf lp lo lq st tr pk ou os ts pks H' (n+60+10*i)) (StL J st (yk ts++pks)) ((∀t∈ts,J8 J t)) ((∀p∈pks,xp J p)) ((pks.length:Int)<J.hd) ((zY ts++pks.map (·.1)).Sublist (os.take i)) (ts.length+pks.length<=i) (ou.length<=i) (PlC J ou (zY ts++pks.map (·.1)) (os.take i)):Prop)
def zcd(J:Job)(B:yh)(st:List Int)(l:_):=fun(A:Nat) (D:List V) (s:Hp)=>(Ex1 fun(c:List Nat)=>An4 (D=zt c) (c.length<=A) ((∀g∈c,∃f,J.fs[g]? =some f/\f.k=B.k/\∃z,st[g]? =some z/\0<z)) (Same l s):Prop)
theorem zgk{f:Addr}{fd:FuncData}(F:Fun K "_law_plan" "_law_plan" (topL 46) f fd)(B:Blt M)(a0:Dfn P w K M C "_law_take" 1 ["_law_box_here","_law_size"] vG)(ar:Dfn P w K M C "_law_order" 2 ["_law_box_here","_law_job_here"] (zbb K))(aj:Dfn P w K M C "_law_trip" 3 ["_law_box_here","_law_picks"] (zdG K)):qY P w K M C CX0 4 f fd ["_law_box_here","_law_job_here","_law_most"] (zdL K):=by
 have nd:=zd8.nd;refine F.ok zd8 (fun vs H Q E h=>?_) (fun ea A dn s H vs Q E hr h=>?_)
 ·obtain⟨b,jp,J,cu,ae,n,rfl,_⟩:=h
  rfl
 ·obtain⟨b,jp,J,cu,ae,n,rfl,B0,hn,rj,jo,ef,eg,k⟩:=h
  have hu:=hr.units0;have e6:=bG100000;have pl:=jo.pl;have al:=jo.al;have fl:=jo.fl;have eb:=jo.hd0;have ed:=jo.hd1;obtain⟨g,fs,ps,as,qj,_,rf,rp,ra⟩:=Yq rj;obtain⟨fv,qf,ce⟩:=ZL rf;obtain⟨ej,qp,d4⟩:=ZL rp;obtain⟨av,qa,d2⟩:=ZL ra;have cp:=ce.len;rw[zn] at cp;have lp:=d4.len;rw[zn] at lp;have la:=d2.len;rw[zn] at la;refine⟨_,(zf (zE (i:=3) nd rfl (Or.inr rfl) (jv [] [] rfl rfl (by kernel_rfl) (xg (zF je (pv 1) zi (fun _ _=>rfl))) (fun _ _ _ _=>qS) (fun _ _ _ _=>(zF (qM (K:=K) rfl) (pv 0) zi (fun _ _=>rfl)))))
   (zf (jQ (qX (za (qC ze) (za (qC ze) (za (qC ze) ze)))) (qL rfl (zr (zq (i:=4) nd rfl (Or.inl rfl)) (zr (zq (i:=5) nd rfl (Or.inl rfl)) (zr (zq (i:=6) nd rfl (Or.inr rfl)) qk)))))
   (zf (qZ jC rfl (qg (zk ar hr.m rfl (za (pv 0) (za (pv 1) ze)))) (zq (i:=7) nd rfl (Or.inr rfl))
   (zf (Vr ["_law_stock","_law_part","_law_job_here"] [3,7,1] rfl rfl (by kernel_rfl) (yn rfl B.enumerate (za (zF je (pv 1) zi (fun _ _=>rfl)) ze)) (fun _ _ _ _=>(ju (PW.pt (Vq (zG j8 (zF (qM (K:=K) rfl) (pv 1) zi (fun _ _=>rfl)) (zF (qM (K:=K) rfl) (zF (qM (K:=K) rfl) (zF (qM (K:=K) rfl) (pv 4) zi (fun _ _=>rfl)) (pv 3) (fun _ _=>rfl)) zi (fun _ _=>rfl)) (zL _)) (QR (zG zbF (zF (yu (K:=K) rfl) (pv 2) (pv 0) (fun _ _=>rfl)) zi (zL _))))))) (fun _ _ _ _=>(pv 0)) (zq (i:=8) nd rfl (Or.inl rfl)))
    (zf (yR (zE (i:=9) nd rfl (Or.inl rfl) (zhn (qW (W5 hu) (pv 8) (qC ze) (zL _)) (wa (zx (X6 rfl) rfl B.any JE (za (xh ["_law_part","_law_out"] [7,6] rfl rfl (by kernel_rfl) (xg (zF je (pv 1) zi (fun _ _=>rfl))) (fun _ _ _ _=>qS) (fun _ _ _ _=>(yo (qW j8 (pv 1) (pv 2) (zL _)) (wa (qW (xB (K:=K) rfl) (pv 0) (pv 3) (by with_unfolding_all rfl)))))) ze))))))
    (zf (yR (jB (zbA (PW.pt (W0 (xf (pv 9)) (Jb (PW.pt (Vq (zG zbF (pv 2) zi (zL _)) (QR (zG j8 (zk a0 hr.m rfl (za (pv 0) (za (pv 2) ze))) zi (zL _)))))))))
    (zo (jt (xE xL w9 w8 jE (pv 6) (za (pv 7) ze))))
    (zf (zE (i:=10) nd rfl (Or.inl rfl) (zF qJ (pv 8) (zk a0 hr.m rfl (za (pv 0) (za (zx zI rfl B.len boot_len (za (pv 8) ze)) ze))) (fun _ _=>rfl)))
     (zf (jQ (zM vJ (zF qJ (pv 3) (pv 10) (fun _ _=>rfl)) zi) (Vv (pv 3) (pv 10) yi))
     (zo (jt (xE xL w9 w8 jE (pv 5) (za (qX (za (pv 7) (za (pv 10) ze))) ze))))))))
    (zo (jB (zbA (PW.pt (Vq (zG (ZR hu) (pv 5) (qC ze) (zL _)) (QR (PW.pt (W0 (zG j8 (zx zI rfl B.len boot_len (za (pv 5) ze)) (zF je (pv 1) zi (fun _ _=>rfl)) (zL _)) (Jb (zG j8 (zk a0 hr.m rfl (za (pv 0) (za zi ze))) zi (zL _)))))))))
    (zf (jt (xE xL w9 w8 jE (pv 4) (za (zk aj hr.m rfl (za (pv 0) (za (pv 5) ze))) ze)))
     (zo (zE (i:=5) nd rfl (Or.inl rfl) (qC ze))))
    qF))))))
   (zo (zB (zM Zl (pv 4) (zM zeD (qC (za (zk aj hr.m rfl (za (pv 0) (za (pv 5) ze))) ze)) (qH yY rfl B.int yB (za (qW (ZR hu) (pv 5) (qC ze) (zL _)) ze))))))))),?_⟩
  refine⟨_,rfl,jp,_,_,_,rfl,rfl,qj,rfl,fs,rfl,⟨_,qf⟩,j6 (K:=K) (a:=fs) (xs:=fv) (fun i U H1=>U=((J.fs.take i).map (·.m)).map V.int/\Same H H1) ⟨rfl,u5 _⟩ (fun i U H1 ⟨_,L⟩=>L.sqT qf) ?_ ?_⟩
  ·rintro i x U H1 hx ⟨rfl,L⟩
   obtain⟨d,e1,r1⟩:=(ce.same L).get hx;rw[zZ] at e1;obtain⟨p,ep,rfl⟩:=qE.mp e1;obtain⟨a,c,rfl,q,q'⟩:=xI r1;have hi:i<J.fs.length:=(zC.mp ep).1;refine⟨rfl,⟨_,rfl,a,_,_,_,rfl,rfl,q,rfl,?_,?_,L⟩⟩
   ·rw[zn,zn,qm];omega
   ·rw[zR ep,zP,zP];rfl
  rintro U H1 ⟨rfl,L⟩;have dc:J.fs.take fv.length=J.fs:=by rw[cp,qz]
  rw[dc];refine⟨by rw[zn,zn];omega,fun ls ao=>?_⟩
  have bt:StL J (J.fs.map (·.m)) []:=.nil fun f hf=>(jo.fa f hf).2.2.1
  generalize J.fs.map (·.m)=ai at bt
  have S1:=(u9 (b:=b) L).new (o:=.lst (ai.map V.int)) ao;have B1:=(B0.same L).new (o:=.lst (ai.map V.int)) ao;have LS:upd H1 ls (.lst (ai.map V.int)) ls=some (.lst (ai.map V.int)):=zd;have NS:H ls=none:=(u9 (b:=b) L).none ao ((B0.same L).nne ao);have cr:=(B0.same L).nne ao;generalize upd H1 ls (.lst (ai.map V.int))=H2 at S1 B1 LS;refine⟨le0,fun lf af=>⟨le0,fun I Y=>⟨le0,fun lo O=>⟨le3,fun t ht=>?_⟩⟩⟩⟩
  have c9:=B1.nne af;have NF:=S1.none af c9;have S2:=S1.new (o:=.lst []) af;have B2:=B1.new (o:=.lst []) af;have be:=(zb (o:=.lst []) af) _ _ LS;have az:upd H2 lf (.lst []) lf=some (.lst []):=zd;generalize upd H2 lf (.lst [])=H3 at S2 B2 be az Y O ht;have cb:=B2.nne Y;have NP:=S2.none Y cb;have S3:=S2.new (o:=.lst []) Y;have B3:=B2.new (o:=.lst []) Y;have bf:=(zb (o:=.lst []) Y) _ _ be;have b0:=(zb (o:=.lst []) Y) _ _ az;have bc:upd H3 I (.lst []) I=some (.lst []):=zd;generalize upd H3 I (.lst [])=H4 at S3 B3 bf b0 bc O ht;have ca:=B3.nne O;have NO:=S3.none O ca;have S4:=S3.new (o:=.lst []) O;have B4:=B3.new (o:=.lst []) O;have c3:=(zb (o:=.lst []) O) _ _ bf;have bw:=(zb (o:=.lst []) O) _ _ b0;have c0:=(zb (o:=.lst []) O) _ _ bc;have bz:upd H4 lo (.lst []) lo=some (.lst []):=zd;have a1:ls≠lf:=zm LS af;have a2:ls≠I:=zm be Y;have a3:ls≠lo:=zm bf O;have a5:lf≠I:=zm az Y;have a6:lf≠lo:=zm b0 O;have a8:I≠lo:=zm bc O;generalize upd H4 lo (.lst [])=H5 at S4 B4 c3 bw c0 bz ht;have s5:=zb (o:=.tup [.ref lf,.ref I,.ref lo]) ht;have T5:upd H5 t (.tup [.ref lf,.ref I,.ref lo]) t=some (.tup [.ref lf,.ref I,.ref lo]):=zd;have S5:=S4.new (o:=.tup [.ref lf,.ref I,.ref lo]) ht;have B5:=B4.new (o:=.tup [.ref lf,.ref I,.ref lo]) ht;have bg:=s5 _ _ c3;have ba:=s5 _ _ bw;have bd:=s5 _ _ c0;have bb:=s5 _ _ bz;generalize upd H5 t (.tup [.ref lf,.ref I,.ref lo])=H6 at s5 T5 S5 B5 bg ba bd bb;refine⟨t,_,rfl,u6 T5,rfl,_,_,rfl,_,_,rfl,_,_,rfl,rfl,?_⟩
  clear S1 S2 S3 S4 B1 B2 B3 B4 LS be bf c3 az b0 bw bc c0 bz ao af Y O ht s5 T5;have d3:=rj.keep (u7 B0 S5) (ZV J);refine⟨_,rfl,_,rfl,b,jp,J,cu,n,rfl,B5.mono (by omega),by omega,d3,jo,fun lq os H7 S7 B7 dm aw cg pm ob=>?_⟩
  have eh:os.length=J.ps.length:=by have:=pm.length_eq;rwa[vO] at this
  have a4:ls≠lq:=zm bg aw;have a7:lf≠lq:=zm ba aw;have a9:I≠lq:=zm bd aw;have d9:lo≠lq:=zm bb aw;have g0:PlS K H b ls lf I lo lq ai [] [] [] os [] [] H7 (n+60):=⟨S5.trans S7,B7,⟨cr,c9,cb,ca,dm⟩,⟨a1,a2,a3,a4,a5,a6,a7,a8,a9,d9⟩,⟨NS,NF,NP,NO⟩,S7 _ _ bg cr,S7 _ _ ba c9,S7 _ _ bd cb,S7 _ _ bb ca,cg,rfl,rfl⟩;clear S5 S7 B5 B7 bg ba bd bb cg aw d3 L;refine⟨lq,rfl,⟨_,u4 g0.hq⟩,jW (K:=K) (a:=lq) (xs:=zt os) (zce b jp ae ls lf lo K H lq os n J)
   ⟨I,none,none,none,none,ai,[],[],[],[],[],rfl,g0.mono (by omega),bt,(fun _ h=>nomatch h),(fun _ h=>nomatch h),(by show((0:Nat):Int)<_;omega),JQ _,zJ _,zJ _,⟨(fun x hx=>by rw[List.take_zero] at hx;cases hx),(fun p _ h=>by cases(show p.2∈([]:List Nat) from h))⟩⟩
   (fun i σ H' _ ⟨_,_,_,_,_,_,_,_,_,_,_,_,g,_,_,_,_,_,_,_,_⟩=>u4 g.hq) ?_ ?_⟩
  ·rintro i x σ H8 hx ⟨lp,v7,v8,v9,bo,st,tr,pk,ou,ts,pks,rfl,g,ay,bm,bi,dq,sub,cnt,cv,pc⟩
   have dk:os.Nodup:=pm.nodup_iff.mpr Zx;obtain⟨c,ec,rfl⟩:=ww hx;have en:=ay.len;have hi:i<os.length:=(zC.mp ec).1;have hc:c<J.ps.length:=xR.mp (pm.mem_iff.mp (qr ec));obtain⟨pa,ci⟩:∃pa,J.ps[c]? =some pa:=⟨J.ps[c],by simp[hc]⟩
   have T8:=u7 B0 g.s;have cd:=qj.keep T8;have d0:=qf.keep T8;have ds:=qp.keep T8;have cz:=qa.keep T8;have dx:=ce.keep T8 (xX J.fs);have dy:=d4.keep T8 (xF J.ps);have dw:=d2.keep T8 (qA J.as);obtain⟨el,db,dz⟩:=wO dy ci;obtain⟨dp,ei,rfl,dt,_⟩:=xV dz;refine⟨_,rfl,jp,_,_,_,rfl,rfl,cd,rfl,fs,rfl,⟨_,d0⟩,Yk (K:=K) (a:=fs) (xs:=fv) (zcd J pa st H8) ⟨[],rfl,zJ _,(fun _ h=>nomatch h),u5 _⟩ (fun i' U H9 ⟨_,_,_,_,L⟩=>L.sqT d0) ?_ ?_⟩
   ·rintro i' x U H9 T c7 ⟨ks,rfl,kl,kk,L⟩ hT
    obtain⟨d,e1,r1⟩:=(dx.same L).get c7;rw[zZ] at e1;obtain⟨fe,an,rfl⟩:=qE.mp e1;have de:i'<J.fs.length:=(zC.mp an).1;have sT:=L.trans (zb (o:=.tup [.int (i':Int),x]) hT);obtain⟨fa,fc,rfl,dr,_⟩:=xI (r1.same (zb (o:=.tup [.int (i':Int),x]) hT));refine⟨T,_,rfl,u6 zd,rfl,_,_,rfl,_,_,rfl,rfl,rfl,?_⟩
    refine⟨_,rfl,fa,_,_,_,rfl,rfl,dr,rfl,_,rfl,jp,_,_,_,rfl,rfl,sT.sqT cd,rfl,_,rfl,ps,_,_,_,rfl,rfl,sT.sqT ds,qK db,dp,_,_,_,rfl,rfl,sT.sqT dt,rfl,rfl,_,rfl,xC (fun c1=>?_) (fun c1=>?_)⟩
    ·have ek:fe.k=pa.k:=by have:=jy c1;exact V.str.inj this
     have ap:i'<st.length:=by omega
     refine⟨_,rfl,_,rfl,ls,_,_,.int st[i'],rfl,rfl,u4 (sT _ _ g.hs),qK (by rw[zZ,jh ap];rfl),_,_,rfl,rfl,_,rfl,xC (fun c2=>?_) (fun c2=>?_)⟩
     ·refine⟨_,rfl,by rw[zA];omega,ks++[i'],?_,by rw[qo];show _+1<=_;omega,fun k' df=>?_,sT⟩
      ·unfold zt
       rw[zP];rfl
      ·rcases qU.mp df with z | z
       ·exact kk k' z
       ·rw[qD.mp z]
        exact⟨fe,an,ek,_,jh ap,jy c2⟩
     ·exact⟨ks,rfl,by omega,kk,sT⟩
    ·exact ifF rfl ⟨ks,rfl,by omega,kk,sT⟩
   rintro U H9 ⟨ks,rfl,kl,kk,L⟩;refine⟨by rw[zA];omega,fun lm c6=>?_⟩
   have bj:=L.trans (zb (o:=.lst (zt ks)) c6);have LM:upd H9 lm (.lst (zt ks)) lm=some (.lst (zt ks)):=zd;have cq:lm≠b:=(g.same L).bx.nne c6;generalize upd H9 lm (.lst (zt ks))=Ha at bj LM;clear L c6;refine⟨fun σ' H'=>Ex1 fun(ak:Bool)=>An4 (σ'=[some (.ref b),some (.ref jp),some (.int ae),some (.ref ls),some (.ref lf),some (.ref lp),some (.ref lo),some (.int (c:Int)),some (.ref lm),some (.bl ak),bo]) (Same H8 H') (H' lm=some (.lst (zt ks))) ((ak=false->ks≠[]/\∀p∈J.as,p.2=c->p.1∉ou)),?_,?_⟩
   ·refine⟨_,rfl,le0,fun q hq=>⟨lm,q,zt ks,rfl,rfl,u4 ((zb hq) _ _ LM),u4 zd,_,rfl,xC (fun c1=>?_) (fun c1=>?_)⟩⟩
    ·exact⟨true,rfl,bj.trans (zb hq),(zb hq) _ _ LM,fun z=>nomatch z⟩
    ·have c8:ks≠[]:=fun z=>c1 (by rw[z];rfl)
     have ac:=bj.trans (zb (o:=.lst []) hq);have am:=(zb (o:=.lst []) hq) _ _ LM;generalize upd Ha q (.lst [])=Hb at ac am;refine⟨_,rfl,jp,_,_,_,rfl,rfl,ac.sqT cd,rfl,as,rfl,⟨_,ac.sqT cz⟩,j6 (K:=K) (a:=as) (xs:=av) (fun i' U H9=>Ex1 fun(bs:List Bool)=>An4 (U=bs.map V.bl) (bs.length<=i') ((bs.any id=false->∀p∈J.as.take i',p.2=c->p.1∉ou)) (Same Hb H9)) ⟨[],rfl,zJ _,(fun _ p hp=>by rw[List.take_zero] at hp;cases hp),u5 _⟩ (fun i' U H9 ⟨_,_,_,_,L⟩=>(ac.trans L).sqT cz) ?_ ?_⟩
     ·rintro i' x U H9 c7 ⟨bs,rfl,bl,bn,L⟩
      obtain⟨d,e1,r1⟩:=(dw.same (ac.trans L)).get c7;rw[zZ] at e1;obtain⟨p,ep,rfl⟩:=qE.mp e1;obtain⟨pp,rfl,du⟩:=qv r1;have de:i'<J.as.length:=(zC.mp ep).1;refine⟨pp,_,rfl,du,rfl,_,_,rfl,_,_,rfl,rfl,rfl,?_⟩
      have cs:∀v:Bool,(v=false->p.2=c->p.1∉ou)->((bs++[v]).any id=false->∀p∈J.as.take (i'+1),p.2=c->p.1∉ou):=fun v hv ha u hu=>by
       rw[List.any_append,Bool.or_eq_false_iff] at ha;rw[zR ep] at hu;rcases qU.mp hu with z | z
       ·exact bn ha.1 u z
       ·rw[qD.mp z]
        exact hv (by simpa using ha.2)
      refine⟨_,rfl,_,rfl,rfl,_,rfl,xC (fun c2=>?_) (fun c2=>?_)⟩
      ·refine⟨_,rfl,_,rfl,lo,zt ou,rfl,.inl (u4 ((ac.trans L) _ _ g.ho)),rfl,xG _,by rw[zn];omega,bs++[inV (.int (p.1:Int)) (zt ou)],?_,by rw[qo];show _+1<=_;omega,cs _ (fun z _ hm=>by rw[yW] at z;exact absurd hm (of_decide_eq_false z)),L⟩
       rw[zP];rfl
      ·refine⟨by rw[zn];omega,bs++[false],?_,by rw[qo];show _+1<=_;omega,cs _ (fun _ z=>absurd (show decide (V.int (p.2:Int)=V.int (c:Int))=true by rw[z];exact zV rfl) c2),L⟩
       rw[zP];rfl
     ·rintro U H9 ⟨bs,rfl,bl,bn,L⟩
      rw[la,qz] at bn;refine⟨by rw[zn];omega,fun D hD=>⟨D,bs,rfl,u4 zd,?_⟩⟩
      have e3:=(ac.trans L).trans (zb (o:=.lst (bs.map V.bl)) hD);exact⟨bs.any id,rfl,e3,(zb (o:=.lst (bs.map V.bl)) hD) _ _ (L _ _ am),fun z=>⟨c8,bn z⟩⟩
   rintro σ' Hb ⟨ak,rfl,ac,am,c8⟩;have g2:=g.same ac;clear bj LM;have d8:(zY ts++pks.map (·.1)).Sublist (os.take (i+1)):=sub.trans (by rw[zR ec];exact List.sublist_append_left _ _)
   have eO:zt ou++[V.int (c:Int)]=zt (ou++[c]):=by unfold zt;rw[zP];rfl
   refine⟨fun σ' H'=>Ex5 fun(bo:Option V) (ah:List Int) (aa:List V) (ag:List Nat) (l:List (Nat×Nat))=>An9 (σ'=[some (.ref b),some (.ref jp),some (.int ae),some (.ref ls),some (.ref lf),some (.ref lp),some (.ref lo),some (.int (c:Int)),some (.ref lm),some (.bl ak),bo]) (PlS K H b ls lf lp lo lq ah tr aa ag os ts l H' (n+60+10*i+3)) (StL J ah (yk ts++l)) ((∀p∈l,xp J p)) ((l.length:Int)<=J.hd) ((zY ts++l.map (·.1)).Sublist (os.take (i+1))) (ts.length+l.length<=i+1) (ag.length<=i+1) (PlC J ag (zY ts++l.map (·.1)) (os.take (i+1))),?_,?_⟩
   ·have cx:∀(H':Hp) (m:Int),PlS K H b ls lf lp lo lq st tr pk ou os ts pks H' m->m<=n+60+10*i+3->PlS K H b ls lf lp lo lq st tr pk (ou++[c]) os ts pks (upd H' lo (.lst (zt ou++[V.int (c:Int)]))) (n+60+10*i+3):=fun H' m g' hm=>by
     rw[eO];exact(g'.mono hm).putO
    have cw:(ou++[c]).length<=i+1:=by rw[qo];show _+1<=_;omega
    refine⟨fun(d:Bool) (H':Hp)=>PlS K H b ls lf lp lo lq st tr pk ou os ts pks H' (n+60+10*i+1)/\H' lm=some (.lst (zt ks))/\(d=false->ks≠[]/\∀p∈J.as,p.2=c->p.1∉ou),?_,?_⟩
    ·refine⟨_,rfl,_,rfl,xC (fun c1=>⟨g2.mono (by omega),am,(fun z=>nomatch z)⟩) (fun c1=>?_)⟩
     have bp:=c8 (by simpa using c1)
     exact⟨_,rfl,_,_,rfl,rfl,_,rfl,xC (fun c2=>⟨_,rfl,_,rfl,b,ae,_,rfl,g2.bx,by omega,jy c2,by omega,fun r Hc r0 r1 Bc Sc=>⟨rfl,_,rfl,(g2.draw Sc Bc).mono (by omega),Sc _ _ am cq,fun _=>bp⟩⟩) (fun c2=>⟨g2.mono (by omega),am,fun _=>bp⟩)⟩
    rintro d Hc ⟨g3,cf,kn⟩;refine xC (fun c1=>?_) (fun c1=>?_)
    ·exact⟨_,rfl,.inl ⟨rfl,_,u4 g3.ho⟩,_,rfl,lo,_,_,rfl,rfl,g3.ho,by rw[zA];omega,_,st,pk,ou++[c],pks,rfl,cx _ _ g3 (by omega),ay,bi,by omega,d8,by omega,cw,by rw[zR ec];exact pc.out⟩
    ·have e7:0<ks.length:=V9.mpr (kn (by simpa using c1)).1
     have kc:=(kn (by simpa using c1)).2
     refine⟨_,rfl,_,rfl,_,rfl,lm,_,rfl,.inl (u4 cf),b,_,_,rfl,g3.bx,by omega,by rw[zA];omega,by rw[zA];omega,fun r' Hd em dv Bd Sd=>?_⟩
     rw[zA] at dv;have co:r'.toNat<ks.length:=by omega
     have cj:atI (zt ks) r'=some (.int ((ks[r'.toNat]:Nat):Int)):=by
      have er:(zt ks)[r'.toNat]? =some (.int ((ks[r'.toNat]:Nat):Int)):=by
       unfold zt;rw[zZ,jh co];rfl
      have:=qK er;rwa[show((r'.toNat:Nat):Int)=r' by omega] at this
     obtain⟨fe,an,da,z0,c4,di⟩:=kk _ (vX co);generalize ks[r'.toNat]=kf at cj an c4;have ee:kf<J.fs.length:=(zC.mp an).1;have ap:kf<st.length:=by omega
     have g5:=g3.draw Sd Bd;refine⟨lm,_,_,_,rfl,rfl,u4 (Sd _ _ cf cq),cj,?_⟩
     refine⟨_,rfl,_,rfl,ls,_,_,.int st[kf],rfl,rfl,u4 g5.hs,qK (by rw[zZ,jh ap];rfl),_,_,rfl,rfl,_,rfl,_,rfl,ls,_,_,kf,rfl,rfl,g5.hs,VG (by rw[zn];omega),?_⟩
     have eS:(st.map V.int).set kf (V.int (st[kf]-1))=(st.set kf (st[kf]-1)).map V.int:=by rw[List.map_set]
     rw[eS];have g6:=g5.putS (st':=st.set kf (st[kf]-1));generalize upd Hd ls (.lst ((st.set kf (st[kf]-1)).map V.int))=He at g6;refine⟨_,rfl,.inl ⟨rfl,_,u4 g6.hp⟩,_,rfl,_,rfl,le2,fun q hq=>?_⟩
     have g7:=g6.new (o:=.tup [.int (c:Int),.int (kf:Int)]) hq;have rq:Rep K (upd He q (.tup [.int (c:Int),.int (kf:Int)])) (jJ (c,kf)) (.ref q):=⟨q,_,rfl,u6 zd,_,_,rfl,rfl,_,_,rfl,rfl,rfl⟩;have aq:pk.length=pks.length:=by have:=g.rk.len;rwa[zn] at this
     refine⟨lp,_,_,rfl,rfl,g7.hp,by omega,_,st.set kf (st[kf]-1),pk++[.ref q],ou,pks++[(c,kf)],rfl,(g7.putP rq).mono (by omega),by rw[<- yG];exact ay.take (jh ap) (by rw[jh ap] at c4;rw[jq c4];exact di),fun p' au=>?_,by rw[qo];show((_+1:Nat):Int)<=_;omega,?_,by rw[qo];show _+(_+1)<=_;omega,by omega,by rw[zP,<- yG,zR ec];exact pc.lay ec dk ob kc⟩
     ·rcases qU.mp au with z | z
      ·exact bi p' z
      ·rw[qD.mp z]
       exact⟨pa,fe,ci,an,da⟩
     ·rw[zP,<- yG,zR ec]
      exact sub.append (JQ _)
   rintro σ' Hc ⟨e9,ah,aa,ag,l,rfl,g4,bu,br,e8,bv,ch,bq,cy⟩;have aq:aa.length=l.length:=by have:=g4.rk.len;rwa[zn] at this
   have e4:tr.length=ts.length:=by have:=g4.rt.len;rwa[zn] at this
   have T9:=u7 B0 g4.s;refine⟨fun(d:Bool) (H':Hp)=>PlS K H b ls lf lp lo lq ah tr aa ag os ts l H' (n+60+10*i+4)/\(d=true->1<=l.length)/\(d=false->(l.length:Int)<J.hd),?_,?_⟩
   ·refine⟨_,rfl,le0,fun q hq=>⟨lp,q,_,rfl,rfl,u4 (g4.new (o:=.lst []) hq).hp,u4 zd,_,rfl,xC (fun c1=>?_) (fun c1=>?_)⟩⟩
    ·have g5:=g4.new (o:=.lst []) hq
     have d1:=(qj.keep T9).keep (SameT.of (zb (o:=.lst []) hq));generalize upd Hc q (.lst [])=Hd at g5 d1;have ax:1<=l.length:=by
      cases aa with
      | nil=>cases c1
      | cons x r=>simp at aq;omega
     refine⟨_,rfl,lp,_,rfl,.inl (u4 g5.hp),_,rfl,jp,_,_,_,rfl,rfl,d1,rfl,rfl,_,rfl,xC (fun c2=>⟨g5.mono (by omega),fun _=>ax,fun z=>nomatch z⟩) (fun c2=>⟨_,rfl,b,3,_,rfl,g5.bx,by omega,by decide,by decide,fun r He r0 r1 Be Se=>⟨rfl,_,rfl,(g5.draw Se Be).mono (by omega),fun _=>ax,fun _=>?_⟩⟩)⟩
     have cn:¬(aa.length:Int)=J.hd:=fun z=>c2 (by rw[z];simp)
     omega
    ·have pe:l=[]:=by
      cases l with
      | nil=>rfl
      | cons x r=>
       cases aa with
       | nil=>simp at aq
       | cons y r'=>exact absurd rfl c1
     exact⟨(g4.new (o:=.lst []) hq).mono (by omega),(fun z=>nomatch z),fun _=>by rw[pe];show((0:Nat):Int)<_;omega⟩
   rintro d Hd ⟨G,ax,dg⟩;refine xC (fun c1=>?_) (fun c1=>?_)
   ·have ax:=ax c1
    refine⟨_,rfl,.inl ⟨rfl,_,u4 G.hf⟩,_,rfl,_,rfl,b,lp,_,aa,l,rfl,G.bx,by omega,G.nb.2.2.1,G.hp,G.rk,by omega,fun p sh Hg Sg Bg ab rt=>?_⟩
    have G2:=G.draw Sg Bg;have d7:sh.length=l.length:=ab.length_eq;refine⟨lf,_,_,rfl,rfl,G2.hf,by omega,?_⟩
    have G3:=G2.putF rt;generalize upd Hg lf (.lst (tr++[.ref p]))=Hh at G3;refine⟨le0,fun dj cm=>⟨dj,_,_,_,_,ah,tr++[.ref p],[],ag,ts++[⟨sh,l.map (·.1)⟩],[],rfl,(G3.newP cm).mono (by omega),by rw[Zk,jn];exact bu.perm (ab.symm.append_left _),?_,(fun _ h=>nomatch h),(by show((0:Nat):Int)<_;omega),?_,?_,bq,by rw[vh,vP,jn];exact cy⟩⟩
    ·intro t' dh
     rcases qU.mp dh with z | z
     ·exact bm t' z
     ·rw[qD.mp z]
      exact⟨by show 1<=sh.length;omega,by show(sh.length:Int)<=_;omega,fun p' au=>br p' (ab.mem_iff.mp au),(ab.map (·.1)).symm⟩
    ·rw[vh]
     simpa using bv
    ·rw[qo]
     show _+1+0<=_;omega
   ·exact⟨lp,_,_,_,_,ah,tr,aa,ag,ts,l,rfl,G.mono (by omega),bu,bm,br,dg (by simpa using c1),bv,ch,bq,cy⟩
  ·rintro σ H8 ⟨lp,v7,v8,v9,bo,st,tr,pk,ou,ts,pks,rfl,g,ay,bm,bi,dq,sub,cnt,cv,pc⟩
   rw[zA] at sub cnt cv;rw[zA] at g;rw[qz] at sub;have aq:pk.length=pks.length:=by have:=g.rk.len;rwa[zn] at this
   have e4:tr.length=ts.length:=by have:=g.rt.len;rwa[zn] at this
   refine⟨_,rfl,_,rfl,_,rfl,b,lp,_,pk,pks,rfl,g.bx,by omega,g.nb.2.2.1,g.hp,g.rk,by omega,fun p sh Hg Sg Bg ab rt=>?_⟩
   have g2:=g.draw Sg Bg;have d7:sh.length=pks.length:=ab.length_eq;refine⟨le1,fun l1 cl=>?_⟩
   have g3:=g2.new (o:=.lst [.ref p]) cl;have d5:=rt.same (zb (o:=.lst [.ref p]) cl);have L1:upd Hg l1 (.lst [.ref p]) l1=some (.lst [.ref p]):=zd;generalize upd Hg l1 (.lst [.ref p])=Hh at g3 d5 L1;refine⟨_,rfl,le0,fun q hq=>⟨lp,q,_,rfl,rfl,u4 (g3.new (o:=.lst []) hq).hp,u4 zd,.inr ⟨_,rfl,l1,_,_,rfl,rfl,(zb hq) _ _ L1,?_,?_,?_,fun l2 c5=>?_⟩⟩⟩
   ·split<;>decide
   ·split<;>decide
   ·show 1*_<=sizeLine
    split<;>(first| (show 1*1<=_;omega) | (show 1*0<=_;omega))
   have g4:=g3.new (o:=.lst []) hq;have d6:=d5.same (zb (o:=.lst []) hq);generalize upd Hh q (.lst [])=Hi at g4 d6 c5;have ck:∀(U:List V) (us:List zS),Reps K Hi (us.map jH) U->U.length<=1->us.length+ts.length<=60->(∀t∈us,J8 J t)->(zY (ts++us)).Sublist os->zY (ts++us)=zY ts++pks.map (·.1)->(yk ts++pks).Perm (yk (ts++us))->zhY (V.ref lf) (V.ref l2) (upd Hi l2 (.lst U)) Q:=by
    intro U us rz zl ul uo e5 dd up;have g5:=g4.new (o:=.lst U) c5;have e0:=rz.same (zb (o:=.lst U) c5);refine⟨lf,l2,tr,U,rfl,rfl,g5.hf,zd,by omega,fun l3 bh=>?_⟩
    have n3:=g5.bx.nne bh;have g6:=g5.new (o:=.lst (tr++U)) bh;refine k l3 os (ts++us) (tr++U) _ g6.s (g6.bx.mono (by omega)) n3 (g5.s.none bh n3) zd ?_ pm ob ⟨fun t ht=>?_,e5,by rw[qo];omega,by rw[dd];exact pc.a2,st,ay.perm up⟩
    ·rw[zP]
     exact Reps.app g6.rt (e0.same (zb bh))
    ·rcases qU.mp ht with z | z
     ·exact bm t z
     ·exact uo t z
   cases pks with
   | nil=>
    have e:pk=[]:=JZ.mp (by rw[aq];rfl)
    subst e;exact ck [] [] rfl (ji _) (by show 0+_<=_;omega) (fun _ h=>nomatch h) (by rw[jn];simpa using sub) (by simp) (by rw[jn,jn])
   | cons x r=>
    have cn:∃y r',pk=y::r':=by
     cases pk with
     | nil=>simp at aq
     | cons y r'=>exact⟨y,r',rfl⟩
    obtain⟨y,r',rfl⟩:=cn;refine ck [.ref p] [⟨sh,(x::r).map (·.1)⟩] ⟨_,_,rfl,d6,rfl⟩ (zJ _) (by simp at cnt;show 1+_<=_;omega) (fun t ht=>?_) (by rw[vh];exact sub) (by rw[vh]) (by rw[Zk];exact ab.symm.append_left _)
    rw[qD.mp ht];exact⟨by show 1<=sh.length;rw[d7];exact Nat.succ_le_succ (ji _),by show(sh.length:Int)<=_;omega,fun p' au=>bi p' (ab.mem_iff.mp au),(ab.map (·.1)).symm⟩
def prD(p:Int×Int):Dat:=.tup [.int p.1,.int p.2]
inductive XG(K:W.Frag)(f:List V)(H:Hp)(Q:VK):Prop
 | mk (t:Addr) (g:List V) (c:List (Int×Int)) (_:f=[.ref t]) (_:SqT K H t g) (_:Reps K H (c.map prD) g) (_:c.length<=1000) (_:∀(l:Addr) (s:List V) H',Same H H'->H' l=some (.lst s)->Reps K H' (c.map fun p=>prD p.swap) s->Q (.ref l) H'):XG K f H Q
def za3(K:W.Frag):Sp:=fun c H Q _=>XG K c H Q
theorem zbl:zD ["pairs"] ["pairs"] (zy (topL 6)):=u3
theorem zeH{f:Addr}{O:FuncData}(F:Fun K "turned" "turned" (topL 6) f O)(B:Blt M):qY P w K M C CX0 1 f O ["pairs"] (za3 K):=by
 have nd:=zbl.nd;refine F.ok zbl (fun vs H Q E h=>?_) (fun a0 A I s H vs Q E hr h=>?_)
 ·obtain⟨t,J,D,rfl,_⟩:=h
  rfl
 ·obtain⟨t,J,D,rfl,Y,rp,la,k⟩:=h
  have T:=bG100000;have lx:=rp.len;rw[zn] at lx;refine⟨_,(zo (zB (xh [] [] rfl rfl (by kernel_rfl) (xg (pv 0)) (fun _ _ _ _=>qS) (fun _ _ _ _=>(qX (za (pv 1) (za (pv 0) ze))))))),?_⟩
  have l2:∀x y:V,[x,y].length<=sizeLine:=fun x y=>by rw[sizeLine_eq];show 2<=_;decide
  refine⟨_,rfl,t,rfl,⟨_,Y⟩,j6 (K:=K) (a:=t) (xs:=J) (fun i G H'=>Reps K H' ((D.take i).map fun p=>prD p.swap) G/\Same H H') ⟨rfl,u5 _⟩ (fun i G H' ⟨_,g⟩=>g.sqT Y) ?_ ?_⟩
  ·rintro i x G H1 hx ⟨c,g⟩
   obtain⟨d,e1,r1⟩:=(rp.same g).get hx;rw[zZ] at e1;obtain⟨p,L,rfl⟩:=qE.mp e1;have hi:i<D.length:=(zC.mp L).1;obtain⟨a,ws,rfl,qa,x1,aa,rfl,e2,x2,ab,rfl,e3,e4⟩:=r1;cases e2;cases e3;cases e4;refine⟨a,_,rfl,qa,rfl,_,_,rfl,_,_,rfl,rfl,rfl,?_⟩
   refine⟨_,rfl,_,rfl,l2 _ _,fun q hq=>⟨?_,?_,g.trans (zb hq)⟩⟩
   ·have:=c.len
    rw[zn,qm] at this;omega
   ·have e5:D.take (i+1)=D.take i++[p]:=by
     obtain⟨h1,h2⟩:=zC.mp L;rw[<- h2,Ze]
    rw[e5,zP];exact uc (d:=prD p.swap) ⟨q,_,rfl,u6 zd,_,_,rfl,rfl,_,_,rfl,rfl,rfl⟩ (c.same (zb hq))
  ·rintro G H1 ⟨c,g⟩
   rw[lx,qz] at c;refine⟨by have:=c.len;rw[zn] at this;omega,fun l U=>k l G _ (g.trans (zb U)) zd (c.same (zb U))⟩
def wE(c:List (Int×Int))(i:Int):List Int:=(c.filter fun p=>decide (p.1=i)).map (·.2)
structure NB(H0 H:Hp)(kvs:List (Key×V))(as:List (Int×Int)):Prop where
 at_:∀i v,jr kvs (Sum.inl i)=some v->∃l,v=.ref l/\H0 l=none/\H l=some (.lst ((wE as i).map V.int))
 no:∀i,jr kvs (Sum.inl i)=none->wE as i=[]
 inj:∀i j l,jr kvs (Sum.inl i)=some (.ref l)->jr kvs (Sum.inl j)=some (.ref l)->i=j
 few:kvs.length<=as.length
theorem yP(c:List (Int×Int))(x y i:Int):wE (c++[(x,y)]) i=wE c i++(if x=i then [y] else []):=by
 unfold wE;rw[xT,zP];congr 1
 by_cases h:x=i<;>simp[h]
theorem zfP(c:List (Int×Int))(i:Int):(wE c i).length<=c.length:=by
 unfold wE;rw[zn];exact qV _ _
theorem NB.old{g H A:Hp}{c:List (Key×V)}{f:List (Int×Int)}{x y:Int}{l:Addr}(n:NB g H c f)(s:Same H A)(e:jr c (Sum.inl x)=some (.ref l)) :
  NB g (upd A l (.lst ((wE f x).map V.int++[.int y]))) c (f++[(x,y)]):=by
 refine⟨fun i v hv=>?_,fun i hv=>?_,n.inj,by rw[qo];have:=n.few;omega⟩
 ·obtain⟨B,rfl,h0,h1⟩:=n.at_ i v hv
  refine⟨B,rfl,h0,?_⟩
  rw[yP];by_cases hx:x=i
  ·subst hx
   rw[e] at hv;cases hv;rw[zd,zv rfl,zP];rfl
  ·have ne:B≠l:=fun z=>hx (n.inj x i l e (by rw[<- z];exact hv))
   rw[zp ne,zu hx,jn];exact s _ _ h1
 ·rw[yP,n.no i hv,zu (fun z=>by rw[<- z,e] at hv;cases hv)]
  rfl
theorem NB.new{s H:Hp}{c:List (Key×V)}{A:List (Int×Int)}{x y:Int}{m d:Addr}(n:NB s H c A)(E:H m=none)(h0:s m=none)(D:H d=some (.dK c))(e:jr c (Sum.inl x)=none) :
  NB s (upd (upd (upd H m (.lst [])) d (.dK (xm c (Sum.inl x) (.ref m)))) m (.lst ([]++[.int y]))) (xm c (Sum.inl x) (.ref m)) (A++[(x,y)]):=by
 have old:∀i l,jr c (Sum.inl i)=some (.ref l)->H l=some (.lst ((wE A i).map V.int))/\l≠m/\l≠d:=fun i l h=>by
  obtain⟨I,z,_,h1⟩:=n.at_ i _ h;cases z;refine⟨h1,fun z=>?_,fun z=>?_⟩
  ·rw[z,E] at h1;cases h1
  ·rw[z,D] at h1;cases h1
 refine⟨fun i v hv=>?_,fun i hv=>?_,fun i j l f g=>?_,?_⟩
 ·rw[QY] at hv
  rw[yP];by_cases hx:i=x
  ·subst hx
   rw[zv rfl] at hv;cases hv;refine⟨m,rfl,h0,?_⟩
   rw[zd,n.no _ e,zv rfl];rfl
  ·rw[zu (fun z=>hx (x6 z))] at hv
   obtain⟨l,rfl,h1,h2⟩:=n.at_ i v hv;obtain⟨_,B,G⟩:=old i l hv;refine⟨l,rfl,h1,?_⟩
   rw[zp B,zp G,zp B,zu (z9 hx),jn];exact h2
 ·rw[QY] at hv
  by_cases hx:i=x
  ·subst hx;rw[zv rfl] at hv;cases hv
  ·rw[zu (fun z=>hx (x6 z))] at hv
   rw[yP,n.no i hv,zu (z9 hx)];rfl
 ·rw[QY] at f g
  by_cases h1:i=x<;>by_cases h2:j=x
  ·rw[h1,h2]
  ·rw[zv (by rw[h1])] at f
   rw[zu (fun z=>h2 (x6 z))] at g
   cases f;exact absurd rfl (old j _ g).2.1
  ·rw[zu (fun z=>h1 (x6 z))] at f
   rw[zv (by rw[h2])] at g
   cases g;exact absurd rfl (old i _ f).2.1
  ·rw[zu (fun z=>h1 (x6 z))] at f
   rw[zu (fun z=>h2 (x6 z))] at g
   exact n.inj i j l f g
 ·have:=vg c (Sum.inl x) (.ref m)
  have:=n.few;rw[qo,List.length_singleton];omega
inductive WO(K:W.Frag)(l:List V)(H:Hp)(Q:VK):Prop
 | mk (t:Addr) (g:List V) (f:List (Int×Int)) (_:l=[.ref t]) (_:(SqL K H t g\/SqT K H t g)) (_:Reps K H (f.map prD) g) (_:f.length<=1000) (_:∀(d:Addr) (c:List (Key×V)) H',Same H H'->H d=none->H' d=some (.dK c)->NB H H' c f->Q (.ref d) H'):WO K l H Q
def zdQ(K:W.Frag):Sp:=fun c H Q _=>WO K c H Q
theorem zeb:zD ["pairs","rows","one","other"] ["pairs"] (zy (topL 7)):=u3
theorem zgn{f:Addr}{fd:FuncData}(F:Fun K "next_by" "next_by" (topL 7) f fd)(B:Blt M):qY P w K M C CX0 1 f fd ["pairs"] (zdQ K):=by
 have U:=zeb.nd;refine F.ok zeb (fun vs H Q E h=>?_) (fun ac A aa s H vs Q E hr h=>?_)
 ·obtain⟨t,T,J,rfl,_⟩:=h
  rfl
 ·obtain⟨t,T,J,rfl,ht,rp,la,k⟩:=h
  have ab:=bG100000;have ae:=XY hr;have lx:=rp.len;rw[zn] at lx;refine⟨_,(zf (zE (i:=1) U rfl (Or.inl rfl) zev)
   (zf (qZ jC rfl (Y7 (pv 0)) (qL rfl (zr (zq (i:=2) U rfl (Or.inl rfl)) (zr (zq (i:=3) U rfl (Or.inl rfl)) qk)))
   (zo (jt (xE xL w9 w8 jE (zia (pv 1) (pv 2) (qC ze) ⟨rfl,rfl,rfl,rfl⟩) (za (pv 3) ze)))))
   (zo (zB (pv 1))))),?_⟩
  refine fun d hd=>?_
  have e0:NB H (upd H d (.dK [])) [] ([]:List (Int×Int)):=⟨(fun i v z=>nomatch z),(fun _ _=>rfl),(fun i j l z=>nomatch z),zJ _⟩
  have s0:Same H (upd H d (.dK [])):=zb hd;have step:∀(i:Nat) (x:V) (G:Hp) (g:List (Key×V)),T[i]? =some x->G d=some (.dK g)->NB H G g (J.take i)->Same H G->∃(a:Addr) (p:Int×Int),x=.ref a/\SqT K G a [.int p.1,.int p.2]/\J[i]? =some p/\i<J.length/\J.take (i+1)=J.take i++[p]:=fun i x G g hx _ _ D=>by
   obtain⟨dd,e1,r1⟩:=(rp.same D).get hx;rw[zZ] at e1;obtain⟨p,ep,rfl⟩:=qE.mp e1;obtain⟨h1,h2⟩:=zC.mp ep;obtain⟨a,ws,rfl,qa,x1,af,rfl,e2,x2,ag,rfl,e3,e4⟩:=r1;cases e2;cases e3;cases e4;exact⟨a,p,rfl,qa,ep,h1,by rw[<- h2,Ze]⟩
  refine⟨_,rfl,t,rfl,ht.elim (fun hL=>.inl ⟨⟨_,s0.seq hL⟩,jW (K:=K) (a:=t) (xs:=T) (fun i σ H'=>Ex3 fun(v2 v3:Option V) (g:List (Key×V))=>An4 (σ=[some (.ref t),some (.ref d),v2,v3]) (H' d=some (.dK g)) (NB H H' g (J.take i)) (Same H H'))
   ⟨_,_,[],rfl,zd,e0,s0⟩ (fun i σ H' _ ⟨_,_,_,_,_,_,D⟩=>D.seq hL) ?s1 ?e1⟩) (fun hT=>.inr ⟨⟨_,s0.sqT hT⟩,zbS (K:=K) (a:=t) (xs:=T) (fun i σ H'=>Ex3 fun(v2 v3:Option V) (g:List (Key×V))=>An4 (σ=[some (.ref t),some (.ref d),v2,v3]) (H' d=some (.dK g)) (NB H H' g (J.take i)) (Same H H'))
   ⟨_,_,[],rfl,zd,e0,s0⟩ (fun i σ H' _ ⟨_,_,_,_,_,_,D⟩=>D.sqT hT) ?s2 ?e2⟩)⟩
  case e1 | e2=>
   rintro σ G ⟨v2,v3,g,rfl,h1,O,D⟩;rw[lx,qz] at O;exact⟨_,rfl,k d g G D hd h1 O⟩
  case s1 | s2=>
   rintro i x σ G hx ⟨v2,v3,g,rfl,h1,O,D⟩;obtain⟨a,p,rfl,qa,ep,hi,et⟩:=step i x G g hx h1 O D;rw[et];have a0:=O.few;rw[qm] at a0;refine⟨a,_,rfl,qa,rfl,_,_,rfl,_,_,rfl,rfl,?_⟩
   refine⟨_,rfl,d,rfl,.inl ⟨_,.inl h1⟩,_,rfl,le0,fun m I=>⟨g,Sum.inl p.1,(zb (o:=.lst []) I) _ _ h1,rfl,by omega,fun v hv=>?_,fun hv=>?_⟩⟩
   ·obtain⟨l,rfl,l0,ll⟩:=O.at_ _ v hv
    have L:=(zb (o:=.lst []) I) _ _ ll;have U:d≠l:=fun z=>by rw[<- z,h1] at ll;cases ll
    have sl:=zfP (J.take i) p.1;rw[qm] at sl;refine⟨.inl ⟨rfl,_,u4 L⟩,_,rfl,l,_,_,rfl,rfl,L,by rw[zn];omega,?_⟩
    exact⟨_,_,g,rfl,by rw[zp U];exact(zb (o:=.lst []) I) _ _ h1,O.old (zb I) hv,fun c o e=>by rw[zp (zm e l0)];exact(zb I) _ _ (D _ _ e)⟩
   ·have Y:m≠d:=fun z=>by rw[z,h1] at I;cases I
    have m0:H m=none:=by
     cases z:H m with
     | none=>rfl
     | some o=>rw[D _ _ z] at I;cases I
    have L:upd (upd G m (.lst [])) d (.dK (xm g (Sum.inl p.1) (.ref m))) m=some (.lst []):=by rw[zp Y];exact zd
    refine⟨.inl ⟨rfl,_,u4 L⟩,_,rfl,m,_,_,rfl,rfl,L,by show 0<_;omega,?_⟩
    exact⟨_,_,_,rfl,by rw[zp (z9 Y)];exact zd,O.new I m0 h1 hv,fun c o e=>by rw[zp (zm e m0),zp (zm e hd),zp (zm e m0)];exact D _ _ e⟩
end
def Wk(b:List (Int×Int)):Nat->Int->Int->Prop
 | 0,i,j=>i=j
 | n+1,i,j=>∃m,(i,m)∈b/\Wk b n m j
section
variable{f:List (Int×Int)}
theorem Wk.snoc:∀{n:Nat} {i j k:Int},Wk f n i j->(j,k)∈f->Wk f (n+1) i k
 | 0,i,j,k,h,e=>by cases(show i=j from h);exact⟨k,e,rfl⟩
 | n+1,i,j,k,⟨m,h,b⟩,e=>⟨m,h,Wk.snoc b e⟩
theorem Wk.add:∀{n m:Nat} {i j k:Int},Wk f n i j->Wk f m j k->Wk f (n+m) i k
 | 0,m,i,j,k,h,e=>by cases(show i=j from h);rw[Nat.zero_add];exact e
 | n+1,m,i,j,k,⟨x,h,b⟩,e=>by rw[Nat.add_right_comm];exact⟨x,h,Wk.add b e⟩
theorem Wk.split:∀{n m:Nat} {i k:Int},Wk f (n+m) i k->∃j,Wk f n i j/\Wk f m j k
 | 0,m,i,k,h=>by rw[Nat.zero_add] at h;exact⟨i,rfl,h⟩
 | n+1,m,i,k,h=>by
  rw[Nat.add_right_comm] at h;obtain⟨x,h1,h2⟩:=h;obtain⟨j,b,c⟩:=Wk.split h2;exact⟨j,⟨x,h1,b⟩,c⟩
theorem Wk.closed{C:Int->Prop}(c:∀x y,C x->(x,y)∈f->C y):∀{n:Nat} {i j:Int},C i->Wk f n i j->C j
 | 0,i,j,h,e=>by cases(show i=j from e);exact h
 | n+1,i,j,h,⟨m,e,w⟩=>Wk.closed c (c i m h e) w
theorem Wk.back:∀{n:Nat} {i j:Int},Wk f n i j->Wk (f.map Prod.swap) n j i
 | 0,i,j,h=>Eq.symm h
 | n+1,i,j,⟨m,e,w⟩=>Wk.snoc (Wk.back w) (zN.mpr ⟨(i,m),e,rfl⟩)
theorem Yg{i j:Int}:j∈wE f i↔(i,j)∈f:=by
 unfold wE;rw[zN];constructor
 ·rintro⟨⟨a,b⟩,h,rfl⟩
  obtain⟨h1,h2⟩:=qG.mp h;rw[<- jy h2];exact h1
 ·intro h
  exact⟨(i,j),qG.mpr ⟨h,zV rfl⟩,rfl⟩
end
theorem Xe(b:List (Int×Int)):(b.map Prod.swap).map Prod.swap=b:=by
 rw[j9];exact List.map_id'' (fun _=>rfl) b
def dkI(b:List (Int×Int)):List (Key×V):=b.map fun p=>(Sum.inl p.1,V.int p.2)
theorem zbV(b:List (Int×Int)):(dkI b).length=b.length:=zn _
theorem VO:∀(b:List (Int×Int)) (i:Int),(∃v,jr (dkI b) (Sum.inl i)=some (.int v)/\i∈b.map (·.1))\/(jr (dkI b) (Sum.inl i)=none/\i∉b.map (·.1))
 | [],i=>.inr ⟨rfl,by simp⟩
 | p::b,i=>by
  by_cases h:p.1=i
  ·exact .inl ⟨p.2,jF (by show Sum.inl p.1=_;rw[h]),by simp[h]⟩
  ·have e:jr (dkI (p::b)) (Sum.inl i)=jr (dkI b) (Sum.inl i):=jG (fun z=>h (x6 z))
   rcases VO b i with ⟨v,h1,h2⟩ | ⟨h1,h2⟩
   ·exact .inl ⟨v,e.trans h1,by simp only[qO,qe];exact .inr h2⟩
   ·exact .inr ⟨e.trans h1,by simp only[qO,qe];rintro(z | z);exact h z.symm;exact h2 z⟩
theorem zgH{b:List (Int×Int)}{i v:Int}(h:jr (dkI b) (Sum.inl i)=none):xm (dkI b) (Sum.inl i) (.int v)=dkI (b++[(i,v)]):=by
 rw[ZM _ h];unfold dkI;rw[zP];rfl
theorem XU{α:Type}[DecidableEq α]:∀{l m:List α},l.Nodup->(∀x∈l,x∈m)->l.length<=m.length
 | [],_,_,_=>ji _
 | x::l,m,h,s=>by
  have hx:=s x (by simp)
  have b:=wX.mp h;have:=XU (l:=l) (m:=m.erase x) b.2 fun y hy=>(List.mem_erase_of_ne (fun e:y=x=>b.1 (e▸hy))).mpr (s y (jS _ hy))
  rw[zaS hx] at this;have:=zaQ hx;rw[xP];omega
def InN(n:Nat)(i:Int):Prop:=0<=i/\i<n
theorem yp{n:Nat}{l:List Int}(h:l.Nodup)(s:∀x∈l,InN n x):l.length<=n:=by
 have:=XU (m:=(List.range n).map fun k:Nat=>(k:Int)) h fun x hx=>by
  obtain⟨h0,h1⟩:=s x hx;exact zN.mpr ⟨x.toNat,xR.mpr (by omega),by omega⟩
 rwa[zn,vO] at this
theorem Zn{α:Type}{l:List α}{x:α}(h:l.Nodup)(hx:x∉l):(l++[x]).Nodup:=by
 rw[ZA];exact⟨h,by simp,fun a c b hb e=>hx (by rw[qD] at hb;rw[<- hb,<- e];exact c)⟩
structure zfI(H:Hp)(rk:List (Key×V))(as:List (Int×Int)):Prop where
 at_:∀i v,jr rk (Sum.inl i)=some v->∃l,v=.ref l/\H l=some (.lst ((wE as i).map V.int))
 no:∀i,jr rk (Sum.inl i)=none->wE as i=[]
def WSt(H:Hp)(g:List (Int×Int))(n:Nat)(s:Int)(r d:Addr)(m:Nat)(σ:St)(f:Hp):Prop:=
 ∃(e:Addr) (c:List Int) (b:List (Int×Int)) (l w A:Option V),σ=[some (.int s),some (.ref r),some (.ref d),some (.ref e),l,w,A]/\H e=none/\e≠d/\f e=some (.lst (c.map V.int))/\f d=some (.dK (dkI b))/\Same H f /\
  (b.map (·.1)).Nodup/\(∀j∈b.map (·.1),∃k,Wk g k s j)/\s∈b.map (·.1)/\(∀j∈c,j∈b.map (·.1))/\(∀x∈b.map (·.1),x∉c->∀y,(x,y)∈g->y∈b.map (·.1))/\c.length<=60/\m=2*(n-b.length)+(if c=[] then 0 else 1)
structure RSt(as:List (Int×Int))(s:Int)(d l:Addr)(ps:List (Int×Int))(H H':Hp)(qs:List (Int×Int))(rs:List Int):Prop where
 hd:H' d=some (.dK (dkI qs))
 hl:H' l=some (.lst (rs.map V.int))
 sm:Same H H'
 nd:(qs.map (·.1)).Nodup
 snd:∀j∈qs.map (·.1),∃k,Wk as k s j
 eq:qs.map (·.1)=ps.map (·.1)++rs
section
variable{P:Program}{w:World}{K:W.Frag}{I:Str->Option Value}{G:Heap}
inductive XH(K:W.Frag)(l:List V)(H:Hp)(Q:VK):Prop
 | mk (s:Int) (r:Addr) (g:List (Key×V)) (b:List (Int×Int)) (n:Nat) (_:l=[.int s,.ref r]) (_:H r=some (.dK g)) (_:zfI H g b) (_:n<=60) (_:InN n s) (_:(∀p∈b,InN n p.2)) (_:b.length<=1000) (_:∀(d:Addr) (c:List (Int×Int)) f,Same H f->H d=none->f d=some (.dK (dkI c))->(c.map (·.1)).Nodup->c.length<=n->(∀j,j∈c.map (·.1)↔∃k,Wk b k s j)->Q (.ref d) f):XH K l H Q
def za7(K:W.Frag):Sp:=fun b H Q _=>XH K b H Q
theorem zbm:zD ["start","rows","steps","edge","reached","part","other"] ["start","rows"] (zy (topL 8)):=u3
theorem zeI{f:Addr}{fd:FuncData}(F:Fun K "steps_from" "steps_from" (topL 8) f fd)(B:Blt I):qY P w K I G CX0 1 f fd ["start","rows"] (za7 K):=by
 have nd:=zbm.nd;refine F.ok zbm (fun vs H Q E h=>?_) (fun bd A bb s H vs Q E hr h=>?_)
 ·obtain⟨s,r,rk,L,n,rfl,_⟩:=h
  rfl
 ·obtain⟨s,r,rk,L,n,rfl,hR,ro,be,ins,ah,al,k⟩:=h
  have bc:=bG100000;have ae:=XY hr;refine⟨_,(zf (zE (i:=2) nd rfl (Or.inl rfl) (zga (zep (pv 0) zi zf2) rfl rfl (by intro z;cases z) (by show 1<=15;decide)))
   (zf (zE (i:=3) nd rfl (Or.inl rfl) (qC (za (pv 0) ze)))
   (zf (W1 jC (zf0 (pv 3))
   (zf (zE (i:=4) nd rfl (Or.inl rfl) (qC ze))
    (zf (qZ jC rfl (qg (pv 3)) (zq (i:=5) nd rfl (Or.inl rfl))
    (zo (qZ jC rfl (qg (zew ae (pv 1) (pv 5) (qC ze) ⟨rfl,rfl,rfl,rfl⟩)) (zq (i:=6) nd rfl (Or.inl rfl))
     (zo (jB (zel (XS ae (pv 6) (pv 2)))
      (zf (zbB ae (pv 2) (pv 6) (zM ja (Vw ae (pv 2) (pv 5) (fun _ _=>rfl)) zi) rfl)
       (zo (jt (xE xL w9 w8 jE (pv 4) (za (pv 6) ze)))))
      qF)))))
    (zo (zE (i:=3) nd rfl (Or.inl rfl) (pv 4))))))
   (zo (zB (pv 2)))))),?_⟩
  refine fun d hd=>⟨_,rfl,zd,[(Sum.inl s,.int 0)],rfl,(by show 1<=15;decide),_,rfl,le1,fun e he=>?_⟩
  have ed:e≠d:=fun z=>by rw[z,zd] at he;cases he
  have e0:H e=none:=by rw[zp ed,zp ed] at he;exact he
  have s0:Same H (upd (upd (upd H d (.dK [])) d (.dK (jL [] [(Sum.inl s,V.int 0)]))) e (.lst [.int s])):=fun c o z=>by rw[zp (zm z e0),zp (zm z hd),zp (zm z hd)];exact z
  have ao:(upd (upd (upd H d (.dK [])) d (.dK (jL [] [(Sum.inl s,V.int 0)]))) e (.lst [.int s])) d=some (.dK (dkI [(s,0)])):=by rw[zp (z9 ed),zd];rfl
  have ap:(upd (upd (upd H d (.dK [])) d (.dK (jL [] [(Sum.inl s,V.int 0)]))) e (.lst [.int s])) e=some (.lst ([s].map V.int)):=zd;generalize upd (upd (upd H d (.dK [])) d (.dK (jL [] [(Sum.inl s,V.int 0)]))) e (.lst [.int s])=H1 at s0 ao ap;refine⟨WSt H L n s r d,⟨_,e,[s],[(s,0)],_,_,_,rfl,e0,ed,ap,ao,s0,by simp,fun j U=>⟨0,by simp at U;exact U.symm⟩,by simp,by simp,fun x hx hn=>absurd hx (by simpa using hn),by simp,rfl⟩,?_⟩
  rintro m σ H2 ⟨e,es,N,v4,v5,v6,rfl,en,ba,ab,af,s2,aj,ak,au,aw,an,el,rfl⟩;have b0:∀j∈N.map (·.1),InN n j:=fun j U=>by
   obtain⟨k,wk⟩:=ak j U;exact Wk.closed (C:=InN n) (fun x y _ h=>ah _ h) ins wk
  have pl:N.length<=n:=by have:=yp aj b0;rwa[zn] at this
  refine⟨_,rfl,e,_,rfl,u4 ab,?_⟩
  cases es with
  | nil=>
   refine ifF (by rfl) ?_
   refine⟨_,rfl,k d N H2 s2 hd af aj pl fun j=>⟨ak j,fun ⟨k,wk⟩=>Wk.closed (C:=fun j=>j∈N.map (·.1)) (fun x y hx h=>an x hx (by simp) y h) au wk⟩⟩
  | cons e1 T=>
   refine ifT (by rfl) ?_
   refine⟨fun σ' O=>∃m',m'<2*(n-N.length)+(if e1::T=[] then 0 else 1)/\WSt H L n s r d m' σ' O,fun _ _ h=>h,?_⟩
   refine⟨le0,fun l Y=>?_⟩
   have lH:H l=none:=by
    cases z:H l with
    | none=>rfl
    | some o=>rw[s2 _ _ z] at Y;cases Y
   have ld:l≠d:=fun z=>by rw[z,af] at Y;cases Y
   have le:l≠e:=fun z=>by rw[z,ab] at Y;cases Y
   refine⟨_,rfl,e,rfl,⟨_,u4 ((zb Y) _ _ ab)⟩,jW (K:=K) (a:=e) (xs:=(e1::T).map V.int) (fun i σ O=>Ex4 fun(v5 v6:Option V) (b:List (Int×Int)) (J:List Int)=>An4 (σ=[some (.int s),some (.ref r),some (.ref d),some (.ref e),some (.ref l),v5,v6]) (O e=some (.lst ((e1::T).map V.int))) (RSt L s d l N H O b J) ((∀x∈(e1::T).take i,∀y,(x,y)∈L->y∈b.map (·.1))))
    ⟨_,_,N,[],rfl,(zb Y) _ _ ab,⟨(zb Y) _ _ af,zd,s2.trans (zb Y),aj,ak,by simp⟩,by simp⟩ (fun i σ O _ ⟨_,_,_,_,_,h,_,_⟩=>u4 h) ?_ ?_⟩
   ·rintro i x σ H3 hx ⟨v5,v6,b,J,rfl,ar,g,a0⟩
    rw[zZ] at hx;obtain⟨x,ex,rfl⟩:=qE.mp hx;have et:(e1::T).take (i+1)=(e1::T).take i++[x]:=by
     obtain⟨h1,h2⟩:=zC.mp ex;rw[<- h2,Ze]
    have xk:x∈N.map (·.1):=aw x (qr ex)
    have xq:x∈b.map (·.1):=by rw[g.eq];exact jN _ xk
    refine⟨_,rfl,r,rfl,.inl ⟨_,.inl (g.sm _ _ hR)⟩,_,rfl,le0,fun q hq=>?_⟩
    have sq:=zb (H:=H3) (o:=.lst []) hq;have qd:q≠d:=fun z=>by rw[z,g.hd] at hq;cases hq
    have ql:q≠l:=fun z=>by rw[z,g.hl] at hq;cases hq
    refine⟨_,.inl ⟨rk,Sum.inl x,.inl (sq _ _ (g.sm _ _ hR)),rfl,rfl⟩,?_⟩
    have tt:∃t,(jr rk (Sum.inl x)).getD (.ref q)=.ref t/\upd H3 q (.lst []) t=some (.lst ((wE L x).map V.int))/\t≠d/\t≠l:=by
     cases z:jr rk (Sum.inl x) with
     | none=>exact⟨q,rfl,by rw[ro.no x z];exact zd,qd,ql⟩
     | some v=>
      obtain⟨t,rfl,ht⟩:=ro.at_ x v z;exact⟨t,rfl,sq _ _ (g.sm _ _ ht),zm ht hd,zm ht lH⟩
    obtain⟨t,ay,ht,td,tl⟩:=tt;rw[ay];refine⟨t,rfl,⟨_,u4 ht⟩,jW (K:=K) (a:=t) (xs:=(wE L x).map V.int) (fun k σ O=>Ex3 fun(v6:Option V) (b:List (Int×Int)) (J:List Int)=>An6 (σ=[some (.int s),some (.ref r),some (.ref d),some (.ref e),some (.ref l),some (.int x),v6]) (O e=some (.lst ((e1::T).map V.int))) (O t=some (.lst ((wE L x).map V.int))) (RSt L s d l N H O b J) ((∀x∈(e1::T).take i,∀y,(x,y)∈L->y∈b.map (·.1))) (∀y∈(wE L x).take k,y∈b.map (·.1)))
     ⟨_,b,J,rfl,sq _ _ ar,ht,⟨sq _ _ g.hd,sq _ _ g.hl,g.sm.trans sq,g.nd,g.snd,g.eq⟩,a0,by simp⟩ (fun i σ O _ ⟨_,_,_,_,_,h,_,_,_⟩=>u4 h) ?_ ?_⟩
    ·rintro j y σ H4 hy ⟨v6,b,J,rfl,ac,ag,D,aa,M⟩
     rw[zZ] at hy;obtain⟨y,ey,rfl⟩:=qE.mp hy;have aq:(wE L x).take (j+1)=(wE L x).take j++[y]:=by
      obtain⟨h1,h2⟩:=zC.mp ey;rw[<- h2,Ze]
     have xy:(x,y)∈L:=Yg.mp (qr ey);have ax:x∈b.map (·.1):=by rw[D.eq];exact jN _ xk
     refine⟨_,rfl,_,rfl,d,_,rfl,.inl ⟨_,Sum.inl y,.inl D.hd,rfl,rfl⟩,?_⟩
     rcases VO b y with ⟨v,hv,my⟩ | ⟨hv,my⟩
     ·rw[hv]
      refine⟨_,rfl,ifF (by rfl) ?_⟩
      refine⟨_,b,J,rfl,ac,ag,D,aa,fun z hz=>?_⟩
      rw[aq] at hz;rcases qU.mp hz with h | h
      ·exact M z h
      ·rw[qD.mp h];exact my
     ·rw[hv]
      refine⟨_,rfl,ifT (by rfl) ?_⟩
      rcases VO b x with ⟨vx,az,_⟩ | ⟨_,z⟩
      ·have ai:∀j∈b.map (·.1),InN n j:=fun j U=>by
        obtain⟨k,wk⟩:=D.snd j U;exact Wk.closed (C:=InN n) (fun x y _ h=>ah _ h) ins wk
       have ql:b.length<=n:=by have:=yp D.nd ai;rwa[zn] at this
       have lq:b.length=N.length+J.length:=by
        have:=congrArg List.length D.eq;rwa[qo,zn,zn] at this
       refine⟨_,rfl,_,rfl,d,_,rfl,.inl ⟨_,Sum.inl x,.inl D.hd,rfl,az.symm⟩,_,_,rfl,rfl,_,rfl,_,rfl,d,_,rfl,.inl ⟨_,Sum.inl y,D.hd,rfl,by rw[zbV];omega,rfl⟩,?_⟩
       rw[zgH hv];have am:upd H4 d (.dK (dkI (b++[(y,vx+1)]))) l=some (.lst (J.map V.int)):=by rw[zp ld];exact D.hl
       refine⟨_,rfl,.inl ⟨rfl,_,u4 am⟩,_,rfl,l,_,_,rfl,rfl,am,by rw[zn];omega,?_⟩
       refine⟨_,b++[(y,vx+1)],J++[y],rfl,by rw[zp (z9 le),zp ba];exact ac,by rw[zp tl,zp td];exact ag,⟨by rw[zp (z9 ld)];exact zd,by rw[zd,zP];rfl,fun c o z=>by rw[zp (zm z lH),zp (zm z hd)];exact D.sm _ _ z,?_,?_,by rw[zP,D.eq,yG];rfl⟩,fun z hz u hu=>?_,fun z hz=>?_⟩
       ·rw[zP]
        exact Zn D.nd my
       ·intro z hz
        rw[zP] at hz;rcases qU.mp hz with h | h
        ·exact D.snd z h
        ·obtain⟨k,wk⟩:=D.snd x ax
         rw[qD.mp h];exact⟨k+1,wk.snoc xy⟩
       ·rw[zP]
        exact jN _ (aa z hz u hu)
       ·rw[aq] at hz
        rw[zP];rcases qU.mp hz with h | h
        ·exact jN _ (M z h)
        ·exact qI _ h
      ·exact absurd ax z
    ·rintro σ H4 ⟨v6,b,J,rfl,ac,ag,D,aa,M⟩
     rw[zn,qz] at M;refine⟨_,_,b,J,rfl,ac,D,fun z hz y hy=>?_⟩
     rw[et] at hz;rcases qU.mp hz with h | h
     ·exact aa z h y hy
     ·rw[qD.mp h] at hy
      exact M y (Yg.mpr hy)
   ·rintro σ H3 ⟨v5,v6,b,J,rfl,ar,g,a0⟩
    rw[zn,qz] at a0;have ai:∀j∈b.map (·.1),InN n j:=fun j U=>by
     obtain⟨k,wk⟩:=g.snd j U;exact Wk.closed (C:=InN n) (fun x y _ h=>ah _ h) ins wk
    have ql:b.length<=n:=by have:=yp g.nd ai;rwa[zn] at this
    have lq:b.length=N.length+J.length:=by
     have:=congrArg List.length g.eq;rwa[qo,zn,zn] at this
    refine⟨_,rfl,2*(n-b.length)+(if J=[] then 0 else 1),?_,l,J,b,_,_,_,rfl,lH,ld,g.hl,g.hd,g.sm,g.nd,g.snd,by rw[g.eq];exact jN _ au,fun j U=>by rw[g.eq];exact qI _ U,fun x hx hn y hy=>?_,by omega,rfl⟩
    ·rw[zu (by simp:¬e1::T=[])]
     split
     ·omega
     ·rename_i h
      have:=V9.mpr h;omega
    ·rw[g.eq] at hx
     rcases qU.mp hx with h | h
     ·by_cases av:x∈e1::T
      ·exact a0 x av y hy
      ·rw[g.eq];exact jN _ (an x h av y hy)
     ·exact absurd h hn
theorem zgX{c f:List Int}(p:c.Perm f)(l:f.Nodup)(h:c.Pairwise (·<= ·)):c.Pairwise (·< ·):=by
 have g:c.Pairwise (·≠ ·):=p.nodup_iff.mpr l
 exact(h.and g).imp fun ⟨a,b⟩=>by omega
inductive zbk(K:W.Frag)(A:List V)(H:Hp)(Q:VK):Prop
 | mk (s:Int) (r:Addr) (g:List (Key×V)) (b:List (Int×Int)) (n:Nat) (_:A=[.int s,.ref r]) (_:H r=some (.dK g)) (_:zfI H g b) (_:n<=60) (_:InN n s) (_:(∀p∈b,InN n p.2)) (_:b.length<=1000) (_:∀(l:Addr) (c:List Int) f,Same H f->H l=none->f l=some (.lst (c.map V.int))->c.length<=60->c.Pairwise (·< ·)->(∀j,j∈c↔j≠s/\∃k,Wk b k s j)->Q (.ref l) f):zbk K A H Q
def zg7(K:W.Frag):Sp:=fun b H Q _=>zbk K b H Q
theorem zhg:zD ["part","rows"] ["part","rows"] (zy (topL 9)):=u3
theorem ziq{f:Addr}{fd:FuncData}(F:Fun K "all_from" "all_from" (topL 9) f fd)(B:Blt I)(g:Dfn P w K I G "steps_from" 1 ["start","rows"] (za7 K)):qY P w K I G CX0 2 f fd ["part","rows"] (zg7 K):=by
 have nd:=zhg.nd;refine F.ok zhg (fun vs H Q E h=>?_) (fun ac A aa s H vs Q E hr h=>?_)
 ·obtain⟨s,r,rk,as,n,rfl,_⟩:=h
  rfl
 ·obtain⟨s,r,rk,as,n,rfl,hR,ro,Y,ins,T,al,k⟩:=h
  have ab:=bG100000;refine⟨_,(zo (zB (zx xn rfl B.sorted jK (za (jv ["part"] [0] rfl rfl (by kernel_rfl) (zes (zk g hr.m rfl (za (pv 0) (za (pv 1) ze)))) (fun _ _ _ _=>(ju (zG zeF (pv 0) (pv 1) (zL _)))) (fun _ _ _ _=>(pv 0))) ze)))),?_⟩
  refine⟨_,rfl,_,rfl,s,r,rk,as,n,rfl,hR,ro,Y,ins,T,al,fun d C M s1 hd O a0 lp mem=>⟨d,_,rfl,O,fun o=>Yl (d:=d) (o:=o) (kvs:=dkI C) (fun i L H'=>L=(((C.take i).map (·.1)).filter fun j=>decide (j≠s)).map V.int/\H'=upd M d (.frz o (.dK (dkI C)))) ⟨rfl,rfl⟩ (fun i L H' ⟨_,h⟩=>by rw[h];exact zd) ?_ ?_⟩⟩
  ·rintro i kk v L H2 hx ⟨rfl,rfl⟩
   unfold dkI at hx;rw[zZ] at hx;obtain⟨p,ep,e1⟩:=qE.mp hx;cases e1;have et:C.take (i+1)=C.take i++[p]:=by
    obtain⟨h1,h2⟩:=zC.mp ep;rw[<- h2,Ze]
   have hi:=(zC.mp ep).1;rw[et,zP,xT,zP];have U:=qV (fun j=>decide (j≠s)) ((C.take i).map (·.1))
   rw[zn,qm] at U;refine⟨rfl,_,rfl,_,rfl,rfl,_,rfl,?_⟩
   by_cases c:p.1=s
   ·refine ifF (by show(!decide (V.int p.1=V.int s))=false;rw[c];simp) ⟨?_,rfl⟩
    simp[c]
   ·refine ifT (by show(!decide (V.int p.1=V.int s))=true;rw[jd (fun z=>c (V.int.inj z))];rfl) ⟨_,rfl,by rw[zn];omega,?_,rfl⟩
    simp[c,kV]
  ·rintro L H2 ⟨rfl,rfl⟩
   rw[zbV,qz];have U:=qV (fun j=>decide (j≠s)) (C.map (·.1))
   rw[zn] at U;refine⟨by rw[zn];omega,fun l J=>⟨l,(C.map (·.1)).filter fun j=>decide (j≠s),rfl,u4 zd,by omega,fun l2 ms D pm pw=>?_⟩⟩
   have ld:l≠d:=fun z=>by rw[z,zd] at J;cases J
   have N:M l=none:=by rw[zp ld] at J;exact J
   have s3:Same H (upd (upd M d (.frz o (.dK (dkI C)))) l (.lst (((C.map (·.1)).filter fun j=>decide (j≠s)).map V.int))):=fun c o z=>by
    rw[zp (zm (s1 _ _ z) N),zp (zm z hd)];exact s1 _ _ z
   refine k l2 ms _ (s3.trans (zb D)) ?_ zd (by rw[pm.length_eq];omega) (zgX pm (a0.filter _) pw) fun j=>?_
   ·cases z:H l2 with
    | none=>rfl
    | some o=>rw[s3 _ _ z] at D;cases D
   ·rw[pm.mem_iff,qG,mem j]
    constructor
    ·rintro⟨a,b⟩;exact⟨jy b,a⟩
    ·rintro⟨a,b⟩;exact⟨b,zV a⟩
def asI(J:Job):List (Int×Int):=J.as.map fun p=>((p.1:Int),(p.2:Int))
theorem zgO(J:Job):(asI J).map prD=J.as.map jJ:=by
 unfold asI;rw[j9];rfl
theorem QW(J:Job):(asI J).length=J.as.length:=zn _
inductive XQ(K:W.Frag)(f:List V)(H:Hp)(Q:VK):Prop
 | mk (s:Int) (p:Addr) (J:Job) (_:f=[.ref p,.int s]) (_:Rep K H (xQ J) (.ref p)) (_:J.ps.length<=60) (_:InN J.ps.length s) (_:(∀q∈asI J,InN J.ps.length q.1/\InN J.ps.length q.2)) (_:J.as.length<=300) (_:∀(l:Addr) (b:List Int) c,Same H c->H l=none->c l=some (.lst (b.map V.int))->b.length<=60->b.Pairwise (·< ·)->(∀j,j∈b↔j≠s/\∃k,Wk (asI J) k j s)->Q (.ref l) c):XQ K f H Q
def Vn(K:W.Frag):Sp:=fun b H Q _=>XQ K b H Q
theorem Jp{J:Job}{H:Hp}{p:Addr}(h:Rep K H (xQ J) (.ref p)):∃(t:Addr) (c f g l:V) (b:List V),SqT K H p [c,f,g,l,.ref t]/\SqT K H t b/\Reps K H ((asI J).map prD) b:=by
 obtain⟨a,b,e,A,c,_,rfl,_,f,_,rfl,_,g,_,rfl,_,l,_,rfl,_,L,E,rfl,s,rfl⟩:=h;cases e;obtain⟨t,D,rfl,B,C⟩:=s;exact⟨t,_,_,_,_,D,A,B,by rw[zgO];exact C⟩
theorem zbs:zD ["job","part"] ["job","part"] (zy (topL 10)):=u3
theorem zeO{f:Addr}{fd:FuncData}(F:Fun K "ahead_of" "ahead_of" (topL 10) f fd)(B:Blt I)(C:Dfn P w K I G "turned" 1 ["pairs"] (za3 K))(g:Dfn P w K I G "next_by" 1 ["pairs"] (zdQ K))(c:Dfn P w K I G "all_from" 2 ["part","rows"] (zg7 K)):qY P w K I G CX0 3 f fd ["job","part"] (Vn K):=by
 have nd:=zbs.nd;refine F.ok zbs (fun vs H Q E h=>?_) (fun ac A aa s H vs Q E T h=>?_)
 ·obtain⟨s,p,J,rfl,_⟩:=h
  rfl
 ·obtain⟨s,p,J,rfl,rp,a0,ins,U,al,k⟩:=h
  have ab:=bG100000;refine⟨_,(zo (zB (zk c T.m rfl (za (pv 1) (za (zk g T.m rfl (za (zk C T.m rfl (za (zF je (pv 0) zi (fun _ _=>rfl)) ze)) ze)) ze))))),?_⟩
  obtain⟨t,x0,x1,x2,x3,xs,qa,qt,rx⟩:=Jp rp;refine⟨_,rfl,_,rfl,p,_,_,_,rfl,rfl,qa,rfl,t,xs,asI J,rfl,qt,rx,by rw[QW];omega,fun l0 ys H0 s0 M ry=>?_⟩
  have em:((asI J).map Prod.swap).map prD=(asI J).map fun p=>prD p.swap:=by rw[j9];rfl
  refine⟨l0,ys,(asI J).map Prod.swap,rfl,.inl (u4 M),by rw[em];exact ry,by rw[zn,QW];omega,fun d Y H1 s1 hd L nb=>?_⟩
  refine⟨s,d,Y,(asI J).map Prod.swap,J.ps.length,rfl,L,⟨fun i v hv=>let ⟨l,a,_,b⟩:=nb.at_ i v hv;⟨l,a,b⟩,nb.no⟩,a0,ins,fun q hq=>?_,by rw[zn,QW];omega,fun l ms H2 s2 hl N D pw mem=>?_⟩
  ·obtain⟨q',O,rfl⟩:=zN.mp hq
   exact(U q' O).1
  refine k l ms H2 (s0.trans (s1.trans s2)) ?_ N D pw fun j=>?_
  ·cases z:H l with
   | none=>rfl
   | some o=>rw[s1 _ _ (s0 _ _ z)] at hl;cases hl
  ·rw[mem j]
   refine⟨fun ⟨a,k,b⟩=>⟨a,k,?_⟩,fun ⟨a,k,b⟩=>⟨a,k,b.back⟩⟩
   have:=b.back;rwa[Xe] at this
def dkB(b:List Int):List (Key×V):=b.map fun j=>(Sum.inl j,V.bl true)
def Wo(b:List Int)(j:Int):List Int:=if j∈b then b else b++[j]
def ZG(c b:List Int):List Int:=b.foldl Wo c
theorem zbW:∀(b:List Int) (i:Int),(jr (dkB b) (Sum.inl i)=some (.bl true)/\i∈b)\/(jr (dkB b) (Sum.inl i)=none/\i∉b)
 | [],i=>.inr ⟨rfl,by simp⟩
 | p::c,i=>by
  by_cases h:p=i
  ·exact .inl ⟨jF (by show Sum.inl p=_;rw[h]),by simp[h]⟩
  ·have e:jr (dkB (p::c)) (Sum.inl i)=jr (dkB c) (Sum.inl i):=jG (fun z=>h (x6 z))
   rcases zbW c i with ⟨h1,h2⟩ | ⟨h1,h2⟩
   ·exact .inl ⟨e.trans h1,jS _ h2⟩
   ·exact .inr ⟨e.trans h1,by simp only[qe];rintro(z | z);exact h z.symm;exact h2 z⟩
theorem zgI(b:List Int)(j:Int):xm (dkB b) (Sum.inl j) (.bl true)=dkB (Wo b j):=by
 unfold Wo;rcases zbW b j with ⟨h1,h2⟩ | ⟨h1,h2⟩
 ·rw[zv h2]
  unfold xm;rw[zv (by rw[wm,h1];rfl)]
  unfold dkB;rw[j9];refine zaM fun x _=>?_
  show(if(Sum.inl x:Key)=Sum.inl j then((Sum.inl x:Key),V.bl true) else(Sum.inl x,V.bl true))=_
  split<;>rfl
 ·rw[zu h2,ZM _ h1]
  unfold dkB;rw[zP];rfl
theorem Qi:∀(b c:List Int),jL (dkB c) (dkB b)=dkB (ZG c b)
 | [],c=>rfl
 | j::b,c=>by
  show jL (xm (dkB c) (Sum.inl j) (.bl true)) (dkB b)=dkB (ZG (Wo c j) b);rw[zgI,Qi b]
theorem zeT{b:List Int}{j x:Int}:x∈Wo b j↔x∈b\/x=j:=by
 unfold Wo;split
 ·rename_i h
  constructor
  ·exact .inl
  ·rintro(z | z)
   ·exact z
   ·rw[z];exact h
 ·rw[qU,qD]
theorem wz:∀{c b:List Int} {x:Int},x∈ZG b c↔x∈b\/x∈c
 | [],b,x=>by simp[ZG]
 | j::c,b,x=>by
  show x∈ZG (Wo b j) c↔_;rw[wz,zeT,qe,or_assoc]
theorem zaa{b:List Int}{j:Int}(h:b.Nodup):(Wo b j).Nodup:=by
 unfold Wo;split
 ·exact h
 ·rename_i z
  exact Zn h z
theorem Zm:∀{js b:List Int},b.Nodup->(ZG b js).Nodup
 | [],_,h=>h
 | j::js,b,h=>Zm (js:=js) (zaa h)
theorem QT(b:List Int):(dkB b).length=b.length:=zn _
theorem XA{α:Type}{l:List α}{i:Nat}{x:α}(h:l[i]? =some x):l.take (i+1)=l.take i++[x]:=by
 obtain⟨h1,h2⟩:=zC.mp h;rw[<- h2,Ze]
structure Ov(H H':Hp)(ds:List Addr)(κ:Nat->List Int):Prop where
 nd:ds.Nodup
 at_:∀(p:Nat) (d:Addr),ds[p]? =some d->H d=none/\H' d=some (.dK (dkB (κ p)))
 sm:Same H H'
theorem Ov.snoc{H f g:Hp}{c:List Addr}{κ:Nat->List Int}{d:Addr}(o:Ov H f c κ)(s:Same f g)(h1:f d=none)(h2:g d=some (.dK (dkB (κ c.length)))):Ov H g (c++[d]) κ:=by
 refine⟨Zn o.nd fun z=>?_,fun p e b=>?_,o.sm.trans s⟩
 ·obtain⟨p,l⟩:=List.getElem?_of_mem z
  rw[(o.at_ p d l).2] at h1;cases h1
 ·by_cases l:p<c.length
  ·rw[yc l] at b
   exact⟨(o.at_ p e b).1,s _ _ (o.at_ p e b).2⟩
  ·rw[wC (by omega)] at b
   have:p=c.length:=by
    have:=(zC.mp b).1;simp at this;omega
   subst this;simp at b;subst b;refine⟨?_,h2⟩
   cases z:H d with
   | none=>rfl
   | some A=>rw[o.sm _ _ z] at h1;cases h1
def zah(b:List (Int×Int))(p:Nat):List Int:=ZG [] ((b.filter fun q=>decide (q.2=(p:Int))).map (·.1))
theorem VT{b:List Addr}{p:Nat}{d:Addr}(h:b[p]? =some d):atI (b.map V.ref) (p:Int)=some (.ref d):=by
 have c:=(zC.mp h).1;obtain⟨v,h1,h2⟩:=VU (xs:=b.map V.ref) (i:=(p:Int)) (by omega) (by rw[zn];omega)
 rw[h1,<- h2,jR,zZ,h];rfl
theorem Ov.upd{H g:Hp}{f:List Addr}{κ:Nat->List Int}{p:Nat}{d:Addr}(o:Ov H g f κ)(h:f[p]? =some d)(l:List Int):Ov H (upd g d (.dK (dkB l))) f (fun x=>if x=p then l else κ x):=by
 refine⟨o.nd,fun q e b=>⟨(o.at_ q e b).1,?_⟩,fun c B z=>by rw[zp (zm z (o.at_ p d h).1)];exact o.sm _ _ z⟩
 by_cases c:q=p
 ·subst c
  rw[h] at b;cases b;rw[zd,zv rfl]
 ·have ne:e≠d:=fun z=>by
   subst z;obtain⟨h1,h2⟩:=zC.mp h;obtain⟨A,s⟩:=zC.mp b;exact c ((Qr o.nd).mp (s.trans h2.symm))
  rw[zp ne,zu c];exact(o.at_ q e b).2
theorem Ov.same{H b c:Hp}{f:List Addr}{κ:Nat->List Int}(o:Ov H b f κ)(s:Same b c):Ov H c f κ:=⟨o.nd,fun p d h=>⟨(o.at_ p d h).1,s _ _ (o.at_ p d h).2⟩,o.sm.trans s⟩
def za0(b:List (Int×Int))(κ:Nat->List Int):Prop:=∀p:Nat,(κ p).Nodup/\∀q∈κ p,∃k,1<=k/\Wk b k q p
def zgV(b:List (Int×Int))(κ:Nat->List Int)(m p:Nat):Prop:=∀q k,1<=k->k<=m->Wk b k q p->q∈κ p
theorem Yi{c:List (Int×Int)}{p:Nat}{q:Int}:q∈zah c p↔(q,(p:Int))∈c:=by
 unfold zah;rw[wz,zN];constructor
 ·rintro(z | ⟨⟨a,b⟩,h,rfl⟩)
  ·exact absurd z (by simp)
  ·obtain⟨h1,h2⟩:=qG.mp h
   rw[<- jy h2];exact h1
 ·intro h
  exact .inr ⟨_,qG.mpr ⟨h,zV rfl⟩,rfl⟩
theorem zkv(b:List (Int×Int)):za0 b (zah b):=fun p=>⟨Zm zar,fun q h=>⟨1,zJ _,_,Yi.mp h,rfl⟩⟩
theorem zkw(b:List (Int×Int))(p:Nat):zgV b (zah b) 1 p:=fun q k h1 h2 c=>by
 cases(show k=1 by omega)
 obtain⟨m,h,e⟩:=c;cases(show m=(p:Int) from e)
 exact Yi.mpr h
theorem Wk.rank{f:List (Int×Int)}{c:Int->Nat}(h:∀q∈f,c q.1<c q.2):∀{k:Nat} {a b:Int},Wk f k a b->c a+k<=c b
 | 0,a,b,e=>by cases(show a=b from e);exact zJ _
 | k+1,a,b,⟨m,e,w⟩=>by
  have:=Wk.rank h w;have:c a<c m:=h (a,m) e;omega
theorem Wk.in1{c:List (Int×Int)}{n:Nat}(h:∀q∈c,InN n q.1/\InN n q.2):∀{k:Nat} {a b:Int},1<=k->Wk c k a b->InN n a
 | k+1,a,b,_,⟨m,e,w⟩=>(h _ e).1
theorem zgC{b:List (Int×Int)}{κ:Nat->List Int}{p o:Nat}(g:za0 b κ)(h:(o:Int)∈κ p):za0 b (fun x=>if x=p then ZG (κ p) (κ o) else κ x):=fun x=>by
 dsimp only;by_cases c:x=p
 ·subst c
  rw[zv rfl];refine⟨Zm (g x).1,fun q hq=>?_⟩
  rcases wz.mp hq with z | z
  ·exact(g x).2 q z
  ·obtain⟨f,a1,w1⟩:=(g o).2 q z
   obtain⟨l,a2,s⟩:=(g x).2 _ h;exact⟨f+l,by omega,w1.add s⟩
 ·rw[zu c]
  exact g x
theorem zda{g:List (Int×Int)}{κ b:Nat->List Int}{n m p:Nat}{A:List Int}(s:∀q∈g,InN n q.1/\InN n q.2)(f:∀x<n,zgV g κ m x)(C:p<n)(sub:∀x q,q∈κ x->q∈b x)(s1:∀q∈b p,q∈A)(s2:∀o∈b p,∀q∈b o.toNat,q∈A) :
  ∀q k,1<=k->k<=2*m->Wk g k q p->q∈A:=fun q k h1 h2 B=>by
 by_cases c:k<=m
 ·exact s1 q (sub p q (f p C q k h1 c B))
 ·have e:k=m+(k-m):=by omega
  rw[e] at B;by_cases J:m=0
  ·omega
  obtain⟨j,w1,D⟩:=B.split;have l:=Wk.in1 s (by omega) D
  have E:((j.toNat:Nat):Int)=j:=by have:=l.1;omega
  have H:=sub p j (f p C j (k-m) (by omega) (by omega) D)
  refine s2 j H q (sub _ _ (f j.toNat (by have:=l.1;have:=l.2;omega) q m (by omega) (zJ _) ?_))
  rw[E];exact w1
def Rws(H g:Hp)(b:List (List Int))(f:List V):Prop:=f.length=b.length/\∀(p:Nat) (c:List Int),b[p]? =some c->∃a,f[p]? =some (.ref a)/\H a=none/\g a=some (.lst (c.map V.int))
theorem Rws.same{H f b:Hp}{c:List (List Int)}{g:List V}(h:Rws H f c g)(s:Same f b):Rws H b c g:=⟨h.1,fun p A e=>by
 obtain⟨a,e1,e2,l⟩:=h.2 p A e;exact⟨a,e1,e2,s _ _ l⟩⟩
theorem Rws.snoc{H g:Hp}{b:List (List Int)}{B:List V}{l:Addr}{A:List Int}(h:Rws H g b B)(h0:H l=none)(e:g l=some (.lst (A.map V.int))):Rws H g (b++[A]) (B++[.ref l]):=by
 refine⟨by rw[qo,qo,h.1];rfl,fun p s f=>?_⟩
 by_cases c:p<b.length
 ·rw[yc c] at f
  rw[yc (by rw[h.1];exact c)]
  exact h.2 p s f
 ·rw[wC (by omega)] at f
  rw[wC (by rw[h.1];omega),h.1]
  have:p-b.length=0:=by
   have:=(zC.mp f).1;simp at this;omega
  rw[this] at f ⊢;cases f;exact⟨l,rfl,h0,e⟩
inductive WN(K:W.Frag)(B:List V)(H:Hp)(Q:VK):Prop
 | mk (t:Addr) (A:List V) (c:List (Int×Int)) (n:Nat) (s:Int->Nat) (_:B=[.int n,.ref t]) (_:(SqL K H t A\/SqT K H t A)) (_:Reps K H (c.map prD) A) (_:c.length<=1000) (_:n<=60) (_:(∀q∈c,InN n q.1/\InN n q.2)) (_:(∀q∈c,s q.1<s q.2)) (_:(∀i,s i<=60)) (_:∀(l:Addr) (b:List (List Int)) f,Same H f->H l=none->(∃C,f l=some (.lst C)/\Rws H f b C)->b.length=n->(∀p g,b[p]? =some g->g.Pairwise (·< ·)/\∀j,j∈g↔∃k,1<=k/\Wk c k j (p:Nat))->Q (.ref l) f):WN K B H Q
def zdO(K:W.Frag):Sp:=fun b H Q _=>WN K b H Q
theorem zea:zD ["_law_many","_law_aheads_here","_law_found","_law_turn","_law_part","_law_one"] ["_law_many","_law_aheads_here"] (zy (topL 47)):=u3
theorem zgm{f:Addr}{fd:FuncData}(F:Fun K "_law_over" "_law_over" (topL 47) f fd)(B:Blt I):qY P w K I G CX0 1 f fd ["_law_many","_law_aheads_here"] (zdO K):=by
 have nd:=zea.nd;refine F.ok zea (fun vs H Q E h=>?_) (fun bc A b0 s H vs Q E hr h=>?_)
 ·obtain⟨t,xs,N,n,rk,rfl,_⟩:=h
  rfl
 ·obtain⟨t,xs,N,n,rk,rfl,ht,rp,al,bf,ah,au,ar,k⟩:=h
  have bb:=bG100000;have be:=XY hr;have lx:=rp.len;rw[zn] at lx;refine⟨_,(zf (zh0 ["_law_aheads_here"] [1] rfl rfl (by kernel_rfl) (jz rfl B.range (za (pv 0) ze)) (fun _ _ _ _=>qS) (fun _ _ _ _=>(qH (JB hr.hd) rfl B.dict X7 (za (zbD (K:=K) rfl ["_law_part"] [0] rfl rfl (by kernel_rfl) (zf6 (K:=K) rfl (pv 1)) (fun _ _ _ _=>(ju (zG j8 (pv 1) (pv 2) (zL _)))) (fun _ _ _ _=>(qX (za (pv 0) (za vd ze))))) ze))) (zq (i:=2) nd rfl (Or.inl rfl)))
   (zf (qZ jC rfl (jz rfl B.range (za zi ze)) (zq (i:=3) nd rfl (Or.inl rfl))
   (zo (qZ jC rfl (jz rfl B.range (za (pv 0) ze)) (zq (i:=4) nd rfl (Or.inl rfl))
    (zo (qZ jC rfl (qg (qH (YC hr.hd) rfl B.list xJ (za (zF qJ (pv 2) (pv 4) (fun _ _=>rfl)) ze))) (zq (i:=5) nd rfl (Or.inl rfl))
     (zo (jt (zf9 (zF qJ (pv 2) (pv 4) (fun _ _=>rfl)) (zF qJ (pv 2) (pv 5) (fun _ _=>rfl)) ⟨rfl,rfl,rfl,rfl⟩))))))))
   (zo (zB (jv [] [] rfl rfl (by kernel_rfl) (qg (pv 2)) (fun _ _ _ _=>qS) (fun _ _ _ _=>(zx (Xn hr.hd) rfl B.sorted jK (za (pv 0) ze)))))))),?_⟩
  have ae:=bGe;have l2:∀x y:V,[x,y].length<=sizeLine:=fun x y=>by rw[sizeLine_eq];show 2<=_;decide
  refine⟨_,rfl,_,rfl,(by rw[ae];omega),(by rw[ae];omega),Jk (fun i zs H1=>∃D:List Addr,zs=D.map V.ref/\D.length=i/\Ov H H1 D (zah N)) ⟨[],rfl,rfl,zar,(fun p d e=>by simp at e),u5 _⟩ ?_ ?_⟩
  ·rintro i zs H1 hi ⟨D,rfl,ld,ov⟩
   have ba:=rp.same ov.sm;have i0:(0:Int)+(i:Int)=(i:Int):=Int.zero_add _;rw[i0];refine⟨rfl,_,rfl,t,rfl,ht.elim (fun hL=>.inl ⟨⟨_,ov.sm.seq hL⟩,qQ (K:=K) (a:=t) (xs:=xs) (fun j ys U=>PrsL U ys (dkB (((N.take j).filter fun q=>decide (q.2=(i:Int))).map (·.1)))/\Same H1 U) ⟨PrsL.nil,u5 _⟩ (fun j ys U ⟨_,M⟩=>(ov.sm.trans M).seq hL) ?s1 ?e1⟩)
    (fun hT=>.inr ⟨⟨_,ov.sm.sqT hT⟩,j6 (K:=K) (a:=t) (xs:=xs) (fun j ys U=>PrsL U ys (dkB (((N.take j).filter fun q=>decide (q.2=(i:Int))).map (·.1)))/\Same H1 U) ⟨PrsL.nil,u5 _⟩ (fun j ys U ⟨_,M⟩=>(ov.sm.trans M).sqT hT) ?s2 ?e2⟩)⟩
   case s1 | s2=>
    rintro j x ys U hx ⟨pr,M⟩;obtain⟨dd,e1,r1⟩:=(ba.same M).get hx;rw[zZ] at e1;obtain⟨q,eq,rfl⟩:=qE.mp e1;obtain⟨a,ws,rfl,qa,x1,bg,rfl,e2,x2,bh,rfl,e3,e4⟩:=r1;cases e2;cases e3;cases e4;have hj:=(zC.mp eq).1;rw[XA eq,xT,zP];refine⟨a,_,rfl,qa,rfl,_,_,rfl,_,_,rfl,rfl,rfl,_,rfl,_,rfl,rfl,_,rfl,?_⟩
    by_cases c:q.2=(i:Int)
    ·refine ifT (by show decide (V.int q.2=V.int (i:Int))=true;rw[c];exact zV rfl) ⟨_,rfl,l2 _ _,fun T hT=>⟨?_,?_,M.trans (zb hT)⟩⟩
     ·have:=pr.1
      have:=qV (fun q:Int×Int=>decide (q.2=(i:Int))) (N.take j)
      rw[QT,zn] at *
      rw[qm] at this;omega
     ·rw[vM,zv (zV c)]
      have e:∀a b,dkB (a++b)=dkB a++dkB b:=fun a b=>zP
      rw[e];exact(pr.same (zb hT)).snoc (k:=Sum.inl q.1) zd
    ·refine ifF (by show decide (V.int q.2=V.int (i:Int))=false;exact jd fun z=>c (V.int.inj z)) ⟨?_,M⟩
     rw[vM,zu (by simpa using c)]
     simpa using pr
   case e1 | e2=>
    rintro ys U ⟨pr,M⟩;rw[lx,qz] at pr;have ly:ys.length<=1000:=by
     have:=pr.1;have:=qV (fun q:Int×Int=>decide (q.2=(i:Int))) N
     rw[QT,zn] at *
     omega
    refine⟨by omega,fun l hl=>⟨l,ys,_,rfl,zd,pr.same (zb hl),fun d hd=>⟨by rw[zn];omega,D++[d],by rw[zP];rfl,by rw[qo,ld];rfl,?_⟩⟩⟩
    have dl:d≠l:=fun z=>by rw[z,zd] at hd;cases hd
    have d2:U d=none:=by rw[zp dl] at hd;exact hd
    refine ov.snoc (d:=d) ((M.trans (zb hl)).trans (zb hd)) ?_ ?_
    ·cases z:H1 d with
     | none=>rfl
     | some o'=>rw[M _ _ z] at d2;cases d2
    ·rw[zd,ld]
     have:(jL [] (dkB ((N.filter fun q=>decide (q.2=(i:Int))).map (·.1))))=dkB (zah N i):=Qi _ []
     rw[this]
  ·rintro zs H1 ⟨D,rfl,ld,ov⟩
   rw[jR] at ld;have lr:(D.map V.ref).length=n:=by rw[zn];exact ld
   refine⟨by omega,fun F hF=>?_⟩
   have F0:H F=none:=by
    cases z:H F with
    | none=>rfl
    | some o'=>rw[ov.sm _ _ z] at hF;cases hF
   refine⟨7,rfl,(by decide),(by decide),j5 (fun t' σ U=>Ex4 fun(v3 v4 v5:Option V) (κ:Nat->List Int)=>An5 (σ=[some (.int n),some (.ref t),some (.ref F),v3,v4,v5]) (U F=some (.lst (D.map V.ref))) (Ov H U D κ) (za0 N κ) (∀x<n,zgV N κ (2^t') x))
    ⟨_,_,_,zah N,rfl,zd,ov.same (zb hF),zkv N,fun x _=>zkw N x⟩ ?_ ?_⟩
   ·rintro t' σ U bd ⟨v3,v4,v5,κ,rfl,af,aa,g2,f2⟩
    refine⟨_,rfl,_,rfl,(by rw[ae];omega),(by rw[ae];omega),j5 (fun p σ H3=>Ex3 fun(v4 v5:Option V) (C:Nat->List Int)=>An6 (σ=[some (.int n),some (.ref t),some (.ref F),some (.int (0+(t':Int))),v4,v5]) (H3 F=some (.lst (D.map V.ref))) (Ov H H3 D C) (za0 N C) ((∀x q,q∈κ x->q∈C x)) (∀x<p,zgV N C (2^(t'+1)) x))
     ⟨_,_,κ,rfl,af,aa,g2,fun _ _ h=>h,fun x hx=>absurd hx (zaw _)⟩ ?_ ?_⟩
    ·rintro p σ H3 hp ⟨v4,v5,C,rfl,ac,ai,g3,a0,f3⟩
     rw[jR] at hp;have i0:(0:Int)+(p:Int)=(p:Int):=Int.zero_add _;rw[i0];have ed:D[p]? =some (D[p]'(by omega)):=jh _
     generalize D[p]'(by omega)=d at ed
     obtain⟨d0,an⟩:=ai.at_ p d ed;refine⟨_,rfl,_,rfl,F,_,_,_,rfl,rfl,u4 ac,VT ed,d,_,rfl,.inl an,fun L hL=>⟨L,rfl,⟨_,u4 zd⟩,?_⟩⟩
     have em:(dkB (C p)).map (fun kv=>kV kv.1)=(C p).map V.int:=by
      unfold dkB;rw[j9];rfl
     rw[em];have Ld:L≠d:=fun z=>by rw[z,an] at hL;cases hL
     refine jW (K:=K) (a:=L) (xs:=(C p).map V.int) (fun i σ H4=>Ex2 fun(v5:Option V) (O:List Int)=>An7 (σ=[some (.int n),some (.ref t),some (.ref F),some (.int (0+(t':Int))),some (.int (p:Int)),v5]) (H4 F=some (.lst (D.map V.ref))) (H4 L=some (.lst ((C p).map V.int))) (Ov H H4 D (fun x=>if x=p then O else C x)) (za0 N (fun x=>if x=p then O else C x)) ((∀q∈C p,q∈O)) (∀o∈(C p).take i,∀q∈C o.toNat,q∈O))
      ⟨_,C p,rfl,(zb hL) _ _ ac,zd,?_,?_,fun _ h=>h,fun o ho=>absurd ho (by simp)⟩ (fun i σ H' _ ⟨_,_,_,_,h,_,_,_,_⟩=>u4 h) ?_ ?_
     ·have:(fun x=>if x=p then C p else C x)=C:=funext fun x=>by by_cases c:x=p<;>simp[c]
      rw[this];exact ai.same (zb hL)
     ·have:(fun x=>if x=p then C p else C x)=C:=funext fun x=>by by_cases c:x=p<;>simp[c]
      rw[this];exact g3
     ·rintro i x σ H4 hx ⟨v5,O,rfl,Y,ak,ab,g4,a4,b4⟩
      rw[zZ] at hx;obtain⟨o,eo,rfl⟩:=qE.mp hx;have mo:o∈C p:=qr eo;obtain⟨k1,ax,av⟩:=(g3 p).2 o mo;obtain⟨o0,o1⟩:=Wk.in1 ah ax av;have oi:((o.toNat:Nat):Int)=o:=by omega
      have aj:o.toNat≠p:=fun z=>by
       have:=av.rank au;rw[z] at oi;rw[oi] at this;omega
      have ee:D[o.toNat]? =some (D[o.toNat]'(by omega)):=jh _
      generalize D[o.toNat]'(by omega)=e at ee
      have ag:=(ab.at_ p d ed).2;have ap:=(ab.at_ o.toNat e ee).2;rw[zv rfl] at ag;rw[zu aj] at ap;have az:d≠e:=fun z=>by
       subst z;obtain⟨h1,h2⟩:=zC.mp ed;obtain⟨h3,h4⟩:=zC.mp ee;exact aj ((Qr ab.nd).mp (h4.trans h2.symm))
      have ao:=VT ee;rw[oi] at ao;have aq:∀(κ:Nat->List Int),za0 N κ->∀x,(κ x).length<=60:=fun κ g x=>by
       have:=yp (n:=n) (g x).1 fun q hq=>let ⟨k,h1,w⟩:=(g x).2 q hq;Wk.in1 ah h1 w
       omega
      have l1:=aq _ g4 p;rw[zv rfl] at l1;have l2:=aq _ g3 o.toNat;have LF:L≠F:=fun z=>by rw[z,ac] at hL;cases hL
      have Fd:F≠d:=fun z=>by rw[z,ag] at Y;cases Y
      refine⟨_,rfl,_,rfl,F,_,_,_,rfl,rfl,u4 Y,VT ed,d,rfl,.inl ⟨_,.inl ag⟩,_,rfl,_,rfl,F,_,_,_,rfl,rfl,u4 Y,ao,e,_,_,rfl,az,ag,ap,by rw[QT,QT];omega,?_⟩
      rw[Qi];have ef:(fun x=>if x=p then ZG O (C o.toNat) else(fun x=>if x=p then O else C x) x)=fun x=>if x=p then ZG O (C o.toNat) else C x:=funext fun x=>by by_cases c:x=p<;>simp[c]
      have eg:(fun x=>if x=p then ZG ((fun x=>if x=p then O else C x) p) ((fun x=>if x=p then O else C x) o.toNat) else(fun x=>if x=p then O else C x) x)=fun x=>if x=p then ZG O (C o.toNat) else C x:=funext fun x=>by by_cases c:x=p<;>simp[c,aj]
      refine⟨_,ZG O (C o.toNat),rfl,by rw[zp Fd];exact Y,by rw[zp Ld];exact ak,?_,?_,fun q hq=>wz.mpr (.inl (a4 q hq)),fun z hz q hq=>?_⟩
      ·have:=ab.upd ed (ZG O (C o.toNat))
       rw[ef] at this;exact this
      ·have:=zgC (p:=p) (o:=o.toNat) g4 (by rw[zv rfl,oi];exact a4 o mo)
       rw[eg] at this;exact this
      ·rw[XA eo] at hz
       rcases qU.mp hz with h | h
       ·exact wz.mpr (.inl (b4 z h q hq))
       ·rw[qD.mp h] at hq
        exact wz.mpr (.inr hq)
     ·rintro σ H4 ⟨v5,O,rfl,Y,ak,ab,g4,a4,b4⟩
      rw[zn,qz] at b4;refine⟨_,_,_,rfl,Y,ab,g4,fun x q hq=>?_,fun x hx=>?_⟩
      ·show q∈(if x=p then O else C x)
       by_cases c:x=p
       ·rw[zv c]
        subst c;exact a4 q (a0 x q hq)
       ·rw[zu c]
        exact a0 x q hq
      ·by_cases c:x=p
       ·subst c
        intro q k h1 h2 wk;show q∈(if x=x then O else C x)
        rw[zv rfl];exact zda ah f2 hp a0 a4 b4 q k h1 (by rw[Nat.pow_succ,Nat.mul_comm] at h2;exact h2) wk
       ·have:=f3 x (by omega)
        intro q k h1 h2 wk;show q∈(if x=p then O else C x)
        rw[zu c];exact this q k h1 h2 wk
    ·rintro σ H3 ⟨v4,v5,C,rfl,ac,ai,g3,a0,f3⟩
     rw[jR] at f3;exact⟨_,_,_,C,rfl,ac,ai,g3,f3⟩
   ·rintro σ U ⟨v3,v4,v5,κ,rfl,af,aa,g2,f2⟩
    have all:∀(p:Nat),p<n->∀j,j∈κ p↔∃k,1<=k/\Wk N k j p:=fun p hp j=>⟨fun h=>(g2 p).2 j h,fun ⟨k,h1,wk⟩=>f2 p hp j k h1 (by have:=wk.rank au;have:=ar (p:Int);show k<=128;omega) wk⟩
    refine⟨_,rfl,F,rfl,⟨_,u4 af⟩,qQ (K:=K) (a:=F) (xs:=D.map V.ref) (fun i zs H3=>Ex1 fun(J:List (List Int))=>An4 (J.length=i) (Rws H H3 J zs) (Same U H3) (∀p ms,J[p]? =some ms->ms.Pairwise (·< ·)/\∀j,j∈ms↔j∈κ p)) ⟨[],rfl,⟨rfl,fun p ms e=>by simp at e⟩,u5 _,fun p ms e=>by simp at e⟩ (fun i zs H3 ⟨_,_,_,M,_⟩=>u4 (M _ _ af)) ?_ ?_⟩
    ·rintro i x zs H3 hx ⟨J,lm,rm,M,am⟩
     rw[zZ] at hx;obtain⟨d,ed,rfl⟩:=qE.mp hx;have hi:=(zC.mp ed).1;have hd:=M _ _ (aa.at_ i d ed).2;have lk:(κ i).length<=60:=by
      have:=yp (n:=n) (g2 i).1 fun q hq=>let ⟨k,h1,w⟩:=(g2 i).2 q hq;Wk.in1 ah h1 w
      omega
     have ek:dkB (κ i)=((κ i).map fun j=>(j,V.bl true)).map fun kv=>(Sum.inl kv.1,kv.2):=by unfold dkB;rw[j9];rfl
     have aw:((κ i).map fun j=>(j,V.bl true)).map (·.1)=κ i:=by rw[j9];exact List.map_id'' (fun _=>rfl) _
     refine⟨rfl,_,rfl,d,(κ i).map fun j=>(j,V.bl true),rfl,.inl (by rw[<- ek];exact hd),by rw[zn];omega,fun l ms hl pm pw=>⟨?_,J++[ms],by rw[qo,lm];rfl,?_,M.trans (zb hl),fun p ay e=>?_⟩⟩
     ·have:=rm.1
      omega
     ·exact(rm.same (zb hl)).snoc ((aa.sm.trans M).free hl) zd
     ·rw[aw] at pm
      by_cases c:p<J.length
      ·rw[yc c] at e
       exact am p ay e
      ·rw[wC (by omega)] at e
       have:p=J.length:=by
        have:=(zC.mp e).1;simp at this;omega
       subst this;simp at e;subst e;rw[lm];exact⟨zgX pm (g2 i).1 pw,fun j=>pm.mem_iff⟩
    ·rintro zs H3 ⟨J,lm,rm,M,am⟩
     rw[lr] at lm;have lz:=rm.1;refine⟨by omega,fun l hl=>k l J _ ((aa.sm.trans M).trans (zb hl)) ?_ ⟨zs,zd,rm.same (zb hl)⟩ lm fun p ms e=>?_⟩
     ·cases z:H l with
      | none=>rfl
      | some o'=>rw[(aa.sm.trans M) _ _ z] at hl;cases hl
     ·have hp:=(zC.mp e).1
      obtain⟨a,b⟩:=am p ms e;exact⟨a,fun j=>by rw[b j,all p (by omega) j]⟩
theorem Same.none{H b:Hp}{t:Addr}(s:Same H b)(h:b t=Option.none):H t=Option.none:=s.free h
theorem jA(os:List Nat)(n:Nat):zt (os++[n])=zt os++[.int (n:Int)]:=by
 unfold zt;rw[zP];rfl
theorem xW{H:Hp}{J:Job}{A:Addr}(h:Rep K H (xQ J) (.ref A)):∃(g fs c b:Addr) (s pv:List V),SqT K H A [.ref g,.int J.hd,.ref fs,.ref c,.ref b]/\Rep K H (.tup [.int J.gx,.int J.gy]) (.ref g)/\SqT K H fs s/\Reps K H (J.fs.map wW) s/\SqT K H c pv/\Reps K H (J.ps.map vI) pv/\Rep K H (Z5 J.as) (.ref b):=by
 obtain⟨a,xs,e,q,x0,r0,D,h0,x1,r1,e1,h1,x2,r2,e2,h2,x3,r3,E,Y,x4,r4,L,h4,M⟩:=h;cases e;subst D e1 e2 E L;have f:r4=[]:=M;subst f;have l:x1=.int J.hd:=h1;subst l;obtain⟨g,U,rfl,T⟩:=h0;obtain⟨fs,Q,rfl,N,O⟩:=h2;obtain⟨c,px,rfl,pq,pr⟩:=Y;obtain⟨b,C,rfl,B⟩:=h4;exact⟨g,fs,c,b,Q,px,q,⟨g,U,rfl,T⟩,N,O,pq,pr,⟨b,C,rfl,B⟩⟩
theorem zf7{a b:List Int}(h:a.Perm b)(c:a.Pairwise (·<= ·))(hb:b.Pairwise (·<= ·)):a=b:=by
 induction a generalizing b with
 | nil=>exact(List.Perm.nil_eq h)
 | cons x a f=>
  cases b with
  | nil=>exact absurd h.length_eq (by simp)
  | cons y b=>
   rw[V6] at c hb;have g:x=y:=by
    have h1:y∈x::a:=h.mem_iff.mpr jm;have h2:x∈y::b:=h.mem_iff.mp jm;rcases qe.mp h1 with z | z
    ·exact z.symm
    ·rcases qe.mp h2 with u | u
     ·exact u
     ·have:=c.1 y z
      have:=hb.1 x u;omega
   subst g;rw[f (List.Perm.cons_inv h) c.2 hb.2]
theorem at2{x y z:V}{r:List V}:atI (x::y::z::r) 2=some z:=qK (j:=2) rfl
theorem at3{x y z u:V}{r:List V}:atI (x::y::z::u::r) 3=some u:=qK (j:=3) rfl
theorem at1{x y:V}{r:List V}:atI (x::y::r) 1=some y:=qK (j:=1) rfl
theorem zcB{κ:Type}[DecidableEq κ](c b:List κ)(k:κ):vZ c (b++[k])=xU (vZ c b) k:=by unfold vZ;rw[zaD];rfl
structure TripV(J:Job)(t:zS):Prop where
 p1:1<=t.pk.length
 p2:(t.pk.length:Int)<=J.hd
 ok:∀p∈t.pk,p.1<J.ps.length/\p.2<J.fs.length
 ly:t.ly.Perm (t.pk.map (·.1))
 nd:(t.pk.map (·.1)).Nodup
theorem QZ{κ:Type}[DecidableEq κ]:∀(l b:List κ),(b++l).Nodup->vZ b l=b++l
 | [],b,_=>(jn b).symm
 | k::l,b,h=>by
  have hk:k∉b:=fun z=>by
   have:=(ZA.mp h).2.2 k z k jm;exact this rfl
  show vZ (xU b k) l=_;rw[show xU b k=b++[k] from zu hk,QZ l (b++[k]) (by rw[yG];exact h),yG]
  rfl
theorem TripV.le{J:Job}{t:zS}(h:TripV J t):t.ly.length=t.pk.length:=by rw[h.ly.length_eq,zn]
def nI(l:List Nat):List Int:=l.map fun k:Nat=>(k:Int)
theorem vC(l:List Nat):zt l=(nI l).map V.int:=by
 unfold zt nI;rw[j9];rfl
theorem jZ{H:Hp}{t:zS}{x:V}(h:Rep K H (jH t) x):∃a b c f g,x=.ref a/\SqT K H a [.ref b,.ref c]/\SqT K H b f/\Reps K H (t.pk.map jJ) f/\SqT K H c g/\Reps K H (t.ly.map y4) g:=by
 obtain⟨a,L,rfl,s,M,J,l,h0,N,C,e1,h1,e2⟩:=h;subst l e1;cases(show C=[] from e2)
 obtain⟨b,f,rfl,A,D⟩:=h0;obtain⟨c,g,rfl,B,E⟩:=h1;exact⟨a,b,c,f,g,rfl,s,A,D,B,E⟩
theorem ZS{H:Hp}:∀{l:List Nat} {b:List V},Reps K H (l.map y4) b->b=zt l
 | [],_,h=>h
 | k::l,_,h=>by
  obtain⟨v,r,e,h1,h2⟩:=h;subst e;rw[ZS h2,show v=_ from h1]
  rfl
theorem VF{H:Hp}{J:Job}{A:Addr}(h:Rep K H (xQ J) (.ref A)):∃(g fs b c:Addr) (s pv:List V),SqT K H A [.ref g,.int J.hd,.ref fs,.ref b,.ref c]/\SqT K H fs s/\s.length=J.fs.length/\SqT K H b pv/\pv.length=J.ps.length:=by
 obtain⟨a,xs,e,q,x0,r0,D,h0,x1,r1,e1,h1,x2,r2,e2,h2,x3,r3,E,T,x4,r4,L,U,M⟩:=h;cases e;subst D e1 e2 E L;have f:r4=[]:=M;subst f;have l:x1=.int J.hd:=h1;subst l;obtain⟨g,gx,rfl,gq⟩:=h0;obtain⟨fs,Q,rfl,N,O⟩:=h2;obtain⟨b,px,rfl,pq,Y⟩:=T;obtain⟨c,ax,rfl,aq⟩:=U;have B:=O.len;have C:=Y.len;rw[zn] at B C;exact⟨g,fs,b,c,Q,px,q,N,B,pq,C⟩
inductive zbc(K:W.Frag)(b:List V)(H:Hp)(Q:VK):Prop
 | mk (i:Int) (_:b=[.int i]) (_:Q (.bl true) H):zbc K b H Q
def zg1(K:W.Frag):Sp:=fun b H Q _=>zbc K b H Q
theorem zhc:zD ["thing"] ["thing"] (zy (topL 1)):=u3
theorem zim{f:Addr}{c:FuncData}(F:Fun K "is_number" "is_number" (topL 1) f c)(B:Blt I):qY P w K I G CX0 1 f c ["thing"] (zg1 K):=by
 have D:=zhc.nd;refine F.ok zhc (fun l H Q E h=>?_) (fun g A b s H l Q E C h=>?_)
 ·obtain⟨i,rfl,_⟩:=h
  rfl
 ·obtain⟨i,rfl,k⟩:=h
  refine⟨_,(zo (zB (yo (zx yz rfl B.isinstance boot_isinstance (za (pv 0) (za (ZQ (v:=.ty "int") rfl B.int yB rfl) ze))) (wa (zh7 (zx yz rfl B.isinstance boot_isinstance (za (pv 0) (za (ZQ (v:=.ty "bool") rfl B.bool zdm rfl) ze)))))))),?_⟩
  exact⟨_,rfl,_, "int", "int",rfl,rfl,(by decide),_,rfl,ifT (by decide) ⟨_,rfl,_, "int", "bool",rfl,rfl,(by decide),_,rfl,k⟩⟩
inductive WE(K:W.Frag)(c:List V)(H:Hp)(Q:VK):Prop
 | mk (i lo b:Int) (_:c=[.int i,.int lo,.int b]) (_:lo<=i) (_:i<=b) (_:Q (.bl true) H):WE K c H Q
def Y3(K:W.Frag):Sp:=fun b H Q _=>WE K b H Q
theorem zjo:zD ["thing","least","most"] ["thing","least","most"] (zy (topL 2)):=u3
theorem zjV{f:Addr}{g:FuncData}(F:Fun K "is_number_within" "is_number_within" (topL 2) f g)(B:Blt I)(b:Dfn P w K I G "is_number" 1 ["thing"] (zg1 K)):qY P w K I G CX0 2 f g ["thing","least","most"] (Y3 K):=by
 have L:=zjo.nd;refine F.ok zjo (fun J H Q E h=>?_) (fun l A c s H J Q E D h=>?_)
 ·obtain⟨i,lo,C,rfl,_⟩:=h
  rfl
 ·obtain⟨i,lo,C,rfl,h1,h2,k⟩:=h
  refine⟨_,(zo (zB (yo (zk b D.m rfl (za (pv 0) ze)) (wa (zex zbE zbE (pv 1) (pv 0) (pv 2)))))),?_⟩
  refine⟨_,rfl,i,rfl,_,rfl,ifT rfl ⟨_,rfl,_,rfl,_,_,rfl,rfl,_,rfl,ifT (zV h1) ⟨_,rfl,_,_,rfl,rfl,?_⟩⟩⟩
  rw[zV h2];exact k
inductive za4(K:W.Frag)(b:List V)(H:Hp)(Q:VK):Prop
 | mk (a:Addr) (c:List V) (_:b=[.ref a,.int (c.length:Int)]) (_:SqT K H a c) (_:Q (.bl true) H):za4 K b H Q
def za5(K:W.Frag):Sp:=fun b H Q _=>za4 K b H Q
theorem zjs:zD ["thing","many"] ["thing","many"] (zy (topL 4)):=u3
theorem zjZ{f:Addr}{c:FuncData}(F:Fun K "is_tuple_of" "is_tuple_of" (topL 4) f c)(B:Blt I):qY P w K I G CX0 1 f c ["thing","many"] (za5 K):=by
 have J:=zjs.nd;refine F.ok zjs (fun C H Q E h=>?_) (fun l A b s H C Q E D h=>?_)
 ·obtain⟨a,g,rfl,_⟩:=h
  rfl
 ·obtain⟨a,g,rfl,q,k⟩:=h
  refine⟨_,(zo (zB (yo (zx yz rfl B.isinstance boot_isinstance (za (pv 0) (za (ZQ (v:=.ty "tuple") rfl B.tuple jM rfl) ze))) (wa (qW j8 (zx zI rfl B.len boot_len (za (pv 0) ze)) (pv 1) (zL _)))))),?_⟩
  refine⟨_,rfl,_, "tuple", "tuple",rfl,.inr ⟨rfl,_,q⟩,(by decide),_,rfl,ifT (by decide) ⟨_,rfl,a,g,rfl,.inr q,_,rfl,rfl,?_⟩⟩
  rw[zV rfl];exact k
inductive WF(K:W.Frag)(b:List V)(H:Hp)(Q:VK):Prop
 | mk (a:Addr) (c:List V) (m:Int) (_:b=[.ref a,.int m]) (_:SqT K H a c) (_:(c.length:Int)<=m) (_:Q (.bl true) H):WF K b H Q
def zdF(K:W.Frag):Sp:=fun b H Q _=>WF K b H Q
theorem zjq:zD ["thing","most"] ["thing","most"] (zy (topL 5)):=u3
theorem zjX{f:Addr}{c:FuncData}(F:Fun K "is_tuple_upto" "is_tuple_upto" (topL 5) f c)(B:Blt I):qY P w K I G CX0 1 f c ["thing","most"] (zdF K):=by
 have L:=zjq.nd;refine F.ok zjq (fun D H Q E h=>?_) (fun l A b s H D Q E J h=>?_)
 ·obtain⟨a,g,m,rfl,_⟩:=h
  rfl
 ·obtain⟨a,g,m,rfl,q,C,k⟩:=h
  refine⟨_,(zo (zB (yo (zx yz rfl B.isinstance boot_isinstance (za (pv 0) (za (ZQ (v:=.ty "tuple") rfl B.tuple jM rfl) ze))) (wa (qW zbE (zx zI rfl B.len boot_len (za (pv 0) ze)) (pv 1) (zL _)))))),?_⟩
  refine⟨_,rfl,_, "tuple", "tuple",rfl,.inr ⟨rfl,_,q⟩,(by decide),_,rfl,ifT (by decide) ⟨_,rfl,a,g,rfl,.inr q,_,rfl,_,_,rfl,rfl,?_⟩⟩
  rw[zV C];exact k
inductive WM(K:W.Frag)(c:List V)(H:Hp)(Q:VK):Prop
 | mk (b a:Addr) (J:Job) (p:Nat×Nat) (_:c=[.ref b,.ref a]) (_:Rep K H (xQ J) (.ref b)) (_:SqT K H a [.int (p.1:Int),.int (p.2:Int)]) (_:p.1<J.ps.length) (_:p.2<J.fs.length) (_:Q (.bl true) H):WM K c H Q
def zdM(K:W.Frag):Sp:=fun b H Q _=>WM K b H Q
theorem zd9:zD ["job","thing","part","feeder"] ["job","thing"] (zy (topL 26)):=u3
theorem zgl{f:Addr}{L:FuncData}(F:Fun K "is_pick" "is_pick" (topL 26) f L)(B:Blt I)(c:Dfn P w K I G "is_tuple_of" 1 ["thing","many"] (za5 K))(b:Dfn P w K I G "is_number_within" 2 ["thing","least","most"] (Y3 K)):qY P w K I G CX0 3 f L ["job","thing"] (zdM K):=by
 have M:=zd9.nd;refine F.ok zd9 (fun vs H Q E h=>?_) (fun T A D s H vs Q E l h=>?_)
 ·obtain⟨C,a,J,p,rfl,_⟩:=h
  rfl
 ·obtain⟨C,a,J,p,rfl,rj,N,l1,l2,k⟩:=h
  obtain⟨g,fs,U,as,fv,px,O,Y,lf,qp,lp⟩:=VF rj;refine⟨_,(zf (jB (vn (xf (zk c l.m rfl (za (pv 1) (za zi ze)))))
   (zo (zB vd))
   qF)
   (zf (jQ (pv 1) (qL rfl (zr (zq (i:=2) M rfl (Or.inl rfl)) (zr (zq (i:=3) M rfl (Or.inl rfl)) qk))))
   (zo (zB (yo (zk b l.m rfl (za (pv 2) (za zi (za (zM vJ (zx zI rfl B.len boot_len (za (zF je (pv 0) zi (fun _ _=>rfl)) ze)) zi) ze)))) (wa (zk b l.m rfl (za (pv 3) (za zi (za (zM vJ (zx zI rfl B.len boot_len (za (zF je (pv 0) zi (fun _ _=>rfl)) ze)) zi) ze)))))))))),?_⟩
  refine⟨_,rfl,a,_,rfl,N,_,rfl,ifF (by decide) ?_⟩
  refine⟨_,rfl,a,_,rfl,N,rfl,_,_,rfl,_,_,rfl,rfl,?_⟩
  refine⟨_,rfl,_,rfl,C,_,_,_,rfl,rfl,O,at3,U,_,rfl,.inr qp,_,_,rfl,rfl,_,_,_,rfl,zaJ _,by omega,?_⟩
  exact⟨_,rfl,ifT rfl ⟨_,rfl,_,rfl,C,_,_,_,rfl,rfl,O,at2,fs,_,rfl,.inr Y,_,_,rfl,rfl,_,_,_,rfl,zaJ _,by omega,k⟩⟩
inductive XM(K:W.Frag)(f:List V)(H:Hp)(Q:VK):Prop
 | mk (c a:Addr) (J:Job) (g:List V) (t:zS) (_:f=[.ref c,.ref a]) (_:Rep K H (xQ J) (.ref c)) (_:SqT K H a g) (_:Reps K H (t.pk.map jJ) g) (_:TripV J t) (_:J.hd<=4) (_:∀b,Same H b->Q (.bl true) b):XM K f H Q
def zba(K:W.Frag):Sp:=fun b H Q _=>XM K b H Q
theorem zbp:zD ["job","thing"] ["job","thing"] (zy (topL 27)):=u3
theorem zeL{f:Addr}{fd:FuncData}(F:Fun K "are_picks" "are_picks" (topL 27) f fd)(B:Blt I)(b:Dfn P w K I G "is_tuple_upto" 1 ["thing","most"] (zdF K))(c:Dfn P w K I G "is_pick" 3 ["job","thing"] (zdM K)):qY P w K I G CX0 4 f fd ["job","thing"] (zba K):=by
 have nd:=zbp.nd;refine F.ok zbp (fun vs H Q E h=>?_) (fun ac A aa s H vs Q E hr h=>?_)
 ·obtain⟨jp,a,J,l,t,rfl,_⟩:=h
  rfl
 ·obtain⟨jp,a,J,l,t,rfl,rj,C,rx,tv,ae,k⟩:=h
  obtain⟨g,fs,ps,as,fv,px,qj,qf,lf,qp,lp⟩:=VF rj;have ab:=bG1000000;have lx:=rx.len;rw[zn] at lx;have p1:=tv.p1;have p2:=tv.p2;refine⟨_,(zf (jB (PW.pt (W0 (vn (xf (zk b hr.m rfl (za (pv 1) (za (zF je (pv 0) zi (fun _ _=>rfl)) ze))))) (Jb (zG j8 (zx zI rfl B.len boot_len (za (pv 1) ze)) zi (zL _)))))
   (zo (zB vd))
   qF)
   (zf (jB (vn (xf (zx (xY rfl) rfl B.all boot_all (za (jv ["job"] [0] rfl rfl (by kernel_rfl) (xg (pv 1)) (fun _ _ _ _=>qS) (fun _ _ _ _=>(zk c hr.m rfl (za (pv 1) (za (pv 0) ze))))) ze))))
   (zo (zB vd))
   qF)
   (zo (zB (qW j8 (zx zdl rfl B.len boot_len (za (zh6 [] [] rfl rfl (by kernel_rfl) (xg (pv 1)) (fun _ _ _ _=>qS) (fun _ _ _ _=>(pv 0))) ze)) (zx zI rfl B.len boot_len (za (pv 1) ze)) (zL _)))))),?_⟩
  refine⟨_,rfl,_,rfl,jp,_,_,_,rfl,rfl,qj,at1,a,l,_,rfl,C,by omega,_,rfl,ifF (by decide) ?_⟩
  refine⟨_,rfl,a,l,rfl,.inr C,rfl,_,rfl,ifF (jd fun z=>by have:=V.int.inj z;omega) ?_⟩
  refine⟨_,rfl,a,rfl,⟨_,C⟩,j6 (K:=K) (a:=a) (xs:=l) (fun i zs N=>zs=List.replicate i (V.bl true)/\Same H N) ⟨rfl,u5 _⟩ (fun i zs N ⟨_,s1⟩=>s1.sqT C) ?_ ?_⟩
  ·rintro i x zs N hx ⟨rfl,s1⟩
   obtain⟨d,T,rd⟩:=(rx.same s1).get hx;rw[zZ] at T;obtain⟨p,U,rfl⟩:=qE.mp T;obtain⟨pp,rfl,L⟩:=qv rd;have il:=(zC.mp U).1;have Y:=tv.ok p (qr U);exact⟨rfl,_,rfl,_,rfl,jp,pp,J,p,rfl,rj.same s1,L,Y.1,Y.2,by rw[vy];omega,by rw[ZD],s1⟩
  rintro zs N ⟨rfl,s1⟩;refine⟨by rw[vy];omega,fun D hD=>⟨D,List.replicate l.length true,rfl,u4 (by rw[zd,JS]),?_⟩⟩
  have s2:=s1.trans (zb (o:=.lst (List.replicate l.length (V.bl true))) hD);generalize upd N D (.lst (List.replicate l.length (V.bl true)))=H2 at s2;refine⟨_,rfl,ifF (by simp) ?_⟩
  refine⟨_,rfl,a,rfl,⟨_,s2.sqT C⟩,zhO (K:=K) (a:=a) (xs:=l) (fun i ks O=>ks=vZ [] (((t.pk.take i).map fun p=>(p.1:Int)).map Sum.inl:List Key)/\Same H2 O) ⟨rfl,u5 _⟩ (fun i ks O ⟨_,M⟩=>(s2.trans M).sqT C) ?_ ?_⟩
  ·rintro i x ks O hx ⟨rfl,M⟩
   obtain⟨d,T,rd⟩:=(rx.same (s2.trans M)).get hx;rw[zZ] at T;obtain⟨p,U,rfl⟩:=qE.mp T;obtain⟨pp,rfl,L⟩:=qv rd;have il:=(zC.mp U).1;refine⟨pp,_,rfl,L,rfl,_,_,rfl,_,_,rfl,rfl,rfl,?_⟩
   have:=Q0 (((t.pk.take i).map fun p=>(p.1:Int)).map Sum.inl:List Key) []
   rw[zn,zn,qm,Zv] at this;refine⟨_,rfl,Sum.inl (p.1:Int),rfl,by omega,?_,M⟩
   rw[zR U,zP,zP];exact(zcB _ _ _).symm
  rintro ks O ⟨rfl,M⟩;rw[lx,qz];intro D2 a0;have e1:(t.pk.map fun p:Nat×Nat=>(p.1:Int)).Nodup:=V3.mpr ((V3.mp tv.nd).imp fun z y=>z (Ql y))
  have e0:(([]:List Key)++((t.pk.map fun p:Nat×Nat=>(p.1:Int)).map Sum.inl:List Key)).Nodup:=V3.mpr (e1.imp fun z y=>z (x6 y))
  have el:(vZ [] ((t.pk.map fun p=>(p.1:Int)).map Sum.inl:List Key)).length=l.length:=by rw[QZ _ [] e0,yL,zn,zn,lx]
  refine⟨D2,_,rfl,zd,?_⟩
  have s4:=(s2.trans M).trans (zb (H:=O) (o:=Xj P w D2 (vZ [] ((t.pk.map fun p=>(p.1:Int)).map Sum.inl:List Key))) a0)
  refine⟨_,rfl,a,l,rfl,.inr (s4.sqT C),rfl,?_⟩
  rw[el,zV rfl];exact k _ s4
inductive WP(K:W.Frag)(g:List V)(H:Hp)(Q:VK):Prop
 | mk (f a b:Addr) (J:Job) (l:List V) (t:zS) (_:g=[.ref f,.ref a,.ref b]) (_:Rep K H (xQ J) (.ref f)) (_:SqT K H a (zt t.ly)) (_:SqT K H b l) (_:Reps K H (t.pk.map jJ) l) (_:TripV J t) (_:J.hd<=4) (_:∀c,Same H c->Q (.bl true) c):WP K g H Q
def zdT(K:W.Frag):Sp:=fun b H Q _=>WP K b H Q
theorem zec:zD ["job","thing","picks"] ["job","thing","picks"] (zy (topL 28)):=u3
theorem zgo{f:Addr}{fd:FuncData}(F:Fun K "are_lays" "are_lays" (topL 28) f fd)(B:Blt I)(l:Dfn P w K I G "is_tuple_of" 1 ["thing","many"] (za5 K))(c:Dfn P w K I G "is_number_within" 2 ["thing","least","most"] (Y3 K)):qY P w K I G CX0 4 f fd ["job","thing","picks"] (zdT K):=by
 have nd:=zec.nd;refine F.ok zec (fun vs H Q E h=>?_) (fun ae A aa s H vs Q E hr h=>?_)
 ·obtain⟨jp,a,b,J,M,t,rfl,_⟩:=h
  rfl
 ·obtain⟨jp,a,b,J,M,t,rfl,rj,T,qb,rx,Y,af,k⟩:=h
  obtain⟨g,fs,ps,as,fv,px,qj,qf,lf,qp,lp⟩:=VF rj;have ac:=bG1000000;have lx:=rx.len;rw[zn] at lx;have p2:=Y.p2;have le:=Y.le;have hu:=hr.units0;have ln:(zt t.ly).length=M.length:=by rw[zA];omega
  refine⟨_,(zf (jB (vn (xf (zk l hr.m rfl (za (pv 1) (za (zx zI rfl B.len boot_len (za (pv 2) ze)) ze)))))
   (zo (zB vd))
   qF)
   (zf (jB (vn (xf (zx (xY rfl) rfl B.all boot_all (za (jv ["job"] [0] rfl rfl (by kernel_rfl) (xg (pv 1)) (fun _ _ _ _=>qS) (fun _ _ _ _=>(zk c hr.m rfl (za (pv 0) (za zi (za (zM vJ (zx (va (K:=K) rfl) rfl B.len boot_len (za (zF (qM (K:=K) rfl) (pv 1) zi (fun _ _=>rfl)) ze)) zi) ze)))))) ze))))
   (zo (zB vd))
   qF)
   (zo (zB (qW (zge hu) (zx Xm rfl B.sorted jK (za (pv 1) ze)) (zx xn rfl B.sorted jK (za (xh [] [] rfl rfl (by kernel_rfl) (xg (pv 2)) (fun _ _ _ _=>qS) (fun _ _ _ _=>(pv 0))) ze)) (zL _)))))),?_⟩
  refine⟨_,rfl,_,rfl,b,M,rfl,.inr qb,a,zt t.ly,by rw[ln];rfl,T,_,rfl,ifF (by decide) ?_⟩
  refine⟨_,rfl,a,rfl,⟨_,T⟩,j6 (K:=K) (a:=a) (xs:=zt t.ly) (fun i C N=>C=List.replicate i (V.bl true)/\Same H N) ⟨rfl,u5 _⟩ (fun i C N ⟨_,s1⟩=>s1.sqT T) ?_ ?_⟩
  ·rintro i x C N hx ⟨rfl,s1⟩
   obtain⟨m,em,rfl⟩:=ww hx;have il:=(zC.mp em).1;have hm:m<J.ps.length:=by
    obtain⟨u,hu,rfl⟩:=zN.mp (Y.ly.mem_iff.mp (qr em));exact(Y.ok u hu).1
   exact⟨rfl,_,rfl,_,rfl,jp,_,_,_,rfl,rfl,s1.sqT qj,at3,ps,_,rfl,.inr (s1.sqT qp),_,_,rfl,rfl,_,_,_,rfl,zaJ _,by omega,by rw[vy];omega,by rw[ZD],s1⟩
  rintro C N ⟨rfl,s1⟩;refine⟨by rw[vy];omega,fun D hD=>⟨D,List.replicate (zt t.ly).length true,rfl,u4 (by rw[zd,JS]),?_⟩⟩
  have s2:=s1.trans (zb (o:=.lst (List.replicate (zt t.ly).length (V.bl true))) hD);generalize upd N D (.lst (List.replicate (zt t.ly).length (V.bl true)))=H2 at s2;refine⟨_,rfl,ifF (by simp) ?_⟩
  rw[vC] at T;refine⟨_,rfl,a,nI t.ly,rfl,s2.sqT T,by unfold nI;rw[zn];omega,fun p1 ms h1 m1 m2=>?_⟩
  have U:=s2.trans (zb (H:=H2) (o:=.lst (ms.map V.int)) h1);have P3:=zd (H:=H2) (a:=p1) (o:=.lst (ms.map V.int));generalize upd H2 p1 (.lst (ms.map V.int))=H3 at U P3;refine⟨_,rfl,b,rfl,⟨_,U.sqT qb⟩,j6 (K:=K) (a:=b) (xs:=M) (fun i C O=>C=zt ((t.pk.take i).map (·.1))/\Same H3 O) ⟨rfl,u5 _⟩ (fun i C O ⟨_,L⟩=>(U.trans L).sqT qb) ?_ ?_⟩
  ·rintro i x C O hx ⟨rfl,L⟩
   obtain⟨d,ed,rd⟩:=(rx.same (U.trans L)).get hx;rw[zZ] at ed;obtain⟨p,ep,rfl⟩:=qE.mp ed;obtain⟨pp,rfl,ab⟩:=qv rd;have il:=(zC.mp ep).1;refine⟨pp,_,rfl,ab,rfl,_,_,rfl,_,_,rfl,rfl,rfl,?_⟩
   refine⟨_,rfl,by rw[zA,zn,qm];omega,?_,L⟩
   rw[zR ep,zP];unfold zt;rw[zP];rfl
  rintro C O ⟨rfl,L⟩;rw[lx,qz,vC];refine⟨by unfold nI;rw[zn,zn,zn];omega,fun D2 a0=>?_⟩
  refine⟨D2,nI (t.pk.map (·.1)),rfl,u4 zd,by unfold nI;rw[zn,zn];omega,fun p2 ns h2 n1 n2=>?_⟩
  have s5:=(L.trans (zb (H:=O) (o:=.lst ((nI (t.pk.map (·.1))).map V.int)) a0)).trans (zb (o:=.lst (ns.map V.int)) h2)
  refine⟨p1,p2,ms,ns,rfl,rfl,u4 (s5 _ _ P3),u4 zd,?_⟩
  rw[zV (zf7 ((m1.trans (Y.ly.map _)).trans n1.symm) m2 n2)];exact k _ (U.trans s5)
inductive zbh(K:W.Frag)(f:List V)(H:Hp)(Q:VK):Prop
 | mk (c:Addr) (J:Job) (v:V) (t:zS) (_:f=[.ref c,v]) (_:Rep K H (xQ J) (.ref c)) (_:Rep K H (jH t) v) (_:TripV J t) (_:J.hd<=4) (_:∀b,Same H b->Q (.bl true) b):zbh K f H Q
def zg4(K:W.Frag):Sp:=fun b H Q _=>zbh K b H Q
theorem zhd:zD ["job","thing","picks","lays"] ["job","thing"] (zy (topL 29)):=u3
theorem zil{f:Addr}{O:FuncData}(F:Fun K "is_trip" "is_trip" (topL 29) f O)(B:Blt I)(g:Dfn P w K I G "is_tuple_of" 1 ["thing","many"] (za5 K))(l:Dfn P w K I G "are_picks" 4 ["job","thing"] (zba K))(C:Dfn P w K I G "are_lays" 4 ["job","thing","picks"] (zdT K)):qY P w K I G CX0 5 f O ["job","thing"] (zg4 K):=by
 have T:=zhd.nd;refine F.ok zhd (fun vs H Q E h=>?_) (fun a0 A N s H vs Q E L h=>?_)
 ·obtain⟨M,J,v,t,rfl,_⟩:=h
  rfl
 ·obtain⟨M,J,v,t,rfl,rj,rt,tv,D,k⟩:=h
  obtain⟨a,b,c,xs,ys,rfl,U,Y,rb,qc,rc⟩:=jZ rt;cases ZS rc;refine⟨_,(zf (jB (vn (xf (zk g L.m rfl (za (pv 1) (za zi ze)))))
   (zo (zB vd))
   qF)
   (zf (jQ (pv 1) (qL rfl (zr (zq (i:=2) T rfl (Or.inl rfl)) (zr (zq (i:=3) T rfl (Or.inl rfl)) qk))))
   (zo (zB (yo (zk l L.m rfl (za (pv 0) (za (pv 2) ze))) (wa (zk C L.m rfl (za (pv 0) (za (pv 3) (za (pv 2) ze)))))))))),?_⟩
  refine⟨_,rfl,a,_,rfl,U,_,rfl,ifF (by decide) ?_⟩
  refine⟨_,rfl,a,_,rfl,U,rfl,_,_,rfl,_,_,rfl,rfl,?_⟩
  refine⟨_,rfl,_,rfl,M,b,J,xs,t,rfl,rj,Y,rb,tv,D,fun H1 s1=>?_⟩
  exact⟨_,rfl,ifT rfl ⟨_,rfl,_,rfl,_,rfl,M,c,b,J,xs,t,rfl,rj.same s1,s1.sqT qc,s1.sqT Y,rb.same s1,tv,D,fun H2 s2=>k _ (s1.trans s2)⟩⟩
theorem wJ{k:Nat}{l:List Nat}:(k:Int)∈nI l↔k∈l:=by
 unfold nI;rw[zN];exact⟨fun ⟨a,h,e⟩=>by rw[<- Ql e];exact h,fun h=>⟨k,h,rfl⟩⟩
theorem zhs(z:Int)(l:List Nat):inV (.int z) (zt l)=decide (z∈nI l):=by
 induction l with
 | nil=>rfl
 | cons a r b=>
  have e1:inV (.int z) (zt (a::r))=(decide ((a:Int)=z)||inV (.int z) (zt r)):=by
   show(((a:Int)==z)||inV (.int z) (zt r))=_
   rw[show((a:Int)==z)=decide ((a:Int)=z) from rfl]
  rw[e1,b];unfold nI;rw[qO,xw,JP,xx,xx,xx,qe];exact or_congr_left ⟨Eq.symm,Eq.symm⟩
def UpA(J:Job)(p:Nat)(j:Int):Prop:=∃k,1<=k/\Wk (asI J) k j (p:Int)
def vA(b:List zS):List Nat:=(yk b).map (·.2)
theorem Ym{b:List zS}{i:Nat}{t:zS}(h:b[i]? =some t):zY (b.take (i+1))=zY (b.take i)++t.ly:=by rw[zR h,vh]
theorem zcH{b:List zS}{i:Nat}{t:zS}(h:b[i]? =some t):vA (b.take (i+1))=vA (b.take i)++t.pk.map (·.2):=by unfold vA;rw[zR h,Zk,zP]
theorem zbN{J:Job}:∀{ts:List zS},(∀t∈ts,TripV J t)->J.hd<=4->(zY ts).length<=4*ts.length/\(vA ts).length<=4*ts.length
 | [],_,_=>⟨zJ _,zJ _⟩
 | t::r,h,f=>by
  obtain⟨a,b⟩:=zbN (fun u hu=>h u (jS _ hu)) f
  have c:=h t jm;have:=c.p2;have:=c.le;have e1:zY (t::r)=t.ly++zY r:=rfl;have e2:vA (t::r)=t.pk.map (·.2)++vA r:=by unfold vA;rw[<- zP];rfl
  rw[e1,e2,qo,qo,zn,xP];omega
def rkO(b:List Nat)(i:Int):Nat:=b.idxOf i.toNat
theorem zhR{J:Job}{b:List Nat}(c:JobOk J b)(i:Int):rkO b i<=60:=by
 have h:rkO b i<=b.length:=List.idxOf_le_length;have:=c.op.length_eq;rw[vO] at this;have:=c.pl;omega
theorem ze8{b:List Nat}(g:b.Nodup){k x:Nat}(e:b[k]? =some x):b.idxOf x=k:=by
 obtain⟨h1,h2⟩:=zC.mp e;have c:=zaU (qr e);have f:b[b.idxOf x]'c=x:=List.getElem_idxOf c;exact(Qr g).mp (f.trans h2.symm)
theorem zhh{J:Job}{os:List Nat}(c:os.Nodup)(f:ByOrd os J.as):∀q∈asI J,rkO os q.1<rkO os q.2:=fun q hq=>by
 obtain⟨p,g,rfl⟩:=zN.mp hq;obtain⟨k,l,b,e1,e2⟩:=f p g;show os.idxOf ((p.1:Int)).toNat<os.idxOf ((p.2:Int)).toNat;rw[jR,jR,ze8 c e1,ze8 c e2];exact b
theorem zeg{J:Job}{b:List Nat}(c:JobOk J b):∀q∈asI J,rkO b q.1<rkO b q.2:=zhh (c.op.nodup_iff.mpr Zx) c.bo
theorem UpA.of{J:Job}{b:List Nat}(c:JobOk J b){p:Nat}{j:Int}:(j≠(p:Int)/\∃k,Wk (asI J) k j (p:Int))↔UpA J p j:=by
 constructor
 ·rintro⟨h,k,w⟩
  refine⟨k,?_,w⟩
  cases k with
  | zero=>exact absurd (show j=(p:Int) from w) h
  | succ k=>omega
 ·rintro⟨k,h,w⟩
  refine⟨fun e=>?_,k,w⟩
  have:=w.rank (zeg c);rw[e] at this;omega
theorem PlanOk.up{J:Job}{os:List Nat}{c:List zS}(f:PlanOk J os c){p:Nat}:∀{k:Nat} {j:Int},Wk (asI J) k j (p:Int)->p∈zY c->j∈nI (zY c)
 | 0,j,w,b=>by
  cases(show j=(p:Int) from w)
  exact wJ.mpr b
 | k+1,j,⟨m,e,w⟩,b=>by
  have h:=PlanOk.up f w b;obtain⟨q,hq,eq⟩:=zN.mp e;cases eq;exact wJ.mpr (f.cl q hq (wJ.mp h))
theorem Y1{os l:List Nat}(s:l.Sublist os)(g:os.Nodup){i x y:Nat}(hx:l[i]? =some x)(hy:y∈l)(h:os.idxOf y<os.idxOf x):y∈l.take i:=by
 obtain⟨j,c⟩:=yH.mp hy;by_cases e:j<i
 ·exact yH.mpr ⟨j,by rw[V5,zv e];exact c⟩
 ·exfalso
  obtain⟨M,D⟩:=zC.mp hx;obtain⟨N,f⟩:=zC.mp c;by_cases e2:i=j
  ·subst e2
   rw[D] at f;subst f;omega
  ·have E:i<j:=by omega
   have s2:[x,y].Sublist os:=by
    refine List.Sublist.trans ?_ s
    have a1:l=l.take j++l.drop j:=(JW j l).symm;rw[a1,show [x,y]=[x]++[y] from rfl]
    refine List.Sublist.append (Wf.mpr (yH.mpr ⟨i,by rw[V5,zv E];exact hx⟩)) (Wf.mpr (yH.mpr ⟨0,by rw[V8];exact c⟩))
   obtain⟨a,b,B,C,hb⟩:=List.append_sublist_iff.mp (show([x]++[y]).Sublist os from s2)
   have A:x∈a:=Wf.mp C;have L:y∈b:=Wf.mp hb;rw[B] at g h;obtain⟨O,Q,H⟩:=ZA.mp g;have J:y∉a:=fun z=>H y z y L rfl
   rw[List.idxOf_append,zu J,List.idxOf_append,zv A] at h;have:=zaU A;omega
theorem zbO{b:List zS}:∀{i j p:Nat} {t:zS},b[i]? =some t->t.ly[j]? =some p->∃m,(zY b)[m]? =some p/\(zY b).take m=zY (b.take i)++t.ly.take j:=fun {i j p t} e1 e2=>by
 have h1:b=b.take i++t::b.drop (i+1):=by
  obtain⟨f,rfl⟩:=zC.mp e1;rw[List.getElem_cons_drop,JW]
 have h2:zY b=zY (b.take i)++(t.ly++zY (b.drop (i+1))):=by
  rw (config:={occs:=.pos [1]}) [h1];unfold zY;rw[QF,V2]
 have c:=(zC.mp e2).1;refine⟨(zY (b.take i)).length+j,?_,?_⟩
 ·rw[h2,wC (by omega),Nat.add_sub_cancel_left,yc c]
  exact e2
 ·rw[h2,List.take_length_add_append,List.take_append_of_le_length (by omega)]
theorem ziZ{b:List zS}{i j:Nat}{t:zS}{p:Nat×Nat}(e1:b[i]? =some t)(e2:t.pk[j]? =some p)(f:Nat):(vA (b.take i)++(t.pk.take (j+1)).map (·.2)).count f<=(vA b).count f:=by
 have h1:b=b.take i++t::b.drop (i+1):=by
  obtain⟨c,rfl⟩:=zC.mp e1;rw[List.getElem_cons_drop,JW]
 have h2:vA b=vA (b.take i)++(t.pk.map (·.2)++vA (b.drop (i+1))):=by
  rw (config:={occs:=.pos [1]}) [h1];unfold vA yk;rw[QF,V2,zP,zP]
 rw[h2];have s:((t.pk.take (j+1)).map (·.2)).Sublist (t.pk.map (·.2)):=(zaI _ _).map _
 rw[yM,yM,yM];have:=s.count_le f;omega
theorem ziN(l:List Nat)(f:Nat):(nI l).count (f:Int)=l.count f:=by
 unfold nI;induction l with
 | nil=>rfl
 | cons x l b=>
  rw[qO,yC,yC,b];by_cases h:x=f
  ·simp[h]
  ·have:¬(x:Int)=(f:Int):=by omega
   simp[h,this]
theorem JobOk.ain{J:Job}{c:List Nat}(b:JobOk J c):∀q∈asI J,InN J.ps.length q.1/\InN J.ps.length q.2:=fun q hq=>by
 unfold asI at hq;obtain⟨p,f,rfl⟩:=zN.mp hq;have h1:=xR.mp (b.op.mem_iff.mp (b.bo.mem1 f));have h2:=xR.mp (b.op.mem_iff.mp (b.bo.mem2 f));exact⟨⟨by show(0:Int)<=(p.1:Int);omega,by show(p.1:Int)<_;omega⟩,⟨by show(0:Int)<=(p.2:Int);omega,by show(p.2:Int)<_;omega⟩⟩
theorem Jx(b:List V)(k:Nat):jT b none (some (k:Int))=b.take k:=by
 unfold jT;rw[HT.sIx_none,HT.sIx_nat,List.drop_zero,Nat.sub_zero];by_cases h:k<=b.length
 ·rw[Nat.min_eq_left h]
 ·rw[Nat.min_eq_right (by omega),qz,JX (by omega)]
theorem wx(a b:List Nat):zt a++zt b=zt (a++b):=by unfold zt;rw[zP]
theorem yV(a:List Nat)(k:Nat):(zt a).take k=zt (a.take k):=by unfold zt;rw[JL]
theorem Same.put{m:Addr}{H b:Hp}{o:HO}(s:Same H b)(h:H m=Option.none):Same H (upd b m o):=fun c u e=>by
 rw[zp (zm e h)];exact s c u e
structure zkJ(J:Job)(ord tk:List Nat)(t:zS):Prop where
 pk:∀(j:Nat) (p:Nat×Nat),t.pk[j]? =some p->∃pa fe,J.ps[p.1]? =some pa/\J.fs[p.2]? =some fe/\fe.k=pa.k/\p.1∉ord/\((tk++(t.pk.take j).map (·.2)).count p.2:Int)<fe.m
 ly:∀(j p:Nat),t.ly[j]? =some p->∀x,UpA J p x->x∈nI (ord++t.ly.take j)
def zkI(J:Job)(b:List zS):Prop:=∀(i:Nat) (t:zS),b[i]? =some t->zkJ J (zY (b.take i)) (vA (b.take i)) t
theorem zkf{J:Job}{os:List Nat}{f:List zS}(s:PlanOk J os f)(pm:os.Perm (List.range J.ps.length))(N:ByOrd os J.as):zkI J f:=by
 have E:os.Nodup:=pm.nodup_iff.mpr Zx;have H:(zY f).Nodup:=E.sublist s.sub;intro i t B;have A:=s.tr t (qr B);refine⟨fun j p g=>?_,fun j p g=>?_⟩
 ·obtain⟨Y,C,h1,h2,O⟩:=A.ok p (qr g)
  have U:¬p.1∈zY (f.take i):=fun T=>by
   obtain⟨m,D⟩:=yH.mp (A.ly.mem_iff.mpr (zN.mpr ⟨p,qr g,rfl⟩));obtain⟨q,e1,e2⟩:=zbO B D;have Q:p.1∈(zY f).take q:=by rw[e2];exact jN _ T
   obtain⟨r,l⟩:=yH.mp Q;rw[V5] at l;split at l
   ·have:=(List.getElem?_inj (zC.mp l).1 H).mp (l.trans e1.symm)
    omega
   ·cases l
  have n2:¬C.m<=(((vA (f.take i)++(t.pk.take j).map (·.2)).count p.2:Nat):Int):=by
   obtain⟨st,L⟩:=s.stk;have M:p.2<st.length:=by rw[L.len];exact(zC.mp h2).1
   have a:=L.nn p.2 _ (jh M);have b:=L.cnt p.2 _ C (jh M) h2;have c:=ziZ B g p.2;rw[zR g,zP,<- yG,yM,show([p].map (·.2)).count p.2=1 from zfr] at c
   have d:(vA f).count p.2=((yk f).map (·.2)).count p.2:=rfl
   omega
  exact⟨Y,C,h1,h2,O,U,by omega⟩
 ·rintro x ⟨k,h1,w⟩
  obtain⟨q,e1,e2⟩:=zbO B g;have hx:=s.up w (qr e1);obtain⟨y,hy,rfl⟩:=zN.mp hx;have rk:=w.rank (zhh E N);rw[<- e2];refine wJ.mpr (Y1 s.sub E e1 hy ?_)
  have a:rkO os (y:Int)=os.idxOf y:=by unfold rkO;rw[jR]
  have b:rkO os (p:Int)=os.idxOf p:=by unfold rkO;rw[jR]
  omega
structure PlV(J:Job)(od:List Nat)(ts:List zS):Prop where
 jo:JobOk J od
 tv:∀t∈ts,TripV J t
 tl:ts.length<=70
 nf:zkI J ts
inductive zdY(K:W.Frag)(B:List V)(H:Hp)(Q:VK):Prop
 | mk (f s lo g:Addr) (J:Job) (p:Nat×Nat) (b A:List Nat) (l:yh) (c:wD) (_:B=[.ref f,.ref s,.ref lo,.ref g]) (_:Rep K H (xQ J) (.ref f)) (_:SqT K H s [.int (p.1:Int),.int (p.2:Int)]) (_:J.ps[p.1]? =some l) (_:J.fs[p.2]? =some c) (_:c.k=l.k) (_:p.1∉b) (_:(A.count p.2:Int)<c.m) (_:SqL K H lo (zt b)) (_:H g=some (.lst (zt A))) (_:Q .non H):zdY K B H Q
def zji(K:W.Frag):Sp:=fun b H Q _=>zdY K b H Q
theorem zjC:zD ["job","pick","picked","taken","part","feeder","kind","place","many"] ["job","pick","picked","taken"] (zy (topL 21)):=u3
theorem zj9{f:Addr}{fd:FuncData}(F:Fun K "flaw_at_pick" "flaw_at_pick" (topL 21) f fd)(B:Blt I):qY P w K I G CX0 1 f fd ["job","pick","picked","taken"] (zji K):=by
 have b:=zjC.nd;refine F.ok zjC (fun vs H Q E h=>?_) (fun a0 A L s H vs Q E hr h=>?_)
 ·obtain⟨D,pk,lo,lt,J,p,c,tk,pa,fe,rfl,_⟩:=h
  rfl
 ·obtain⟨D,pk,lo,lt,J,p,c,tk,pa,fe,rfl,rj,qp,h1,h2,ek,no,ab,ho,ht,k⟩:=h
  obtain⟨g,fs,ps,as,fv,px,qj,_,qf,rf,T,rp,_⟩:=xW rj;obtain⟨aa,l,U⟩:=wO rf h2;obtain⟨fa,fc,rfl,N,_⟩:=xI U;obtain⟨ae,C,Y⟩:=wO rp h1;obtain⟨M,ac,rfl,O,_⟩:=xV Y;refine⟨_,(zf (jQ (pv 1) (qL rfl (zr (zq (i:=4) b rfl (Or.inl rfl)) (zr (zq (i:=5) b rfl (Or.inl rfl)) qk))))
   (zf (jQ (zF je (zF je (pv 0) zi (fun _ _=>rfl)) (pv 5) (fun _ _=>rfl)) (qL rfl (zr (zq (i:=6) b rfl (Or.inl rfl)) (zr (zq (i:=7) b rfl (Or.inl rfl)) (zr (zq (i:=8) b rfl (Or.inl rfl)) qk)))))
   (zf (jB (zG zeF (pv 6) (zF je (zF je (zF je (pv 0) zi (fun _ _=>rfl)) (pv 4) (fun _ _=>rfl)) zi (fun _ _=>rfl)) (zL _))
   (zo (zB Qc))
   qF)
   (zf (jB (zG Qd (pv 4) (pv 2) (by with_unfolding_all rfl))
   (zo (zB Qc))
   qF)
   (zf (jB (zG zhp (xE xL PySem.F.slot_list_count PySem.F.type_list_count zc3 (pv 3) (za (pv 5) ze)) (pv 8) (zL _))
   (zo (zB Qc))
   qF)
   (zo (zB wb))))))),?_⟩
  refine⟨_,rfl,pk,_,rfl,qp,rfl,_,_,rfl,_,_,rfl,rfl,?_⟩
  refine⟨_,rfl,D,_,_,_,rfl,rfl,qj,rfl,_,rfl,fs,_,_,_,rfl,rfl,qf,qK l,fa,_,rfl,N,rfl,_,_,rfl,_,_,rfl,_,_,rfl,rfl,?_⟩
  refine⟨_,rfl,_,rfl,D,_,_,_,rfl,rfl,qj,rfl,_,rfl,ps,_,_,_,rfl,rfl,T,qK C,M,_,_,_,rfl,rfl,O,rfl,rfl,_,rfl,ifF (by rw[ek];simp) ?_⟩
  refine⟨_,rfl,_,rfl,lo,zt c,rfl,.inl ho,rfl,xG _,_,rfl,ifF (by rw[yW];exact jd no) ?_⟩
  exact⟨_,rfl,.inl ⟨rfl,_,u4 ht⟩,_,rfl,lt,nI tk,(p.2:Int),rfl,rfl,by rw[ht,vC],_,rfl,_,_,rfl,rfl,_,rfl,ifF (by rw[ziN];exact jd (by omega)) k⟩
inductive zd0(K:W.Frag)(g:List V)(H:Hp)(Q:VK):Prop
 | mk (f lo:Addr) (J:Job) (l b:List Nat) (p:Nat) (_:g=[.ref f,.int (p:Int),.ref lo]) (_:Rep K H (xQ J) (.ref f)) (_:JobOk J l) (_:p<J.ps.length) (_:SqL K H lo (zt b)) (_:(∀x,UpA J p x->x∈nI b)) (_:∀c,Same H c->Q .non c):zd0 K g H Q
def zjk(K:W.Frag):Sp:=fun b H Q _=>zd0 K b H Q
theorem zjE:zD ["job","part","order"] ["job","part","order"] (zy (topL 22)):=u3
theorem zkb{f:Addr}{O:FuncData}(F:Fun K "flaw_at_lay" "flaw_at_lay" (topL 22) f O)(B:Blt I)(b:Dfn P w K I G "ahead_of" 3 ["job","part"] (Vn K)):qY P w K I G CX0 4 f O ["job","part","order"] (zjk K):=by
 have nd:=zjE.nd;refine F.ok zjE (fun vs H Q E h=>?_) (fun a0 A M s H vs Q E hr h=>?_)
 ·obtain⟨Y,lo,J,od,c,p,rfl,_⟩:=h
  rfl
 ·obtain⟨Y,lo,J,od,c,p,rfl,rj,C,hp,ho,al,k⟩:=h
  have T:=bG100000;refine⟨_,(zf (jB (xf (zx (xY rfl) rfl B.all boot_all (za (jv ["order"] [2] rfl rfl (by kernel_rfl) (qg (zk b hr.m rfl (za (pv 0) (za (pv 1) ze)))) (fun _ _ _ _=>qS) (fun _ _ _ _=>(qW (xB (K:=K) rfl) (pv 0) (pv 1) (by with_unfolding_all rfl)))) ze)))
   (zo (zB wb))
   qF)
   (zo (zB Qc))),?_⟩
  refine⟨_,rfl,_,rfl,(p:Int),Y,J,rfl,rj,C.pl,⟨by omega,by omega⟩,C.ain,C.al,fun l ms H1 s1 _ U ml _ mm=>⟨l,rfl,⟨_,u4 U⟩,qQ (K:=K) (a:=l) (xs:=ms.map V.int) (fun i L g=>L=List.replicate i (V.bl true)/\Same H1 g) ⟨rfl,u5 _⟩ (fun i L g ⟨_,s2⟩=>u4 (s2 _ _ U)) ?_ ?_⟩⟩
  ·rintro i x L g hx ⟨rfl,s2⟩
   rw[zZ] at hx;obtain⟨j,N,rfl⟩:=qE.mp hx;have hi:=(zC.mp N).1;refine⟨rfl,_,rfl,_,rfl,lo,zt c,rfl,.inl ((s1.trans s2).seq ho),rfl,xG _,by rw[vy];omega,?_,s2⟩
   rw[zhs,zV (al j ((UpA.of C).mp ((mm j).mp (qr N)))),ZD];rfl
  ·rintro L g ⟨rfl,s2⟩
   refine⟨by rw[vy,zn];omega,fun D hD=>⟨D,List.replicate (ms.map V.int).length true,rfl,u4 (by rw[zd,JS]),?_⟩⟩
   exact⟨_,rfl,ifT (by simp) (k _ (s1.trans (s2.trans (zb hD))))⟩
inductive zdX(K:W.Frag)(A:List V)(H:Hp)(Q:VK):Prop
 | mk (g s lo l:Addr) (J:Job) (B b c:List Nat) (t:zS) (_:A=[.ref g,.ref s,.ref lo,.ref l]) (_:Rep K H (xQ J) (.ref g)) (_:JobOk J B) (_:Rep K H (jH t) (.ref s)) (_:TripV J t) (_:zkJ J b c t) (_:H lo=some (.lst (zt b))) (_:H l=some (.lst (zt c))) (_:b.length<=1000) (_:c.length<=1000) (_:∀f,Same H f->Q .non f):zdX K A H Q
def zjh(K:W.Frag):Sp:=fun b H Q _=>zdX K b H Q
theorem zjB:zD ["job","trip","order","taken","picks","lays","feeders","at","pick","word","part"] ["job","trip","order","taken"] (zy (topL 23)):=u3
def zcc(l:_)(B:_)(lo:_)(A:_)(b:_)(c:_)(s:_)(g:_):=fun(i:Nat) (σ:St) (f:Hp)=>(Ex3 fun(C D E:Option V)=>An2 (σ=[some (.ref l),some (.ref B),some (.ref lo),some (.ref A),some (.ref b),some (.ref c),some (.ref s),C,D,E,none]) (Same g f):Prop)
def zcb(s:_)(C:_)(lo:_)(B:_)(b:_)(c:_)(A:_)(E:_)(l:_):=fun(i:Nat) (σ:St) (g:Hp)=>(Ex3 fun(D H f:Option V)=>An2 (σ=[some (.ref s),some (.ref C),some (.ref lo),some (.ref B),some (.ref b),some (.ref c),some (.ref A),D,E,H,f]) (Same l g):Prop)
theorem zj8{f:Addr}{fd:FuncData}(F:Fun K "flaw_in_trip" "flaw_in_trip" (topL 23) f fd)(B:Blt I)(g:Dfn P w K I G "flaw_at_pick" 1 ["job","pick","picked","taken"] (zji K))(C:Dfn P w K I G "flaw_at_lay" 4 ["job","part","order"] (zjk K)):qY P w K I G CX0 5 f fd ["job","trip","order","taken"] (zjh K):=by
 have M:=zjB.nd;refine F.ok zjB (fun vs H Q E h=>?_) (fun ah A ae s H vs Q E hr h=>?_)
 ·obtain⟨jp,tp,lo,lt,J,od,D,tk,t,rfl,_⟩:=h
  rfl
 ·obtain⟨jp,tp,lo,lt,J,od,D,tk,t,rfl,rj,jo,rt,tv,nf,ho,ht,ol,tl,k⟩:=h
  have ag:=bG100000;have ai:=jo.hd1;have ak:=tv.p2;have aj:=tv.le;obtain⟨a,b,c,ps,ys,ea,qa,qb,rb,qc,rc⟩:=jZ rt;cases ea;cases ZS rc;have lb:=rb.len;rw[zn] at lb;refine⟨_,(zf (jQ (pv 1) (qL rfl (zr (zq (i:=4) M rfl (Or.inl rfl)) (zr (zq (i:=5) M rfl (Or.inl rfl)) qk))))
   (zf (Vr [] [] rfl rfl (by kernel_rfl) (xg (pv 4)) (fun _ _ _ _=>qS) (fun _ _ _ _=>(pv 1)) (zq (i:=6) M rfl (Or.inl rfl)))
   (zf (qZ jC rfl (yn rfl B.enumerate (za (pv 4) ze)) (qL rfl (zr (zq (i:=7) M rfl (Or.inl rfl)) (zr (zq (i:=8) M rfl (Or.inl rfl)) qk)))
   (zf (zE (i:=9) M rfl (Or.inl rfl) (zk g hr.m rfl (za (pv 0) (za (pv 8) (za (pv 2) (za (zM Zl (pv 3) (wu ZJ (pv 6) ZN (wG (pv 7)))) ze))))))
    (zo (jB (zG Vy (pv 9) wb (zL _))
    (zo (zB (qX (za (pv 9) (za (pv 7) ze)))))
    qF))))
   (zf (qZ jC rfl (yn rfl B.enumerate (za (pv 5) ze)) (qL rfl (zr (zq (i:=7) M rfl (Or.inl rfl)) (zr (zq (i:=10) M rfl (Or.inl rfl)) qk)))
   (zf (zE (i:=9) M rfl (Or.inl rfl) (zk C hr.m rfl (za (pv 0) (za (pv 10) (za (zM Zl (pv 2) (qH wN rfl B.list xJ (za (wu zhM (pv 5) ZN (wG (pv 7))) ze))) ze)))))
    (zo (jB (zG Vy (pv 9) wb (zL _))
    (zo (zB (qX (za (pv 9) (za (zM ja (zx zI rfl B.len boot_len (za (pv 4) ze)) (pv 7)) ze)))))
    qF))))
   (zo (zB wb)))))),?_⟩
  refine⟨_,rfl,tp,_,rfl,qa,rfl,_,_,rfl,_,_,rfl,rfl,?_⟩
  refine⟨_,rfl,b,rfl,⟨_,qb⟩,j6 (K:=K) (a:=b) (xs:=ps) (fun i zs H1=>zs=zt ((t.pk.take i).map (·.2))/\Same H H1) ⟨rfl,u5 _⟩ (fun i zs H1 ⟨_,s1⟩=>s1.sqT qb) ?_ ?_⟩
  ·rintro i x zs H1 hx ⟨rfl,s1⟩
   obtain⟨d,ed,rd⟩:=(rb.same s1).get hx;rw[zZ] at ed;obtain⟨p,L,rfl⟩:=qE.mp ed;obtain⟨pp,rfl,aa⟩:=qv rd;have hi:=(zC.mp L).1;refine⟨pp,_,rfl,aa,rfl,_,_,rfl,_,_,rfl,rfl,rfl,?_⟩
   refine⟨_,rfl,by rw[zA,zn,qm];omega,?_,s1⟩
   rw[zR L,zP,<- wx];rfl
  rintro zs H1 ⟨rfl,s1⟩;rw[lb,qz];refine⟨by rw[zA,zn];omega,fun lf ac=>?_⟩
  have s2:=s1.trans (zb (o:=.lst (zt (t.pk.map (·.2)))) ac)
  have LF:upd H1 lf (.lst (zt (t.pk.map (·.2)))) lf=some (.lst (zt (t.pk.map (·.2)))):=zd
  generalize upd H1 lf (.lst (zt (t.pk.map (·.2))))=H2 at s2 LF
  refine⟨_,rfl,b,rfl,⟨_,s2.sqT qb⟩,Qh (K:=K) (a:=b) (xs:=ps) (zcc jp tp lo lt b c lf H2) ⟨_,_,_,rfl,u5 _⟩ (fun i σ H' _ ⟨_,_,_,_,s3⟩=>s3.sqT (s2.sqT qb)) ?_ ?_⟩
  ·rintro i x σ H3 T hx ⟨v7,v8,v9,rfl,s3⟩ hT
   have sT:=s3.trans (zb (o:=.tup [.int (i:Int),x]) hT);have U:=s2.trans sT;obtain⟨d,ed,rd⟩:=(rb.same U).get hx;rw[zZ] at ed;obtain⟨p,L,rfl⟩:=qE.mp ed;obtain⟨pp,rfl,aa⟩:=qv rd;have hi:=(zC.mp L).1;obtain⟨pa,fe,h1,h2,h3,h4,h5⟩:=nf.pk i p L;refine⟨T,_,rfl,u6 zd,rfl,_,_,rfl,_,_,rfl,rfl,?_⟩
   generalize upd H3 T (.tup [.int (i:Int),.ref pp])=H4 at *
   refine⟨_,rfl,_,rfl,_,rfl,_,rfl,_,rfl,_,rfl,_,rfl,lf,_,rfl,u4 (sT _ _ LF),fun q hq=>⟨lt,q,_,_,rfl,rfl,(U.trans (zb hq)) _ _ ht,zd,by rw[Jx,yV,zA,zA,qm,zn];omega,fun N a0=>?_⟩⟩
   have Y:=(zb (o:=.lst (jT (zt (t.pk.map (·.2))) none (some (i:Int)))) hq).trans (zb (o:=.lst (zt tk++jT (zt (t.pk.map (·.2))) none (some (i:Int)))) a0)
   have L5:upd (upd H4 q (.lst (jT (zt (t.pk.map (·.2))) none (some (i:Int))))) N (.lst (zt tk++jT (zt (t.pk.map (·.2))) none (some (i:Int)))) N=some (.lst (zt (tk++(t.pk.take i).map (·.2)))):=by rw[zd,Jx,yV,wx,JL]
   generalize upd (upd H4 q (.lst (jT (zt (t.pk.map (·.2))) none (some (i:Int))))) N (.lst (zt tk++jT (zt (t.pk.map (·.2))) none (some (i:Int))))=H5 at Y L5
   have s6:=U.trans Y;exact⟨jp,pp,lo,N,J,p,D,tk++(t.pk.take i).map (·.2),pa,fe,rfl,rj.same s6,Y.sqT aa,h1,h2,h3,h4,h5,u4 (s6 _ _ ho),L5,_,rfl,rfl,_,rfl,ifF rfl ⟨_,_,_,rfl,sT.trans Y⟩⟩
  rintro σ H3 ⟨v7,v8,v9,rfl,s3⟩;have O:=s2.trans s3;refine⟨_,rfl,c,rfl,⟨_,O.sqT qc⟩,Qh (K:=K) (a:=c) (xs:=zt t.ly) (zcb jp tp lo lt b c lf v8 H3) ⟨_,_,_,rfl,u5 _⟩ (fun i σ H' _ ⟨_,_,_,_,U⟩=>U.sqT (O.sqT qc)) ?_ ?_⟩
  ·rintro i x σ H4 T hx ⟨v7,v9,af,rfl,U⟩ hT
   obtain⟨p,L,rfl⟩:=ww hx;have hi:=(zC.mp L).1;have sT:=U.trans (zb (o:=.tup [.int (i:Int),.int (p:Int)]) hT);have Y:=O.trans sT;have hp:p<J.ps.length:=by
    obtain⟨u,hu,rfl⟩:=zN.mp (tv.ly.mem_iff.mp (qr L));exact(tv.ok u hu).1
   refine⟨T,_,rfl,u6 zd,rfl,_,_,rfl,_,_,rfl,rfl,?_⟩
   generalize upd H4 T (.tup [.int (i:Int),.int (p:Int)])=H5 at *
   have ab:¬(HT.sIx (zt t.ly).length 0 none=0/\HT.sIx (zt t.ly).length (zt t.ly).length (some (i:Int))=(zt t.ly).length):=fun z=>by
    have z2:=z.2;rw[HT.sIx_nat,zA] at z2;omega
   refine⟨_,rfl,_,rfl,_,rfl,_,rfl,_,rfl,_,rfl,c,_,rfl,Y.sqT qc,ab,fun q hq=>⟨q,_,rfl,.inr (u6 zd),fun l hl=>⟨lo,l,_,_,rfl,rfl,((Y.trans (zb hq)).trans (zb hl)) _ _ ho,zd,by rw[Jx,yV,zA,zA,qm];omega,fun N a0=>?_⟩⟩⟩
   have s6:=((zb (o:=.tup (jT (zt t.ly) none (some (i:Int)))) hq).trans (zb (o:=.lst (jT (zt t.ly) none (some (i:Int)))) hl)).trans (zb (o:=.lst (zt D++jT (zt t.ly) none (some (i:Int)))) a0);have L6:upd (upd (upd H5 q (.tup (jT (zt t.ly) none (some (i:Int))))) l (.lst (jT (zt t.ly) none (some (i:Int))))) N (.lst (zt D++jT (zt t.ly) none (some (i:Int)))) N=some (.lst (zt (D++t.ly.take i))):=by rw[zd,Jx,yV,wx]
   generalize upd (upd (upd H5 q (.tup (jT (zt t.ly) none (some (i:Int))))) l (.lst (jT (zt t.ly) none (some (i:Int))))) N (.lst (zt D++jT (zt t.ly) none (some (i:Int))))=H6 at s6 L6;have s7:=Y.trans s6;exact⟨jp,N,J,od,D++t.ly.take i,p,rfl,rj.same s7,jo,hp,u4 L6,nf.ly i p L,fun H7 s8=>⟨_,rfl,rfl,_,rfl,ifF rfl ⟨_,_,_,rfl,(sT.trans s6).trans s8⟩⟩⟩
  rintro σ H4 ⟨v7,v9,af,rfl,U⟩;exact k _ (O.trans U)
inductive zdZ(K:W.Frag)(l:List V)(H:Hp)(Q:VK):Prop
 | mk (c f:Addr) (J:Job) (A:List Nat) (g:List zS) (s:List V) (_:l=[.ref c,.ref f]) (_:Rep K H (xQ J) (.ref c)) (_:SqL K H f s) (_:Reps K H (g.map jH) s) (_:PlV J A g) (_:∀b,Same H b->Q .non b):zdZ K l H Q
def zjj(K:W.Frag):Sp:=fun b H Q _=>zdZ K b H Q
theorem zjD:zD ["job","plan","order","taken","number","trip","flaw","word","place","picks","lays"] ["job","plan"] (zy (topL 24)):=u3
theorem zka{f:Addr}{fd:FuncData}(F:Fun K "flaw_of" "flaw_of" (topL 24) f fd)(B:Blt I)(g:Dfn P w K I G "flaw_in_trip" 5 ["job","trip","order","taken"] (zjh K)):qY P w K I G CX0 6 f fd ["job","plan"] (zjj K):=by
 have L:=zjD.nd;refine F.ok zjD (fun vs H Q E h=>?_) (fun ao A aj s H vs Q E hr h=>?_)
 ·obtain⟨jp,pl,J,od,C,xs,rfl,_⟩:=h
  rfl
 ·obtain⟨jp,pl,J,od,C,xs,rfl,rj,hp,rl,U,k⟩:=h
  have an:=bG100000;have tl:=U.tl;have ll:=rl.len;rw[zn] at ll;have le:∀i,(zY (C.take i)).length<=280/\(vA (C.take i)).length<=280:=fun i=>by
   have:=zbN (ts:=C.take i) (fun t ht=>U.tv t (Qu ht)) U.jo.hd1
   rw[qm] at this;omega
  refine⟨_,(zf (zE (i:=2) L rfl (Or.inl rfl) (qC ze))
   (zf (zE (i:=3) L rfl (Or.inl rfl) (qC ze))
   (zf (qZ jC rfl (Vu rfl B.enumerate (za (pv 1) ze)) (qL rfl (zr (zq (i:=4) L rfl (Or.inl rfl)) (zr (zq (i:=5) L rfl (Or.inl rfl)) qk)))
   (zf (zE (i:=6) L rfl (Or.inl rfl) (zk g hr.m rfl (za (pv 0) (za (pv 5) (za (pv 2) (za (pv 3) ze))))))
    (zf (jB (zG Vy (pv 6) wb (zL _))
    (zf (jQ (pv 6) (qL rfl (zr (zq (i:=7) L rfl (Or.inl rfl)) (zr (zq (i:=8) L rfl (Or.inl rfl)) qk))))
     (zo (zB (qX (za (pv 7) (za (pv 4) (za (pv 8) ze)))))))
    qF)
    (zf (jQ (pv 5) (qL rfl (zr (zq (i:=9) L rfl (Or.inl rfl)) (zr (zq (i:=10) L rfl (Or.inl rfl)) qk))))
    (zf (jt (xE xL Wj Wi XW (pv 3) (za (xh [] [] rfl rfl (by kernel_rfl) (xg (pv 9)) (fun _ _ _ _=>qS) (fun _ _ _ _=>(pv 1))) ze)))
    (zo (jt (xE xL Wj Wi zbI (pv 2) (za (pv 10) ze)))))))))
   (zo (zB wb))))),?_⟩
  refine⟨le0,fun lo N=>⟨le0,fun l D=>?_⟩⟩
  have af:lo≠l:=zm (zd (H:=H) (a:=lo) (o:=.lst [])) D;have s0:=(zb (o:=.lst []) N).trans (zb (o:=.lst []) D);have a0:H l=none:=(zb (o:=.lst []) N).none D;have LO:upd (upd H lo (.lst [])) l (.lst []) lo=some (.lst []):=(zb (o:=.lst []) D) _ _ zd;have LT:upd (upd H lo (.lst [])) l (.lst []) l=some (.lst []):=zd;generalize upd (upd H lo (.lst [])) l (.lst [])=H1 at s0 LO LT;refine⟨_,rfl,pl,rfl,⟨_,s0.seq hp⟩,Js (K:=K) (a:=pl) (xs:=xs) (fun i σ H'=>Ex7 fun(v4 v5 v6 v7 v8 v9 Y:Option V)=>An4 (σ=[some (.ref jp),some (.ref pl),some (.ref lo),some (.ref l),v4,v5,v6,v7,v8,v9,Y]) (Same H H') (H' lo=some (.lst (zt (zY (C.take i))))) (H' l=some (.lst (zt (vA (C.take i)))))) ⟨_,_,_,_,_,_,_,rfl,s0,LO,LT⟩ (fun i σ H' _ ⟨_,_,_,_,_,_,_,_,s1,_,_⟩=>s1.seq hp) ?_ ?_⟩
  ·rintro i x σ H2 T hx ⟨v4,v5,v6,v7,v8,v9,Y,rfl,s1,lo1,ac⟩ hT
   have sT:=zb (H:=H2) (o:=.tup [.int (i:Int),x]) hT;have s2:=s1.trans sT;obtain⟨d,ed,rd⟩:=(rl.same s2).get hx;rw[zZ] at ed;obtain⟨t,et,rfl⟩:=qE.mp ed;obtain⟨a,b,c,ps,ys,rfl,qa,qb,rb,qc,rc⟩:=jZ rd;have tv:=U.tv t (qr et);have hi:=(zC.mp et).1;refine⟨T,_,rfl,u6 zd,rfl,_,_,rfl,_,_,rfl,rfl,?_⟩
   have aa:=sT _ _ lo1;have O:=sT _ _ ac;generalize upd H2 T (.tup [.int (i:Int),.ref a])=H3 at *
   refine⟨_,rfl,_,rfl,_,rfl,_,rfl,jp,a,lo,l,J,od,_,_,t,rfl,rj.same s2,U.jo,rd,tv,U.nf i t et,aa,O,by have:=(le i).1;omega,by have:=(le i).2;omega,fun H4 M=>?_⟩
   have s5:=s2.trans M;refine⟨_,rfl,rfl,_,rfl,ifF rfl ?_⟩
   have lb:=rb.len;rw[zn] at lb;have ar:=tv.p2;have ap:=U.jo.hd1;have aq:=tv.le;have l1:=le i;cases ZS rc;refine⟨_,rfl,a,_,rfl,M.sqT qa,rfl,_,_,rfl,_,_,rfl,rfl,?_⟩
   refine⟨_,rfl,.inl ⟨rfl,_,u4 (M _ _ O)⟩,_,rfl,b,rfl,⟨_,M.sqT qb⟩,j6 (K:=K) (a:=b) (xs:=ps) (fun j zs H5=>zs=zt ((t.pk.take j).map (·.2))/\Same H4 H5) ⟨rfl,u5 _⟩ (fun j zs H5 ⟨_,s6⟩=>s6.sqT (M.sqT qb)) ?_ ?_⟩
   ·rintro j y zs H5 hy ⟨rfl,s6⟩
    obtain⟨d2,e2,r2⟩:=(rb.same (M.trans s6)).get hy;rw[zZ] at e2;obtain⟨p,ep,rfl⟩:=qE.mp e2;obtain⟨pp,rfl,am⟩:=qv r2;have hj:=(zC.mp ep).1;refine⟨pp,_,rfl,am,rfl,_,_,rfl,_,_,rfl,rfl,rfl,?_⟩
    refine⟨_,rfl,by rw[zA,zn,qm];omega,?_,s6⟩
    rw[zR ep,zP,<- wx];rfl
   rintro zs H5 ⟨rfl,s6⟩;rw[lb,qz];refine⟨by rw[zA,zn];omega,fun lf ag=>?_⟩
   have s7:=s6.trans (zb (o:=.lst (zt (t.pk.map (·.2)))) ag)
   have ah:=(M.trans s7) _ _ aa;have ae:=(M.trans s7) _ _ O;have LF:upd H5 lf (.lst (zt (t.pk.map (·.2)))) lf=some (.lst (zt (t.pk.map (·.2)))):=zd
   have s8:=s5.trans s7;have ak:=(M.trans s7).sqT qc;generalize upd H5 lf (.lst (zt (t.pk.map (·.2))))=H6 at *
   refine⟨l,lf,_,_,rfl,rfl,ae,LF,by rw[zA,zA,zn];omega,?_⟩
   have s9:=s8.put (o:=.lst (zt (vA (C.take i))++zt (t.pk.map (·.2)))) a0
   have ab:upd H6 l (.lst (zt (vA (C.take i))++zt (t.pk.map (·.2)))) lo=_:=(zp af).trans ah
   have ai:upd H6 l (.lst (zt (vA (C.take i))++zt (t.pk.map (·.2)))) l=some (.lst (zt (vA (C.take (i+1))))):=by rw[zd,wx,zcH et]
   have al:=ak.keep (ub (ys:=zt (vA (C.take i))++zt (t.pk.map (·.2))) ae)
   generalize upd H6 l (.lst (zt (vA (C.take i))++zt (t.pk.map (·.2))))=H7 at *
   refine⟨_,rfl,.inl ⟨rfl,_,u4 ab⟩,_,rfl,lo,c,_,_,rfl,rfl,ab,al,by rw[zA,zA];omega,?_⟩
   refine⟨_,_,_,_,_,_,_,rfl,s9.put N,?_,?_⟩
   ·rw[zd,wx,Ym et]
   ·rw[zp af.symm];exact ai
  rintro σ H2 ⟨v4,v5,v6,v7,v8,v9,Y,rfl,s1,lo1,ac⟩;exact k _ s1
inductive zdU(K:W.Frag)(l:List V)(H:Hp)(Q:VK):Prop
 | mk (c f:Addr) (J:Job) (A:List Nat) (g:List zS) (s:List V) (_:l=[.ref c,.ref f]) (_:Rep K H (xQ J) (.ref c)) (_:SqL K H f s) (_:Reps K H (g.map jH) s) (_:PlV J A g) (_:∀b,Same H b->Q (.bl true) b):zdU K l H Q
def zhK(K:W.Frag):Sp:=fun b H Q _=>zdU K b H Q
theorem zjA:zD ["job","thing"] ["job","thing"] (zy (topL 30)):=u3
theorem zj7{f:Addr}{fd:FuncData}(F:Fun K "is_right" "is_right" (topL 30) f fd)(B:Blt I)(c:Dfn P w K I G "is_trip" 5 ["job","thing"] (zg4 K))(b:Dfn P w K I G "flaw_of" 6 ["job","plan"] (zjj K)):qY P w K I G CX0 7 f fd ["job","thing"] (zhK K):=by
 have nd:=zjA.nd;refine F.ok zjA (fun vs H Q E h=>?_) (fun aa A T s H vs Q E hr h=>?_)
 ·obtain⟨O,l,J,od,ts,g,rfl,_⟩:=h
  rfl
 ·obtain⟨O,l,J,od,ts,g,rfl,rj,L,U,M,k⟩:=h
  have a0:=bG100000;have tl:=M.tl;have ll:=U.len;rw[zn] at ll;refine⟨_,(zf (jB (PW.pt (W0 (vn (xf (zx yz rfl B.isinstance boot_isinstance (za (pv 1) (za (ZQ (v:=.ty "list") rfl B.list xJ rfl) ze))))) (Jb (vn (xf (zx (xY rfl) rfl B.all boot_all (za (jv ["job"] [0] rfl rfl (by kernel_rfl) (qg (pv 1)) (fun _ _ _ _=>qS) (fun _ _ _ _=>(zk c hr.m rfl (za (pv 1) (za (pv 0) ze))))) ze)))))))
   (zo (zB vd))
   qF)
   (zo (zB (qW zeG (zk b hr.m rfl (za (pv 0) (za (pv 1) ze))) wb (zL _))))),?_⟩
  refine⟨_,rfl,.ref l, "list", "list",rfl,.inl ⟨rfl,g,L⟩,by decide,_,rfl,ifF rfl ?_⟩
  refine⟨_,rfl,l,rfl,⟨_,L⟩,qQ (K:=K) (a:=l) (xs:=g) (fun i N C=>N=List.replicate i (V.bl true)/\Same H C) ⟨rfl,u5 _⟩ (fun i N C ⟨_,s1⟩=>s1.seq L) ?_ ?_⟩
  ·rintro i x N C hx ⟨rfl,s1⟩
   obtain⟨d,Y,rd⟩:=(U.same s1).get hx;rw[zZ] at Y;obtain⟨t,et,rfl⟩:=qE.mp Y;have hi:=(zC.mp et).1;exact⟨rfl,_,rfl,_,rfl,O,J,x,t,rfl,rj.same s1,rd,M.tv t (qr et),M.jo.hd1,fun H2 s2=>⟨by rw[vy];omega,by rw[ZD],s1.trans s2⟩⟩
  ·rintro N C ⟨rfl,s1⟩
   refine⟨by rw[vy];omega,fun D hD=>⟨D,List.replicate g.length true,rfl,u4 (by rw[zd,JS]),_,rfl,ifF (by simp) ?_⟩⟩
   have s2:=s1.trans (zb (o:=.lst (List.replicate g.length (V.bl true))) hD);exact⟨_,rfl,_,rfl,O,l,J,od,ts,g,rfl,rj.same s2,s2.seq L,U.same s2,M,fun H2 s3=>⟨rfl,k _ (s2.trans s3)⟩⟩
def atK(fs:List wD)(b:Str)(n:Nat):List Nat:=(List.range n).filter fun i=>decide (fs[i]?.map wD.k=some b)
theorem Qk(fs:List wD)(b:Str)(n:Nat):(atK fs b n).length<=n:=jk (qV _ _) (by rw[vO];exact zJ _)
theorem zb3{fs:List wD}{b:Str}{n:Nat}{f:wD}(h:fs[n]? =some f)(e:f.k=b):atK fs b (n+1)=atK fs b n++[n]:=by
 unfold atK;rw[JN,xT,J4 (by rw[h];exact zV (by show some f.k=_;rw[e]))]
 rfl
theorem zb4{fs:List wD}{b:Str}{n:Nat}{f:wD}(h:fs[n]? =some f)(e:f.k≠b):atK fs b (n+1)=atK fs b n:=by
 unfold atK;rw[JN,xT,J3 (by rw[h];simpa using e),JO,jn]
inductive zbi(K:W.Frag)(g:List V)(H:Hp)(Q:VK):Prop
 | mk (c:Addr) (J:Job) (f:Str) (_:g=[.ref c,.str f]) (_:Rep K H (xQ J) (.ref c)) (_:J.fs.length<=100) (_:∀(l:Addr) b,H l=none->Same H b->b l=some (.lst (zt (atK J.fs f J.fs.length)))->Q (.ref l) b):zbi K g H Q
def zg5(K:W.Frag):Sp:=fun b H Q _=>zbi K b H Q
theorem zhe:zD ["job","kind"] ["job","kind"] (zy (topL 11)):=u3
theorem zin{f:Addr}{U:FuncData}(F:Fun K "feeders_for" "feeders_for" (topL 11) f U)(B:Blt I):qY P w K I G CX0 1 f U ["job","kind"] (zg5 K):=by
 have nd:=zhe.nd;refine F.ok zhe (fun vs H Q E h=>?_) (fun aa A N s H vs Q E hr h=>?_)
 ·obtain⟨jp,J,L,rfl,_⟩:=h
  rfl
 ·obtain⟨jp,J,L,rfl,rj,fl,k⟩:=h
  have a0:=bG100000;obtain⟨g,fs,ps,as,fv,ab,qj,_,qf,rf,qp,rp,_⟩:=xW rj;have lf:=rf.len;rw[zn] at lf;refine⟨_,(zo (zB (xh ["kind"] [1] rfl rfl (by kernel_rfl) (yn rfl B.enumerate (za (zF je (pv 0) zi (fun _ _=>rfl)) ze)) (fun _ _ _ _=>(ju (zG j8 (zF (qM (K:=K) rfl) (pv 1) zi (fun _ _=>rfl)) (pv 2) (zL _)))) (fun _ _ _ _=>(pv 0))))),?_⟩
  refine⟨_,rfl,jp,_,_,_,rfl,rfl,qj,rfl,fs,rfl,⟨_,qf⟩,Yk (K:=K) (a:=fs) (xs:=fv) (fun i M D=>M=zt (atK J.fs L i)/\Same H D) ⟨rfl,u5 _⟩ (fun i M D ⟨_,C⟩=>C.sqT qf) ?_ ?_⟩
  ·rintro i x M D T hx ⟨rfl,C⟩ Y
   obtain⟨d,e1,r1⟩:=(rf.same C).get hx;rw[zZ] at e1;obtain⟨fe,b,rfl⟩:=qE.mp e1;have hi:=(zC.mp b).1;have sT:=C.trans (zb (o:=.tup [.int (i:Int),x]) Y);obtain⟨fa,fc,rfl,O,_⟩:=xI (r1.same (zb (o:=.tup [.int (i:Int),x]) Y));have le:=Qk J.fs L i;refine⟨T,_,rfl,u6 zd,rfl,_,_,rfl,_,_,rfl,rfl,rfl,?_⟩
   refine⟨_,rfl,fa,_,_,_,rfl,rfl,O,rfl,_,rfl,rfl,_,rfl,xC (fun c=>⟨_,rfl,?_,?_,sT⟩) (fun c=>⟨?_,sT⟩)⟩
   ·rw[zA];omega
   ·rw[zb3 b (V.str.inj (jy c)),jA]
   ·rw[zb4 b fun z=>c (zV (by rw[z]))]
  ·rintro M D ⟨rfl,C⟩
   rw[lf];have le:=Qk J.fs L J.fs.length;exact⟨by rw[zA];omega,fun l hl=>k l _ (C.none hl) (C.trans (zb hl)) zd⟩
end
def upF(g:Nat->Int)(f:Nat)(v:Int):Nat->Int:=fun k=>if k=f then v else g k
def jP(n:Nat)(g:Nat->Int):List V:=(List.range n).map fun k=>V.int (g k)
theorem jO(n:Nat)(g:Nat->Int):(jP n g).length=n:=by unfold jP;rw[zn,vO]
theorem vc{n f:Nat}{g:Nat->Int}(h:f<n):(jP n g)[f]? =some (.int (g f)):=by
 unfold jP;rw[zZ,List.getElem?_range h]
 rfl
theorem zef{n f:Nat}{g:Nat->Int}{v:Int}(h:f<n):(jP n g).set f (.int v)=jP n (upF g f v):=by
 refine List.ext_getElem? fun i=>?_
 rw[zaE];by_cases b:i<n
 ·rw[vc b,jO]
  unfold upF;by_cases e:f=i
  ·subst e
   rw[zv rfl,zv h,vc h,zv rfl]
  ·rw[zu e,vc b,zu (z9 e)]
 ·have e1:(jP n (upF g f v))[i]? =none:=Wd (by rw[jO];omega)
  have e2:(jP n g)[i]? =none:=Wd (by rw[jO];omega)
  rw[e1,e2,zu (show ¬f=i by omega)]
theorem Vp{n f:Nat}{g:Nat->Int}(h:f<n):atI (jP n g) (f:Int)=some (.int (g f)):=by
 exact qK (vc h)
def s1(s:(Nat->Int)×List (Nat×Nat))(p:Nat×Nat):(Nat->Int)×List (Nat×Nat):=if 0<s.1 p.2 then(upF s.1 p.2 (s.1 p.2-1),s.2++[p]) else s
def P1(st:Nat->Int)(b:List (Nat×Nat)):(Nat->Int)×List (Nat×Nat):=b.foldl s1 (st,[])
theorem Ws(st:Nat->Int)(b:List (Nat×Nat))(p:Nat×Nat):P1 st (b++[p])=s1 (P1 st b) p:=by unfold P1;rw[zaD];rfl
def Zo(J:Job)(p:Nat):Str:=((J.ps[p]?).map yh.k).getD ""
def rdy(J:Job)(p:Nat)(b:Nat->Int):List Nat:=(atK J.fs (Zo J p) J.fs.length).filter fun k=>decide (0<b k)
def s2(J:Job)(s:(Nat->Int)×List (Nat×Option Nat))(p:Nat×Nat):(Nat->Int)×List (Nat×Option Nat):=
 if p.1∈s.2.map (·.1) then s else match rdy J p.1 s.1 with
  | []=>(s.1,s.2++[(p.1,none)])
  | k::_=>(upF s.1 k (s.1 k-1),s.2++[(p.1,some k)])
def som(l:List (Nat×Nat)):List (Nat×Option Nat):=l.map fun q=>(q.1,some q.2)
def P2(J:Job)(st:Nat->Int)(all b:List (Nat×Nat)):(Nat->Int)×List (Nat×Option Nat):=b.foldl (s2 J) ((P1 st all).1,som (P1 st all).2)
theorem Wp(J:Job)(st:Nat->Int)(all b:List (Nat×Nat))(p:Nat×Nat):P2 J st all (b++[p])=s2 J (P2 J st all b) p:=by unfold P2;rw[zaD];rfl
def Cnt1(st:Nat->Int)(s:(Nat->Int)×List (Nat×Nat)):Prop:=∀k,(((s.2.map (·.2)).count k:Nat):Int)+s.1 k=st k
def Cnt2(st:Nat->Int)(s:(Nat->Int)×List (Nat×Option Nat)):Prop:=∀k,(((s.2.map (·.2)).count (some k):Nat):Int)+s.1 k=st k
theorem Cnt1.step{st:Nat->Int}{s:(Nat->Int)×List (Nat×Nat)}(h:Cnt1 st s)(p:Nat×Nat):Cnt1 st (s1 s p):=by
 unfold s1;split
 ·intro k
  have hk:=h k;show((((s.2++[p]).map (·.2)).count k:Nat):Int)+upF s.1 p.2 (s.1 p.2-1) k=st k
  rw[zP,yM];unfold upF;by_cases e:k=p.2
  ·subst e
   rw[zv rfl,show([p].map (·.2)).count p.2=1 by simp]
   omega
  ·rw[zu e,show([p].map (·.2)).count k=0 by
    rw[qO,vP];exact List.count_eq_zero.mpr (by simpa using e)]
   omega
 ·exact h
theorem zfJ(st:Nat->Int)(b:List (Nat×Nat)):Cnt1 st (P1 st b):=by
 unfold P1;have:∀(b:List (Nat×Nat)) s,Cnt1 st s->Cnt1 st (b.foldl s1 s):=by
  intro b;induction b with
  | nil=>intro s h;exact h
  | cons p r c=>intro s h;exact c _ (h.step p)
 exact this b _ fun k=>by show((0:Nat):Int)+st k=st k;omega
theorem Wr(st:Nat->Int)(b:List (Nat×Nat)):(P1 st b).2.Sublist b:=by
 unfold P1;have:∀(b:List (Nat×Nat)) s (q:List (Nat×Nat)),s.2.Sublist q->(b.foldl s1 s).2.Sublist (q++b):=by
  intro b;induction b with
  | nil=>intro s q h;rw[jn];exact h
  | cons p r c=>
   intro s q h;rw[show q++p::r=(q++[p])++r by simp]
   refine c (s1 s p) (q++[p]) ?_
   unfold s1;split
   ·exact h.append (JQ _)
   ·exact h.trans (List.sublist_append_left _ _)
 exact this b (st,[]) [] (JQ _)
theorem WT(l:List (Nat×Nat)):(som l).map (·.1)=l.map (·.1):=by
 unfold som;rw[j9];rfl
theorem zfT(l:List (Nat×Nat))(k:Nat):((som l).map (·.2)).count (some k)=(l.map (·.2)).count k:=by
 induction l with
 | nil=>rfl
 | cons a r b=>
  show((some a.2)::(som r).map (·.2)).count (some k)=(a.2::r.map (·.2)).count k
  rw[yC,yC,b];by_cases e:a.2=k
  ·rw[e];simp
  ·simp[e]
theorem zfX{J:Job}{p k:Nat}{b:Nat->Int}(h:k∈rdy J p b):k<J.fs.length/\0<b k:=by
 obtain⟨h1,h2⟩:=qG.mp h;obtain⟨c,_⟩:=qG.mp h1;exact⟨xR.mp c,jy h2⟩
theorem Cnt2.step{J:Job}{st:Nat->Int}{s:(Nat->Int)×List (Nat×Option Nat)}(h:Cnt2 st s)(p:Nat×Nat):Cnt2 st (s2 J s p):=by
 unfold s2;split
 ·exact h
 ·split
  ·intro k
   have hk:=h k;show((((s.2++[(p.1,none)]).map (fun q:Nat×Option Nat=>q.2)).count (some k):Nat):Int)+s.1 k=st k
   rw[zP,yM,show(([(p.1,none)]:List (Nat×Option Nat)).map fun q=>q.2).count (some k)=0 from rfl]
   omega
  ·rename_i f r e
   intro k;have hk:=h k;show((((s.2++[(p.1,some f)]).map (fun q:Nat×Option Nat=>q.2)).count (some k):Nat):Int)+upF s.1 f (s.1 f-1) k=st k
   rw[zP,yM];unfold upF;by_cases e:k=f
   ·subst e
    rw[zv rfl,show(([(p.1,some k)]:List (Nat×Option Nat)).map fun q=>q.2).count (some k)=1 by simp]
    omega
   ·rw[zu e,show(([(p.1,some f)]:List (Nat×Option Nat)).map fun q=>q.2).count (some k)=0 by
     rw[qO,vP];exact List.count_eq_zero.mpr (by simpa using e)]
    omega
theorem zaZ(J:Job)(st:Nat->Int)(all b:List (Nat×Nat)):Cnt2 st (P2 J st all b):=by
 unfold P2;have:∀(b:List (Nat×Nat)) s,Cnt2 st s->Cnt2 st (b.foldl (s2 J) s):=by
  intro b;induction b with
  | nil=>intro s h;exact h
  | cons p r c=>intro s h;exact c _ (h.step p)
 refine this b _ fun k=>?_
 show((((som (P1 st all).2).map (·.2)).count (some k):Nat):Int)+(P1 st all).1 k=st k
 rw[zfT];exact zfJ st all k
structure Ky2(st:Nat->Int)(all ps:List (Nat×Nat))(s:(Nat->Int)×List (Nat×Option Nat)):Prop where
 nd:(s.2.map (·.1)).Nodup
 al:∀p∈ps,p.1∈s.2.map (·.1)
 sub:∀x∈s.2.map (·.1),x∈all.map (·.1)
 non:∀q∈s.2,q.2=none->q.1∈ps.map (·.1)
 len:s.2.length<=all.length
theorem yT{l m:List Nat}(h:l.Nodup)(hs:∀x∈l,x∈m):l.length<=m.length:=h.length_le_of_subset hs
theorem Ky2.step{J:Job}{st:Nat->Int}{all A:List (Nat×Nat)}{s:(Nat->Int)×List (Nat×Option Nat)}(h:Ky2 st all A s){p:Nat×Nat}(D:p∈all):Ky2 st all (A++[p]) (s2 J s p):=by
 have w:∀{v:Option Nat} (q:Nat×Option Nat),q∈s.2++[(p.1,v)]->q∈s.2\/q.1=p.1:=fun q hq=>by
  rcases qU.mp hq with h1 | h1
  ·exact .inl h1
  ·rw[qD.mp h1];exact .inr rfl
 have c:∀(g:Nat->Int) (v:Option Nat),p.1∉s.2.map (·.1)->Ky2 st all (A++[p]) (g,s.2++[(p.1,v)]):=fun g v f=>by
  have B:((s.2++[(p.1,v)]).map (·.1)).Nodup:=by
   rw[zP];refine ZA.mpr ⟨h.nd,by simp,fun a C b hb=>?_⟩
   rw[qO,vP,qD] at hb;intro e;exact f (by rw[<- hb,<- e];exact C)
  have sub:∀x∈(s.2++[(p.1,v)]).map (·.1),x∈all.map (·.1):=fun x hx=>by
   rw[zP] at hx;rcases qU.mp hx with h1 | h1
   ·exact h.sub x h1
   ·rw[qO,vP,qD] at h1
    rw[h1];exact zN.mpr ⟨p,D,rfl⟩
  refine⟨B,fun q hq=>?_,sub,fun q hq e=>?_,?_⟩
  ·rw[zP]
   rcases qU.mp hq with h1 | h1
   ·exact jN _ (h.al q h1)
   ·rw[qD.mp h1]
    exact qI _ (qD.mpr rfl)
  ·rw[zP]
   rcases w q hq with h1 | h1
   ·exact jN _ (h.non q h1 e)
   ·exact qI _ (by rw[h1];exact qD.mpr rfl)
  ·have:=yT B sub
   rw[zn,zn] at this;exact this
 unfold s2;split
 ·rename_i l
  refine⟨h.nd,fun q hq=>?_,h.sub,fun q hq e=>?_,h.len⟩
  ·rcases qU.mp hq with h1 | h1
   ·exact h.al q h1
   ·rw[qD.mp h1];exact l
  ·rw[zP]
   exact jN _ (h.non q hq e)
 ·rename_i f
  split
  ·exact c _ _ f
  ·exact c _ _ f
theorem zgU{st:Nat->Int}{all:List (Nat×Nat)}(h:(all.map (·.1)).Nodup):Ky2 st all [] ((P1 st all).1,som (P1 st all).2):=by
 have hs:=Wr st all;refine⟨?_,(fun p c=>nomatch c),fun x hx=>?_,fun q hq e=>?_,?_⟩
 ·show((som (P1 st all).2).map (·.1)).Nodup
  rw[WT];exact(hs.map (·.1)).nodup h
 ·have b:x∈(som (P1 st all).2).map (·.1):=hx
  rw[WT] at b;exact(hs.map (·.1)).subset b
 ·obtain⟨u,_,rfl⟩:=zN.mp (show q∈som (P1 st all).2 from hq)
  cases e
 ·show(som (P1 st all).2).length<=_
  unfold som;rw[zn];exact hs.length_le
theorem Wq{J:Job}{st:Nat->Int}{all:List (Nat×Nat)}(h:(all.map (·.1)).Nodup):∀{i:Nat},i<=all.length->Ky2 st all (all.take i) (P2 J st all (all.take i))
 | 0,_=>zgU h
 | i+1,f=>by
  have c:=Wq (J:=J) (st:=st) h (i:=i) (by omega)
  obtain⟨p,b⟩:∃p,all[i]? =some p:=⟨all[i]'(by omega),jh (by omega)⟩
  rw[zR b,Wp];exact c.step (qr b)
def oI(o:Option Nat):Option Int:=o.map fun k:Nat=>(k:Int)
def dkO(b:List (Nat×Option Nat)):List (Key×V):=b.map fun q=>(Sum.inl (q.1:Int),y3 (oI q.2))
def lkF(b:List (Nat×Option Nat))(p:Nat):Option (Option Nat):=(b.find? fun q=>decide (q.1=p)).map (·.2)
theorem yX(p:Nat):∀b:List (Nat×Option Nat),jr (dkO b) (Sum.inl (p:Int))=(lkF b p).map fun o=>y3 (oI o)
 | []=>rfl
 | q::r=>by
  by_cases e:q.1=p
  ·rw[show lkF (q::r) p=some q.2 by unfold lkF;rw[wj,zV e];rfl]
   exact jF (p:=(Sum.inl (q.1:Int),y3 (oI q.2))) (by rw[e])
  ·rw[show lkF (q::r) p=lkF r p by unfold lkF;rw[wj,jd e],<- yX p r]
   exact jG (p:=(Sum.inl (q.1:Int),y3 (oI q.2))) (fun z=>e (by
    have c:=x6 z;exact Ql c))
theorem ZU{b:List (Nat×Option Nat)}{p:Nat}:lkF b p=none↔p∉b.map (·.1):=by
 unfold lkF;rw[Option.map_eq_none_iff,List.find?_eq_none]
 constructor
 ·intro h c
  obtain⟨q,hq,e⟩:=zN.mp c;exact h q hq (zV e)
 ·intro h q hq e
  exact h (zN.mpr ⟨q,hq,jy e⟩)
theorem VD{b:List (Nat×Option Nat)}{p:Nat}{o:Option Nat}(h:lkF b p=some o):(p,o)∈b:=by
 unfold lkF at h;obtain⟨q,e,rfl⟩:=qE.mp h;have h1:=List.find?_some e
 have h2:=List.mem_of_find?_eq_some e
 have:q.1=p:=jy h1;rw[<- this];exact h2
theorem zit{b:List (Nat×Option Nat)}(f:(b.map (·.1)).Nodup){p:Nat}{o:Option Nat}(h:(p,o)∈b):lkF b p=some o:=by
 induction b with
 | nil=>cases h
 | cons q r g=>
  rw[qO,wX] at f;rcases qe.mp h with e | h
  ·subst e
   unfold lkF;rw[wj,zV rfl];rfl
  ·have c:¬q.1=p:=fun e=>f.1 (zN.mpr ⟨(p,o),h,e.symm⟩)
   rw[show lkF (q::r) p=lkF r p by unfold lkF;rw[wj,jd c]]
   exact g f.2 h
theorem zgG{b:List (Nat×Option Nat)}{p:Nat}{o:Option Nat}(h:p∉b.map (·.1)):xm (dkO b) (Sum.inl (p:Int)) (y3 (oI o))=dkO (b++[(p,o)]):=by
 rw[ZM _ (by rw[yX,ZU.mpr h];rfl)]
 unfold dkO;rw[zP];rfl
def wants(b:List (Nat×Option Nat)):List Nat:=(b.filter fun q=>decide (q.2=none)).map (·.1)
theorem zcy(b:List (Nat×Option Nat))(p:Nat)(o:Option Nat):wants (b++[(p,o)])=wants b++(match o with | some k=>[] | none=>[p]):=by
 unfold wants;rw[xT,zP];cases o<;>rfl
theorem wy{b:List (Nat×Option Nat)}{p:Nat}:p∈wants b↔(p,none)∈b:=by
 unfold wants;rw[zN];constructor
 ·rintro⟨q,hq,rfl⟩
  obtain⟨h1,h2⟩:=qG.mp hq;have:q.2=none:=jy h2;rw[<- this];exact h1
 ·intro h
  exact⟨(p,none),qG.mpr ⟨h,zV rfl⟩,rfl⟩
open Classical in
noncomputable def Vx (b:List (Int×Int)) (c:List Nat) (p:Nat):Bool:=decide (∃j∈c,∃k,Wk b k (j:Int) (p:Int))
open Classical in
theorem vf{b:List (Int×Int)}{c:List Nat}{p:Nat}:Vx b c p=true↔∃j∈c,∃k,Wk b k (j:Int) (p:Int):=by
 unfold Vx;exact xx
def fdN(b:List (Nat×Option Nat))(p:Nat):Nat:=((lkF b p).getD none).getD 0
noncomputable def jU (c:List (Nat×Option Nat)) (b:Nat->Bool) (t:zS):zS:=⟨(t.pk.filter fun p=>!b p.1).map fun p=>(p.1,fdN c p.1),t.ly.filter fun p=>!b p⟩
noncomputable def zT (b:List (Nat×Option Nat)) (c:Nat->Bool) (f:List zS):List zS:=(f.map (jU b c)).filter fun t=>!t.pk.isEmpty
def zj(b:List zS):List (Nat×Nat):=b.flatMap (·.pk)
def srt(l:List Int):List Int:=l.mergeSort fun a b=>decide (a<=b)
theorem wq(l:List Int):(srt l).Perm l:=List.mergeSort_perm _ _
theorem zhG(l:List Int):(srt l).Pairwise (·<= ·):=by
 have:=List.pairwise_mergeSort (le:=fun a b:Int=>decide (a<=b)) (fun a b c h1 h2=>zV (Int.le_trans (jy h1) (jy h2))) (fun a b=>by
  rcases Int.le_total a b with h | h
  ·rw[zV h];rfl
  ·rw[zV h,VY]) l
 exact this.imp fun h=>jy h
theorem zeu{a b:List Int}(h:a.Perm b)(c:a.Pairwise (·<= ·))(hb:b.Pairwise (·<= ·)):a=b:=by
 induction a generalizing b with
 | nil=>exact(List.Perm.nil_eq h)
 | cons x a f=>
  cases b with
  | nil=>exact absurd h.length_eq (by simp)
  | cons y b=>
   rw[V6] at c hb;have g:x=y:=by
    have h1:y∈x::a:=h.mem_iff.mpr jm;have h2:x∈y::b:=h.mem_iff.mp jm;rcases qe.mp h1 with z | z
    ·exact z.symm
    ·rcases qe.mp h2 with u | u
     ·exact u
     ·have:=c.1 y z
      have:=hb.1 x u;omega
   subst g;rw[f (List.Perm.cons_inv h) c.2 hb.2]
theorem Vl{b l:List Int}(h:b.Perm l)(c:b.Pairwise (·<= ·)):b=srt l:=zeu (h.trans (wq l).symm) c (zhG l)
noncomputable def vT (b:List (Nat×Option Nat)) (c:Nat->Bool) (f:List (Nat×Nat)):List Nat:=(f.filter fun p=>!c p.1&&decide (fdN b p.1≠p.2)).map (·.1)
noncomputable def vo (b:Nat->Bool) (c:List (Nat×Nat)):List Nat:=(c.map (·.1)).filter b
end L2
namespace L2
open PySem PySem.Spec PyProof.Rows
theorem wP(b:List zS)(t:zS):zj (b++[t])=zj b++t.pk:=by
 unfold zj;rw[QF];simp
theorem JH(b:List zS)(i:Nat):(zj (b.take i)).length<=(zj b).length:=by
 have e:zj b=zj (b.take i)++zj (b.drop i):=by
  unfold zj;rw[<- QF,JW]
 rw[e,qo];omega
section
variable{P:Program}{w:World}{K:W.Frag}{G:Str->Option Value}{C:Heap}
inductive zdN(K:W.Frag)(f:List V)(H:Hp)(Q:VK):Prop
 | mk (l:Addr) (g:List V) (c:List zS) (_:f=[.ref l]) (_:SqL K H l g) (_:Reps K H (c.map jH) g) (_:(zj c).length<=60) (_:∀(p:Addr) (s:List V) b,Same H b->H p=none->b p=some (.lst s)->Reps K b ((zj c).map jJ) s->Q (.ref p) b):zdN K f H Q
def Xg(K:W.Frag):Sp:=fun b H Q _=>zdN K b H Q
theorem zjw:zD ["plan"] ["plan"] (zy (topL 13)):=u3
theorem zj3{f:Addr}{fd:FuncData}(F:Fun K "picks_in" "picks_in" (topL 13) f fd)(B:Blt G):qY P w K G C CX0 1 f fd ["plan"] (Xg K):=by
 have nd:=zjw.nd;refine F.ok zjw (fun vs H Q E h=>?_) (fun aa A Y s H vs Q E hr h=>?_)
 ·obtain⟨l,T,N,rfl,_⟩:=h
  rfl
 ·obtain⟨l,T,N,rfl,hl,rl,al,k⟩:=h
  have a0:=bG1000000;have ll:=rl.len;rw[zn] at ll;refine⟨_,(zo (zB (zf8 [] [] rfl rfl (by kernel_rfl) (qg (pv 0)) (fun _ _ _ _=>qS) (fun _ _ _ _=>(Vt (K:=K) rfl (pv 0))) (fun _ _ _ _=>qS) (fun _ _ _ _=>(pv 2))))),?_⟩
  refine⟨_,rfl,l,rfl,⟨_,hl⟩,ze1 (K:=K) (a:=l) (xs:=T) (fun i M I=>Reps K I ((zj (N.take i)).map jJ) M/\Same H I) ⟨rfl,u5 _⟩ (fun i M I ⟨_,D⟩=>D.seq hl) ?_ ?_⟩
  ·rintro i x M I hx ⟨J,D⟩
   obtain⟨d,e1,r1⟩:=(rl.same D).get hx;rw[zZ] at e1;obtain⟨t,et,rfl⟩:=qE.mp e1;obtain⟨a,b,c,ps,ys,rfl,qa,qb,rb,qc,rc⟩:=jZ r1;have lb:=rb.len;rw[zn] at lb;have zl:=J.len;rw[zn] at zl;have le1:=JH N (i+1);rw[zR et,wP,qo] at le1;refine⟨a,_,rfl,qa,rfl,_,_,rfl,_,_,rfl,rfl,rfl,?_⟩
   refine⟨_,rfl,b,rfl,⟨_,qb⟩,ziB (K:=K) (a:=b) (xs:=ps) (fun j O L=>Reps K L ((zj (N.take i)++t.pk.take j).map jJ) O/\Same I L) ⟨by simpa using J,u5 _⟩ (fun j O L ⟨_,s2⟩=>s2.sqT qb) ?_ ?_⟩
   ·rintro j y O L hy ⟨g,s2⟩
    obtain⟨d2,e2,r2⟩:=(rb.same s2).get hy;rw[zZ] at e2;obtain⟨p,ep,rfl⟩:=qE.mp e2;have hj:=(zC.mp ep).1;have wl:=g.len;rw[zn,qo,qm] at wl;refine⟨⟨rfl,rfl,trivial⟩,?_⟩
    refine⟨_,rfl,by omega,?_,s2⟩
    rw[zR ep,<- yG,zP (l₂:=[p])];exact g.snoc r2
   ·rintro O L ⟨g,s2⟩
    refine⟨?_,D.trans s2⟩
    rw[lb,qz] at g;rw[zR et,wP];exact g
  rintro M I ⟨J,D⟩;rw[ll,qz] at J;have zl:=J.len;rw[zn] at zl;exact⟨by omega,fun p U=>k p M _ (D.trans (zb U)) (D.free U) zd (J.same (zb U))⟩
def kpN(l:List (Nat×Nat)):List (Key×V):=l.map fun q=>(Sum.inl (q.1:Int),V.int (q.2:Int))
inductive zdJ(K:W.Frag)(g:List V)(H:Hp)(Q:VK):Prop
 | mk (l c:Addr) (s:List V) (f:List zS) (n:Nat) (st:Nat->Int) (_:g=[.ref l,.ref c]) (_:SqL K H l s) (_:Reps K H (f.map jH) s) (_:(zj f).length<=60) (_:SqL K H c (jP n st)) (_:n<=100) (_:(∀p∈zj f,p.2<n)) (_:∀(p:Addr) (A:List V) b,Same H b->H p=none->b p=some (.lst A)->PrsL b A (kpN (P1 st (zj f)).2)->Q (.ref p) b):zdJ K g H Q
def zjd(K:W.Frag):Sp:=fun b H Q _=>zdJ K b H Q
theorem zjt:zD ["plan","stock","taken","stay","part","feeder"] ["plan","stock"] (zy (topL 14)):=u3
def zcx(l:_)(c:_)(g:_)(f:_)(H:_)(B:_)(D:_)(J:List V)(n:_)(st:Nat->Int)(s:List zS):=fun(i:Nat) (σ:St) (b:Hp)=>(Ex3 fun(E I:Option V) (A:List V)=>An7 (σ=[some (.ref l),some (.ref c),some (.ref g),some (.ref f),E,I]) (Same H b) (SameT B b) (b D=some (.lst J)) (b g=some (.lst (jP n fun k=>st k-(P1 st ((zj s).take i)).1 k))) (b f=some (.lst A)) (PrsL b A (kpN (P1 st ((zj s).take i)).2)):Prop)
theorem zj0{f:Addr}{fd:FuncData}(F:Fun K "staying_picks" "staying_picks" (topL 14) f fd)(B:Blt G)(D:Dfn P w K G C "picks_in" 1 ["plan"] (Xg K)):qY P w K G C CX0 2 f fd ["plan","stock"] (zjd K):=by
 have nd:=zjt.nd;refine F.ok zjt (fun vs H Q E h=>?_) (fun ar A an s H vs Q E hr h=>?_)
 ·obtain⟨l,c,xs,b,n,st,rfl,_⟩:=h
  rfl
 ·obtain⟨l,c,xs,b,n,st,rfl,hl,rl,al,hc,n1,fn,k⟩:=h
  have aq:=bG1000000;refine⟨_,(zf (Jc [] [] rfl rfl (by kernel_rfl) (qg (pv 1)) (fun _ _ _ _=>qS) (fun _ _ _ _=>zi) (zq (i:=2) nd rfl (Or.inl rfl)))
   (zf (zE (i:=3) nd rfl (Or.inl rfl) (qC ze))
   (zf (qZ jC rfl (qg (zk D hr.m rfl (za (pv 0) ze))) (qL rfl (zr (zq (i:=4) nd rfl (Or.inl rfl)) (zr (zq (i:=5) nd rfl (Or.inl rfl)) qk)))
   (zo (jB (zG W4 (zF qJ (pv 2) (pv 5) (fun _ _=>rfl)) (zF qJ (pv 1) (pv 5) (fun _ _=>rfl)) (zL _))
    (zf (zf1 (pv 2) (pv 5) zfb zi ziA yi)
     (zo (jt (xE xL w9 w8 jE (pv 3) (za (qX (za (pv 4) (za (pv 5) ze))) ze)))))
    qF)))
   (zo (zB (pv 3)))))),?_⟩
  refine⟨_,rfl,c,rfl,⟨_,hc⟩,qQ (K:=K) (a:=c) (xs:=jP n st) (fun i L H1=>L=jP i (fun _=>0)/\Same H H1) ⟨rfl,u5 _⟩ (fun i L H1 ⟨_,sm⟩=>sm.seq hc) ?_ ?_⟩
  ·rintro i x L H1 hx ⟨rfl,sm⟩
   have il:=(zC.mp hx).1;rw[jO] at il;refine⟨rfl,by rw[jO];omega,?_,sm⟩
   unfold jP;rw[JN,zP];rfl
  rintro L H1 ⟨e1,sm⟩;rw[jO n st] at e1;subst e1;refine⟨by rw[jO];omega,fun g ac=>⟨le0,fun M O=>?_⟩⟩
  have aa:g≠M:=zm zd O;have ap:H g=none:=sm.free ac;have ag:H M=none:=sm.free (by rw[<- O,zp (z9 aa)])
  have T2:upd (upd H1 g (.lst (jP n fun _=>0))) M (.lst []) g=some (.lst (jP n fun _=>0)):=(zb O) _ _ zd
  have Y2:upd (upd H1 g (.lst (jP n fun _=>0))) M (.lst []) M=some (.lst []):=zd
  have s2:=(sm.trans (zb (o:=.lst (jP n fun _=>0)) ac)).trans (zb (o:=.lst []) O)
  generalize upd (upd H1 g (.lst (jP n fun _=>0))) M (.lst [])=H2 at *
  refine⟨_,rfl,l,xs,b,rfl,s2.seq hl,rl.same s2,al,fun pl ys H3 s3 ae ab rp=>?_⟩
  have am:pl≠g:=z9 (zm T2 ae);have ak:pl≠M:=z9 (zm Y2 ae);have lp:=rp.len;rw[zn] at lp;refine⟨pl,rfl,⟨_,u4 ab⟩,jW (K:=K) (a:=pl) (xs:=ys) (zcx l c g M H H3 pl ys n st b) ⟨_,_,[],rfl,s2.trans s3,SameT.refl _,ab,?_,s3 _ _ Y2,PrsL.nil⟩ (fun i σ Y _ ⟨_,_,_,_,_,_,h,_,_,_⟩=>u4 h) ?_ ?_⟩
  ·rw[s3 _ _ T2]
   have e0:(fun k=>st k-(P1 st ((zj b).take 0)).1 k)=fun _=>0:=funext fun k=>by
    show st k-st k=0;omega
   rw[e0]
  ·rintro i x σ Y hx ⟨v4,v5,L,rfl,s4,T4,a0,I,U,J⟩
   obtain⟨d,e1,r1⟩:=(rp.keep T4 (qA _)).get hx;rw[zZ] at e1;obtain⟨p,ep,rfl⟩:=qE.mp e1;obtain⟨pa,rfl,qp⟩:=qv r1;have il:=(zC.mp ep).1;have pf:=fn p (qr ep);have ah:=s4.seq hc;have es:P1 st ((zj b).take (i+1))=s1 (P1 st ((zj b).take i)) p:=by rw[zR ep,Ws]
   have zl:L.length<=60:=by
    have h1:=J.1;have h2:=(Wr st ((zj b).take i)).length_le;rw[qm] at h2;unfold kpN at h1;rw[zn] at h1;omega
   refine⟨pa,_,rfl,qp,rfl,_,_,rfl,_,_,rfl,rfl,?_⟩
   refine⟨_,rfl,_,rfl,g,_,_,_,rfl,rfl,u4 I,Vp pf,_,rfl,_,rfl,c,_,_,_,rfl,rfl,ah,Vp pf,_,_,rfl,rfl,_,rfl,xC (fun cc=>?_) (fun cc=>?_)⟩
   ·have c':0<(P1 st ((zj b).take i)).1 p.2:=by have:=jy cc;omega
    refine⟨_,rfl,_,rfl,g,_,p.2,_,rfl,rfl,u4 I,vc pf,_,_,rfl,rfl,g,_,_,p.2,rfl,rfl,I,by rw[jO];exact VG pf,?_⟩
    rw[zef pf];have eg:upF (fun k=>st k-(P1 st ((zj b).take i)).1 k) p.2 (st p.2-(P1 st ((zj b).take i)).1 p.2+1)=fun k=>st k-(P1 st ((zj b).take (i+1))).1 k:=funext fun k=>by
     rw[es,s1,zv c'];unfold upF;show(if k=p.2 then _ else _)=st k-(if k=p.2 then _ else _)
     by_cases e:k=p.2
     ·rw[zv e,zv e,e];omega
     ·rw[zu e,zu e]
    rw[eg];have s5:=s4.put (o:=.lst (jP n fun k=>st k-(P1 st ((zj b).take (i+1))).1 k)) ap
    have T5:=T4.trans (ub (ys:=jP n fun k=>st k-(P1 st ((zj b).take (i+1))).1 k) I)
    have ai:upd Y g (.lst (jP n fun k=>st k-(P1 st ((zj b).take (i+1))).1 k)) pl=some (.lst ys):=by rw[zp am];exact a0
    have aj:upd Y g (.lst (jP n fun k=>st k-(P1 st ((zj b).take (i+1))).1 k)) g=some (.lst (jP n fun k=>st k-(P1 st ((zj b).take (i+1))).1 k)):=zd
    have N:upd Y g (.lst (jP n fun k=>st k-(P1 st ((zj b).take (i+1))).1 k)) M=some (.lst L):=by rw[zp (z9 aa)];exact U
    have ao:PrsL (upd Y g (.lst (jP n fun k=>st k-(P1 st ((zj b).take (i+1))).1 k))) L (kpN (P1 st ((zj b).take i)).2):=⟨J.1,fun j x e=>by
     obtain⟨T,kk,v,h1,h2,h3⟩:=J.2 j x e;exact⟨T,kk,v,h1,by rw[zp (fun z=>by rw[z,I] at h2;cases h2)];exact h2,h3⟩⟩
    generalize upd Y g (.lst (jP n fun k=>st k-(P1 st ((zj b).take (i+1))).1 k))=H5 at *
    refine⟨_,rfl,.inl ⟨rfl,_,u4 N⟩,_,rfl,_,rfl,le2,fun q hq=>?_⟩
    have s6:=zb (H:=H5) (o:=.tup [.int p.1,.int p.2]) hq;have as:q≠M:=z9 (zm N hq);refine⟨M,L,.ref q,rfl,rfl,s6 _ _ N,by omega,_,_,L++[.ref q],rfl,(s5.trans s6).put ag,(T5.trans (SameT.of s6)).trans (ub (s6 _ _ N)),?_,?_,zd,?_⟩
    ·rw[zp ak];exact s6 _ _ ai
    ·rw[zp aa];exact s6 _ _ aj
    ·rw[es,s1,zv c',show kpN ((P1 st ((zj b).take i)).2++[p])=kpN (P1 st ((zj b).take i)).2++[(Sum.inl (p.1:Int),V.int (p.2:Int))] by unfold kpN;rw[zP];rfl]
     have af:=(ao.same s6).snoc (T:=q) (k:=Sum.inl (p.1:Int)) (v:=V.int (p.2:Int)) zd;exact⟨af.1,fun j x e=>by
      obtain⟨T,kk,v,h1,h2,h3⟩:=af.2 j x e;exact⟨T,kk,v,h1,by rw[zp (fun z=>by rw[z,s6 _ _ N] at h2;cases h2)];exact h2,h3⟩⟩
   ·have c':¬0<(P1 st ((zj b).take i)).1 p.2:=fun z=>cc (zV (by omega))
    refine⟨_,_,L,rfl,s4,T4,a0,?_,U,?_⟩
    ·rw[I,es,s1,zu c']
    ·rw[es,s1,zu c'];exact J
  ·rintro σ Y ⟨v4,v5,L,rfl,s4,T4,a0,I,U,J⟩
   rw[lp,qz] at J;exact⟨_,rfl,k M L Y s4 ag U J⟩
theorem Ji:∀(c b:List (Key×V)),((b++c).map (·.1)).Nodup->jL b c=b++c
 | [],b,_=>by rw[jn];rfl
 | q::r,b,h=>by
  have e:b++q::r=(b++[q])++r:=by simp
  have s:q.1∉b.map (·.1):=by
   rw[zP,qO] at h;obtain⟨_,_,g⟩:=ZA.mp h;exact fun l=>g _ l _ jm rfl
  have hv:jr b q.1=none:=by
   unfold jr;rw[Option.map_eq_none_iff,List.find?_eq_none]
   intro x hx f;exact s (zN.mpr ⟨x,hx,jy f⟩)
  show jL (xm b q.1 q.2) r=_;rw[ZM _ hv,e];exact Ji r (b++[q]) (by rw[<- e];exact h)
theorem zgx(l:List (Nat×Nat)):kpN l=dkO (som l):=by
 unfold kpN dkO som;rw[j9];rfl
theorem zc4{l:List (Nat×Nat)}(h:(l.map (·.1)).Nodup):((kpN l).map (·.1)).Nodup:=by
 unfold kpN;rw[j9];have:(l.map ((fun p:Key×V=>p.1)∘fun q:Nat×Nat=>(Sum.inl (q.1:Int),V.int (q.2:Int))))=(l.map (·.1)).map fun k:Nat=>(Sum.inl (k:Int):Key):=by rw[j9];rfl
 rw[this];exact List.Pairwise.map _ (fun a b z y=>z (Ql (x6 y))) h
theorem zfj(l:List (Option Nat))(k:Nat):(l.map oI).count (some (k:Int))=l.count (some k):=by
 induction l with
 | nil=>rfl
 | cons a r b=>
  rw[qO,yC,yC,b];cases a with
  | none=>rfl
  | some j=>
   have e:(oI (some j)==some (k:Int))=(some j==some k):=by
    rw[xw,xu,xu];constructor
    ·intro h
     have:=jq (show some (j:Int)=some (k:Int) from h)
     rw[Ql this]
    ·intro h
     rw[jq h];rfl
   rw[e]
theorem zgA{J:Job}{p:Nat}{b:yh}(h:J.ps[p]? =some b):Zo J p=b.k:=by unfold Zo;rw[h];rfl
theorem jf{α:Type}(f:α->Bool){l:List α}{i:Nat}{x:α}(h:l[i]? =some x):(l.take (i+1)).filter f=(l.take i).filter f++(if f x=true then [x] else []):=by
 rw[zR h,xT];cases b:f x
 ·rw[J3 (by rw[b];exact qR)];rfl
 ·rw[J4 b];rfl
theorem ziQ(fs:List wD)(b:Str)(n:Nat):(atK fs b n).Pairwise (·< ·):=List.Pairwise.filter _ zaR
theorem zhT(J:Job)(p:Nat)(b:Nat->Int):(rdy J p b).Pairwise (·< ·):=List.Pairwise.filter _ (ziQ _ _ _)
structure Brk(J:Job)(ts:List zS):Prop where
 al:(zj ts).length<=60
 nd:((zj ts).map (·.1)).Nodup
 ok:∀p∈zj ts,p.1<J.ps.length/\p.2<J.fs.length
 fl:J.fs.length<=60
def zU(J:Job)(st:Nat->Int)(b:List zS):List (Nat×Option Nat):=(P2 J st (zj b) (zj b)).2
inductive zdP(K:W.Frag)(s:List V)(H:Hp)(Q:VK):Prop
 | mk (g l c:Addr) (J:Job) (A:List V) (f:List zS) (st:Nat->Int) (_:s=[.ref g,.ref l,.ref c]) (_:Rep K H (xQ J) (.ref g)) (_:SqL K H l A) (_:Reps K H (f.map jH) A) (_:Brk J f) (_:SqL K H c (jP J.fs.length st)) (_:∀(p:Addr) (o:Obj) b,Same H b->H p=none->b p=some (.frz o (.dK (dkO (zU J st f))))->Q (.ref p) b):zdP K s H Q
def zjf(K:W.Frag):Sp:=fun b H Q _=>zdP K b H Q
theorem zjx:zD ["job","plan","stock","feeders","part","feeder","taken","ready"] ["job","plan","stock"] (zy (topL 15)):=u3
def zcw(s:_)(l:_)(c:_)(d:_)(H:_)(g:_)(A:_)(L:List V)(J:Job)(st:Nat->Int)(f:List zS):=fun(i:Nat) (σ:St) (b:Hp)=>(Ex4 fun(B D E I:Option V)=>An5 (σ=[some (.ref s),some (.ref l),some (.ref c),some (.ref d),B,D,E,I]) (Same H b) (SameT g b) (b A=some (.lst L)) (b d=some (.dK (dkO (P2 J st (zj f) ((zj f).take i)).2))):Prop)
theorem zj4{f:Addr}{fd:FuncData}(F:Fun K "new_feeders" "new_feeders" (topL 15) f fd)(B:Blt G)(N:Dfn P w K G C "picks_in" 1 ["plan"] (Xg K))(D:Dfn P w K G C "staying_picks" 2 ["plan","stock"] (zjd K))(M:Dfn P w K G C "feeders_for" 1 ["job","kind"] (zg5 K)):qY P w K G C CX0 3 f fd ["job","plan","stock"] (zjf K):=by
 have nd:=zjx.nd;refine F.ok zjx (fun vs H Q E h=>?_) (fun bg A az s H vs Q E hr h=>?_)
 ·obtain⟨jp,l,c,J,xs,L,st,rfl,_⟩:=h
  rfl
 ·obtain⟨jp,l,c,J,xs,L,st,rfl,rj,hl,rl,bk,hc,k⟩:=h
  have bf:=bG1000000;have an:=hr.units;have am:=XY hr;have al:=bk.al;have fl:=bk.fl;refine⟨_,(zf (zE (i:=3) nd rfl (Or.inl rfl) (qH (JB hr.hd) rfl B.dict X7 (za (zk D hr.m rfl (za (pv 1) (za (pv 2) ze))) ze)))
   (zf (qZ jC rfl (qg (zk N hr.m rfl (za (pv 1) ze))) (qL rfl (zr (zq (i:=4) nd rfl (Or.inl rfl)) (zr (zq (i:=5) nd rfl (Or.inl rfl)) qk)))
   (zo (jB (zel (XS am (pv 4) (pv 3)))
    (zf (zE (i:=6) nd rfl (Or.inr rfl) (qH (zao hr.hd) rfl B.list xJ (za (zey PySem.F.slot_dict_values PySem.F.type_dict_values zcY (pv 3)) ze)))
     (zf (Jc ["stock","taken"] [2,6] rfl rfl (by kernel_rfl) (qg (zk M hr.m rfl (za (pv 0) (za (zF je (zF je (zF je (pv 0) zi (fun _ _=>rfl)) (pv 4) (fun _ _=>rfl)) zi (fun _ _=>rfl)) ze)))) (fun _ _ _ _=>(ju (zG W4 (zib (K:=K) rfl xL PySem.F.slot_list_count PySem.F.type_list_count zc1 (pv 2) (za (pv 0) ze)) (zF (yu (K:=K) rfl) (pv 1) (pv 0) (fun _ _=>rfl)) (zL _)))) (fun _ _ _ _=>(pv 0)) (zq (i:=7) nd rfl (Or.inl rfl)))
     (zo (zbB am (pv 3) (pv 4) (Y8 (zan rfl an) rfl B.min zfo (za (pv 7) ze) wb) rfl))))
    qF)))
   (zo (zB (zh9 (pv 3)))))),?_⟩
  refine⟨_,rfl,_,rfl,l,c,xs,L,_,st,rfl,hl,rl,al,hc,by omega,fun p hp=>(bk.ok p hp).2,fun sy zs H1 aa bj ak pr=>?_⟩
  refine⟨sy,zs,_,rfl,ak,pr,fun d hd=>?_⟩
  have ax:(((P1 st (zj L)).2).map (·.1)).Nodup:=((Wr st (zj L)).map (·.1)).nodup bk.nd
  have d0:H d=none:=aa.free hd;have D2:upd H1 d (.dK (jL [] (kpN (P1 st (zj L)).2))) d=some (.dK (dkO (som (P1 st (zj L)).2))):=by rw[zd,Ji _ [] (by rw[yL];exact zc4 ax),yL,zgx]
  have ab:=aa.trans (zb (H:=H1) (o:=.dK (jL [] (kpN (P1 st (zj L)).2))) hd);generalize upd H1 d (.dK (jL [] (kpN (P1 st (zj L)).2)))=H2 at *
  clear ak pr aa;refine⟨_,rfl,l,xs,L,rfl,ab.seq hl,rl.same ab,al,fun pl ys H3 s3 b0 ai rp=>?_⟩
  have ay:pl≠d:=z9 (zm D2 b0);have lp:=rp.len;rw[zn] at lp;refine⟨pl,rfl,⟨_,u4 ai⟩,jW (K:=K) (a:=pl) (xs:=ys) (zcw jp l c d H H3 pl ys J st L) ⟨_,_,_,_,rfl,ab.trans s3,SameT.refl _,ai,s3 _ _ D2⟩ (fun i σ H4 _ ⟨_,_,_,_,_,_,_,h,_⟩=>u4 h) ?_ ?_⟩
  ·rintro i x σ H4 hx ⟨v4,v5,v6,v7,rfl,s4,T4,a0,I⟩
   obtain⟨dd,e1,r1⟩:=(rp.keep T4 (qA _)).get hx;rw[zZ] at e1;obtain⟨p,ep,rfl⟩:=qE.mp e1;obtain⟨pa,rfl,qp⟩:=qv r1;have il:=(zC.mp ep).1;obtain⟨p1,p2⟩:=bk.ok p (qr ep);have es:P2 J st (zj L) ((zj L).take (i+1))=s2 J (P2 J st (zj L) ((zj L).take i)) p:=by rw[zR ep,Wp]
   have ky:=Wq (J:=J) (st:=st) bk.nd (i:=i) (by omega)
   have cn:=zaZ J st (zj L) ((zj L).take i);generalize P2 J st (zj L) ((zj L).take i)=S at es ky cn I;refine⟨pa,_,rfl,qp,rfl,_,_,rfl,_,_,rfl,rfl,?_⟩
   refine⟨_,rfl,_,rfl,d,_,rfl,DGet.k (k:=Sum.inl (p.1:Int)) I,_,rfl,xC (fun cc=>?_) (fun cc=>?_)⟩
   ·rw[yX] at cc
    have hn:p.1∉S.2.map (·.1):=by
     refine ZU.mp ?_
     cases au:lkF S.2 p.1 with
     | none=>rfl
     | some o=>rw[au] at cc;cases cc
    refine⟨_,rfl,d,rfl,.inl ⟨_,.inl I⟩,d,_,rfl,rfl,.inl I,fun pv aj=>⟨pv,d,_,rfl,zd,.inl ((zb aj) _ _ I),fun tl aw=>?_⟩⟩
    have ev:(dkO S.2).map (·.2)=(S.2.map fun q=>oI q.2).map y3:=by
     unfold dkO;rw[j9,j9];rfl
    have s6:=(zb (H:=H4) (o:=QX pv d) aj).trans (zb (o:=.lst ((dkO S.2).map (·.2))) aw)
    have L6:upd (upd H4 pv (QX pv d)) tl (.lst ((dkO S.2).map (·.2))) tl=some (.lst ((S.2.map fun q=>oI q.2).map y3)):=by rw[zd,ev]
    generalize upd (upd H4 pv (QX pv d)) tl (.lst ((dkO S.2).map (·.2)))=H6 at *
    have ao:=s4.trans s6;obtain⟨g,fs,ps,as,fv,px,qj,_,qf,rf,bb,bc,_⟩:=xW (rj.same ao);obtain⟨T,ac⟩:∃T,J.ps[p.1]? =some T:=⟨J.ps[p.1],jh p1⟩;obtain⟨v,aq,bd⟩:=wO bc ac;obtain⟨a1,c1,rfl,ba,_⟩:=xV bd;refine⟨_,rfl,_,rfl,jp,_,_,_,rfl,rfl,qj,qK (j:=3) rfl,_,rfl,ps,_,_,_,rfl,rfl,bb,qK aq,a1,_,_,_,rfl,rfl,ba,qK (j:=0) rfl,jp,J,T.k,rfl,rj.same ao,by omega,fun fl H7 bi s7 af=>?_⟩
    have ap:=s6.trans s7;have be:=s4.trans ap;have L7:=s7 _ _ L6;have c7:=be.seq hc;have lf:(zt (atK J.fs T.k J.fs.length)).length=(atK J.fs T.k J.fs.length).length:=zA _;have la:=Qk J.fs T.k J.fs.length;refine⟨fl,rfl,⟨_,u4 af⟩,qQ (K:=K) (a:=fl) (xs:=zt (atK J.fs T.k J.fs.length)) (fun i zs Y=>zs=zt (((atK J.fs T.k J.fs.length).take i).filter fun k=>decide (0<S.1 k))/\Same H7 Y) ⟨rfl,u5 _⟩ (fun i zs Y ⟨_,U⟩=>u4 (U _ _ af)) ?_ ?_⟩
    ·rintro j x zs Y hx ⟨rfl,U⟩
     obtain⟨kk,ek,rfl⟩:=ww hx;have jl:=(zC.mp ek).1;have kl:kk<J.fs.length:=xR.mp (qG.mp (qr ek)).1;have bh:=cn kk;have ec:((S.2.map fun q=>oI q.2).count (some (kk:Int)))=(S.2.map (·.2)).count (some kk):=by
      have:(S.2.map fun q=>oI q.2)=(S.2.map (·.2)).map oI:=by rw[j9];rfl
      rw[this];exact zfj _ _
     refine⟨rfl,_,rfl,.inl ⟨rfl,_,u4 (U _ _ L7)⟩,_,rfl,tl,_,_,rfl,rfl,U _ _ L7,_,rfl,_,rfl,c,_,_,_,rfl,rfl,U.seq c7,Vp kl,_,_,rfl,rfl,_,rfl,xC (fun c2=>?_) (fun c2=>?_)⟩
     ·have c3:0<S.1 kk:=by
       have:=jy c2;rw[ec] at this;omega
      refine⟨_,rfl,?_,?_,U⟩
      ·rw[zA]
       exact wY (qV _ _) (by rw[qm];omega)
      ·rw[jf _ ek,zV c3,zv rfl,jA]
     ·have c3:¬0<S.1 kk:=fun z=>c2 (zV (by rw[ec];omega))
      refine⟨?_,U⟩
      rw[jf _ ek,jd c3,zu qR,jn]
    rintro zs Y ⟨e8,U⟩;rw[lf,qz,show(atK J.fs T.k J.fs.length).filter (fun k=>decide (0<S.1 k))=rdy J p.1 S.1 by unfold rdy;rw[zgA ac]] at e8
    subst e8;have lr:(rdy J p.1 S.1).length<=J.fs.length:=by
     unfold rdy;exact jk (qV _ _) (Qk _ _ _)
    refine⟨by rw[zA];omega,fun rd av=>?_⟩
    have s9:=U.trans (zb (H:=Y) (o:=.lst (zt (rdy J p.1 S.1))) av);have R9:upd Y rd (.lst (zt (rdy J p.1 S.1))) rd=some (.lst (zt (rdy J p.1 S.1))):=zd;generalize upd Y rd (.lst (zt (rdy J p.1 S.1)))=H9 at *
    have O:=ap.trans s9;have ae:∀o:Option Nat,(P2 J st (zj L) ((zj L).take (i+1))).2=S.2++[(p.1,o)]->Ex4 fun(v4 v5 v6 v7:Option V)=>An5 ([some (V.ref jp),some (.ref l),some (.ref c),some (.ref d),some (V.int (p.1:Int)),some (V.int (p.2:Int)),some (V.ref tl),some (V.ref rd)]=[some (.ref jp),some (.ref l),some (.ref c),some (.ref d),v4,v5,v6,v7]) (Same H (upd H9 d (.dK (xm (dkO S.2) (Sum.inl (p.1:Int)) (y3 (oI o)))))) (SameT H3 (upd H9 d (.dK (xm (dkO S.2) (Sum.inl (p.1:Int)) (y3 (oI o)))))) (upd H9 d (.dK (xm (dkO S.2) (Sum.inl (p.1:Int)) (y3 (oI o)))) pl=some (.lst ys)) (upd H9 d (.dK (xm (dkO S.2) (Sum.inl (p.1:Int)) (y3 (oI o)))) d=some (.dK (dkO (P2 J st (zj L) ((zj L).take (i+1))).2))):=fun o eo=>by
     refine⟨_,_,_,_,rfl,(s4.trans O).put d0,(T4.trans (SameT.of O)).trans (SameT.putD (O _ _ I)),?_,?_⟩
     ·rw[zp ay];exact O _ _ a0
     ·rw[zd,eo,zgG hn]
    have kl:=ky.len;have dl:(dkO S.2).length<sizeLine:=by
     unfold dkO;rw[zn];omega
    refine⟨_,rfl,rd,nI (rdy J p.1 S.1),rfl,by rw[show(nI (rdy J p.1 S.1)).map V.int=zt (rdy J p.1 S.1) by unfold nI zt;rw[j9];rfl];exact u4 R9,fun e0=>?_,fun m hm ah=>?_⟩
    ·have er:rdy J p.1 S.1=[]:=by
      unfold nI at e0;exact List.map_eq_nil_iff.mp e0
     obtain⟨w4,w5,w6,w7,f1,f2,f3,f4,f5⟩:=ae none (by rw[es,s2,zu hn,er])
     exact⟨_,rfl,_,rfl,d,_,rfl,DPut.k (k:=Sum.inl (p.1:Int)) (O _ _ I) dl,w4,w5,w6,w7,f1,f2,f3,f4,f5⟩
    ·obtain⟨r0,rr,er⟩:∃r0 rr,rdy J p.1 S.1=r0::rr:=by
      cases h0:rdy J p.1 S.1 with
      | nil=>rw[h0] at hm;cases hm
      | cons a b=>exact⟨a,b,rfl⟩
     have pw:=zhT J p.1 S.1;rw[er,V6] at pw;have em:m=(r0:Int):=by
      have h1:=ah (r0:Int) (by rw[er];exact jm)
      unfold nI at hm;obtain⟨k0,ag,rfl⟩:=zN.mp hm;rw[er] at ag;rcases qe.mp ag with z | z
      ·rw[z]
      ·have:=pw.1 k0 z
       omega
     subst em;obtain⟨w4,w5,w6,w7,f1,f2,f3,f4,f5⟩:=ae (some r0) (by rw[es,s2,zu hn,er])
     exact⟨_,rfl,_,rfl,d,_,rfl,DPut.k (k:=Sum.inl (p.1:Int)) (O _ _ I) dl,w4,w5,w6,w7,f1,f2,f3,f4,f5⟩
   ·rw[yX] at cc
    have ar:p.1∈S.2.map (·.1):=Classical.byContradiction fun z=>cc (by rw[ZU.mpr z];rfl)
    refine⟨_,_,_,_,rfl,s4,T4,a0,?_⟩
    rw[es,s2,zv ar];exact I
  ·rintro σ H4 ⟨v4,v5,v6,v7,rfl,s4,T4,a0,I⟩
   rw[lp,qz] at I;refine⟨_,rfl,d,_,rfl,I,fun o=>k d o _ (s4.put d0) d0 zd⟩
theorem zki(os:List Nat):(nI os).map V.int=zt os:=by unfold nI zt;rw[j9];rfl
theorem xM(os:List Nat):(nI os).length=os.length:=zn ..
theorem zgP{f:List (Int×Int)}{c:List Nat}{p:Nat}{l:List Int}(h:∀j,j∈l↔j≠(p:Int)/\∃k,Wk f k j (p:Int)):(((p:Int)::l).map fun j=>decide (j∈nI c)).any id=Vx f c p:=by
 rw[xw,vf,yF];constructor
 ·rintro⟨b,hb,e⟩
  obtain⟨j,s,rfl⟩:=zN.mp hb;have g:j∈nI c:=jy e;unfold nI at g;obtain⟨q,hq,rfl⟩:=zN.mp g;rcases qe.mp s with z | z
  ·exact⟨q,hq,0,z⟩
  ·exact⟨q,hq,((h _).mp z).2⟩
 ·rintro⟨q,hq,k,A⟩
  refine⟨true,zN.mpr ⟨(q:Int),?_,zV (wJ.mpr hq)⟩,rfl⟩
  by_cases e:(q:Int)=(p:Int)
  ·rw[e];exact jm
  ·exact jS _ ((h _).mpr ⟨e,k,A⟩)
theorem YT{b:List (Nat×Option Nat)}{i:Nat}{q:Nat×Option Nat}(h:b[i]? =some q):wants (b.take (i+1))=wants (b.take i)++(if q.2=none then [q.1] else []):=by
 rw[zR h,show [q]=[(q.1,q.2)] from rfl,zcy]
 cases q.2<;>rfl
theorem Xt(b:List (Nat×Option Nat)):(wants b).length<=b.length:=by
 unfold wants;rw[zn];exact qV _ _
inductive zd1(K:W.Frag)(s:List V)(H:Hp)(Q:VK):Prop
 | mk (g d:Addr) (o:Obj) (J:Job) (b:List (Nat×Option Nat)) (_:s=[.ref g,.ref d]) (_:Rep K H (xQ J) (.ref g)) (_:J.ps.length<=60) (_:(∀q∈asI J,InN J.ps.length q.1/\InN J.ps.length q.2)) (_:J.as.length<=300) (_:H d=some (.frz o (.dK (dkO b)))) (_:b.length<=60) (_:(∀q∈b,q.1<J.ps.length)) (_:∀(l:Addr) (f:List Int) c,Same H c->H l=none->c l=some (.lst (f.map V.int))->f.Perm (nI ((b.map (·.1)).filter (Vx (asI J) (wants b))))->f.Pairwise (·<= ·)->Q (.ref l) c):zd1 K s H Q
def zjl(K:W.Frag):Sp:=fun b H Q _=>zd1 K b H Q
theorem zjF:zD ["job","feeders","wanting"] ["job","feeders"] (zy (topL 16)):=u3
theorem zkc{f:Addr}{b:FuncData}(F:Fun K "dropped_parts" "dropped_parts" (topL 16) f b)(B:Blt G)(I:Dfn P w K G C "ahead_of" 3 ["job","part"] (Vn K)):qY P w K G C CX0 4 f b ["job","feeders"] (zjl K):=by
 have nd:=zjF.nd;refine F.ok zjF (fun vs H Q E h=>?_) (fun aj A ah s H vs Q E hr h=>?_)
 ·obtain⟨jp,d,o,J,b,rfl,_⟩:=h
  rfl
 ·obtain⟨jp,d,o,J,b,rfl,rj,pl,ab,al,U,fl,fp,k⟩:=h
  have ai:=bG1000000;have dl:(dkO b).length=b.length:=by unfold dkO;rw[zn]
  have N:∀{i:Nat} {kk:Key} {v:V},(dkO b)[i]? =some (kk,v)->∃q,b[i]? =some q/\kk=Sum.inl (q.1:Int)/\v=y3 (oI q.2):=fun {i kk v} h=>by
   unfold dkO at h;rw[zZ] at h;obtain⟨q,eq,e⟩:=qE.mp h;cases e;exact⟨q,eq,rfl,rfl⟩
  refine⟨_,(zf (zE (i:=2) nd rfl (Or.inr rfl) (xh [] [] rfl rfl (by kernel_rfl) (zf5 (zey PySem.F.slot_dict_items PySem.F.type_dict_items zcZ (pv 1))) (fun _ _ _ _=>(ju (zG zeG (pv 1) wb (zL _)))) (fun _ _ _ _=>(pv 0))))
   (zo (zB (zx xn rfl B.sorted jK (za (jv ["wanting","job"] [2,0] rfl rfl (by kernel_rfl) (zet (pv 1)) (fun _ _ _ _=>(ju (xf (zx (JC (K:=K) rfl rfl) rfl B.any JE (za (jv ["wanting"] [1] rfl rfl (by kernel_rfl) (W3 (K:=K) rfl (zM Zl (qC (za (pv 0) ze)) (zk I hr.m rfl (za (pv 2) (za (pv 0) ze))))) (fun _ _ _ _=>qS) (fun _ _ _ _=>(qW (xB (K:=K) rfl) (pv 0) (pv 1) (by with_unfolding_all rfl)))) ze))))) (fun _ _ _ _=>(pv 0))) ze))))),?_⟩
  refine⟨_,rfl,d,rfl,.inl ⟨_,.inr ⟨o,U⟩⟩,d,o,_,rfl,rfl,U,fun pv aa=>⟨pv,d,o,_,rfl,zd,by rw[zp (zm U aa)];exact U,zgw (d:=d) (o:=o) (kvs:=dkO b) (fun i L O=>L=zt (wants (b.take i))/\Same H O) ⟨rfl,zb aa⟩ (fun i L O ⟨_,s1⟩=>s1 _ _ U) ?_ ?_⟩⟩
  ·rintro i kk v L O T hk ⟨rfl,s1⟩ hT
   obtain⟨q,eq,rfl,rfl⟩:=N hk;have il:=(zC.mp eq).1;have s2:=s1.trans (zb (o:=.tup [kV (Sum.inl (q.1:Int)),y3 (oI q.2)]) hT);have wl:=Xt (b.take i);rw[qm] at wl;refine⟨T,_,rfl,u6 zd,rfl,_,_,rfl,_,_,rfl,rfl,rfl,_,rfl,rfl,_,rfl,?_⟩
   rw[YT eq];cases e:q.2 with
   | none=>
    rw[e] at s2;refine ifT (by rw[zV];rfl) ⟨_,rfl,by rw[zA];omega,?_,s2⟩
    rw[zv rfl,jA];rfl
   | some j=>
    rw[e] at s2;refine ifF (by rw[jd];intro z;cases z) ⟨?_,s2⟩
    rw[zu (by simp),jn]
  rintro L O ⟨e1,s1⟩;rw[dl,qz] at e1;subst e1;have wl:=Xt b;refine⟨by rw[zA];omega,fun wt af=>?_⟩
  have W2:upd O wt (.lst (zt (wants b))) wt=some (.lst (zt (wants b))):=zd;have s2:=s1.trans (zb (H:=O) (o:=.lst (zt (wants b))) af);generalize upd O wt (.lst (zt (wants b)))=H2 at *
  have a0:=s2 _ _ U;have fk:(b.map (·.1)).length=b.length:=zn ..
  refine⟨_,rfl,d,o,_,rfl,a0,Yl (d:=d) (o:=o) (kvs:=dkO b) (fun i L M=>L=zt (((b.map (·.1)).take i).filter (Vx (asI J) (wants b)))/\Same H2 M) ⟨rfl,u5 _⟩ (fun i L M ⟨_,s3⟩=>s3 _ _ a0) ?_ ?_⟩
  ·rintro i kk v L M hk ⟨rfl,s3⟩
   obtain⟨q,eq,rfl,rfl⟩:=N hk;have il:=(zC.mp eq).1;have ac:(b.map (·.1))[i]? =some q.1:=by rw[zZ,eq];rfl
   have qp:=fp q (qr eq);refine⟨rfl,_,rfl,le1,fun p1 ae=>?_⟩
   have Y:=s3.trans (zb (H:=M) (o:=.lst [kV (Sum.inl (q.1:Int))]) ae);have P4:upd M p1 (.lst [kV (Sum.inl (q.1:Int))]) p1=some (.lst [.int (q.1:Int)]):=zd;generalize upd M p1 (.lst [kV (Sum.inl (q.1:Int))])=H4 at Y P4;refine⟨_,rfl,_,rfl,(q.1:Int),jp,J,rfl,rj.same (s2.trans Y),pl,⟨by omega,by omega⟩,ab,al,fun l g H5 s5 l0 hl ml pw mem=>?_⟩
   refine⟨p1,l,_,_,rfl,rfl,s5 _ _ P4,hl,by rw[zn];show 1+_<=_;omega,fun c hc=>⟨c,rfl,⟨_,u4 zd⟩,?_⟩⟩
   have e0:[V.int (q.1:Int)]++g.map V.int=((q.1:Int)::g).map V.int:=rfl;rw[e0];have s6:=(Y.trans s5).trans (zb (H:=H5) (o:=.lst (((q.1:Int)::g).map V.int)) hc);have C6:upd H5 c (.lst (((q.1:Int)::g).map V.int)) c=some (.lst (((q.1:Int)::g).map V.int)):=zd;generalize upd H5 c (.lst (((q.1:Int)::g).map V.int))=H6 at *
   have W6:=s6 _ _ W2;have lm:(((q.1:Int)::g).map V.int).length=g.length+1:=by rw[zn];rfl
   refine qQ (K:=K) (a:=c) (xs:=((q.1:Int)::g).map V.int) (fun j L H7=>L=((((q.1:Int)::g).take j).map fun j=>decide (j∈nI (wants b))).map V.bl/\Same H6 H7) ⟨rfl,u5 _⟩ (fun j L H7 ⟨_,s7⟩=>u4 (s7 _ _ C6)) ?_ ?_
   ·rintro j x L H7 hx ⟨rfl,s7⟩
    rw[zZ] at hx;obtain⟨m,em,rfl⟩:=qE.mp hx;have jl:=(zC.mp em).1;have ak:j<g.length+1:=jl;refine⟨rfl,_,rfl,_,rfl,wt,_,rfl,.inl (u4 (s7 _ _ W6)),rfl,xG _,?_,?_,s7⟩
    ·rw[zn,zn,qm];omega
    ·rw[zR em,zP,zP,zu qR,zhs];rfl
   rintro L H7 ⟨rfl,s7⟩;rw[lm,show((q.1:Int)::g).take (g.length+1)=(q.1:Int)::g from JX (by show g.length+1<=_;omega)]
   refine⟨by rw[zn,zn];show g.length+1<=_;omega,fun D hD=>⟨D,_,rfl,u4 zd,?_⟩⟩
   rw[zgP mem];have s8:=(s6.trans s7).trans (zb (H:=H7) (o:=.lst ((((q.1:Int)::g).map fun j=>decide (j∈nI (wants b))).map V.bl)) hD)
   rw[jf _ ac];refine⟨_,rfl,xC (fun cc=>⟨_,rfl,?_,?_,s8⟩) (fun cc=>⟨?_,s8⟩)⟩
   ·rw[zA]
    exact wY (qV _ _) (by rw[qm];omega)
   ·rw[zv cc,jA];rfl
   ·rw[zu cc,jn]
  rintro L M ⟨e3,s3⟩;rw[dl,<- fk,qz] at e3;subst e3;have ol:=qV (Vx (asI J) (wants b)) (b.map (·.1))
  refine⟨by rw[zA];omega,fun D hD=>⟨D,nI ((b.map (·.1)).filter (Vx (asI J) (wants b))),rfl,by rw[zki];exact u4 zd,by rw[xM];omega,fun l g hl pm pw=>?_⟩⟩
  have Y:=(s2.trans s3).trans (zb (H:=M) (o:=.lst (zt ((b.map (·.1)).filter (Vx (asI J) (wants b))))) hD)
  exact k l g _ (Y.trans (zb hl)) (Y.free hl) zd pm pw
theorem vL(j:Int)(b:List Int):inV (.int j) (b.map V.int)=decide (j∈b):=by
 rw[xw,xx];unfold inV;rw[yF];constructor
 ·rintro⟨y,hy,e⟩
  obtain⟨k,hk,rfl⟩:=zN.mp hy;have:(k==j)=true:=e;rw[<- xu.mp this];exact hk
 ·intro h
  exact⟨.int j,zN.mpr ⟨j,h,rfl⟩,(show(j==j)=true from beq_self_eq_true _)⟩
theorem j4:∀b:List Int,(b.map V.int).all xH=true
 | []=>rfl
 | i::b=>by
  show(true&&(b.map V.int).all xH)=true;rw[j4 b];rfl
theorem zez{K:W.Frag}{H:Hp}{p:Nat×Nat}{a:Addr}(h:SqT K H a [.int p.1,.int p.2]):Rep K H (jJ p) (.ref a):=⟨a,_,rfl,h,_,_,rfl,rfl,_,_,rfl,rfl,rfl⟩
inductive zdR(K:W.Frag)(s:List V)(H:Hp)(Q:VK):Prop
 | mk (v:V) (d g:Addr) (o:Obj) (t:zS) (b:List (Nat×Option Nat)) (l:List Int) (f:Nat->Bool) (_:s=[v,.ref d,.ref g]) (_:Rep K H (jH t) v) (_:H d=some (.frz o (.dK (dkO b)))) (_:SqL K H g (l.map V.int)) (_:(∀p∈t.pk,((p.1:Int)∈l↔f p.1=true))) (_:(∀p∈t.pk,f p.1=false->lkF b p.1=some (some (fdN b p.1)))) (_:t.ly.Perm (t.pk.map (·.1))) (_:t.pk.length<=60) (_:∀a c,Same H c->Rep K c (jH (jU b f t)) (.ref a)->Q (.ref a) c):zdR K s H Q
def zjg(K:W.Frag):Sp:=fun b H Q _=>zdR K b H Q
theorem zjy:zD ["trip","feeders","dropped","picks","lays","kept"] ["trip","feeders","dropped"] (zy (topL 17)):=u3
theorem zj5{f:Addr}{M:FuncData}(F:Fun K "mended_trip" "mended_trip" (topL 17) f M)(B:Blt G):qY P w K G C CX0 1 f M ["trip","feeders","dropped"] (zjg K):=by
 have nd:=zjy.nd;refine F.ok zjy (fun vs H Q E h=>?_) (fun as A ap s H vs Q E hr h=>?_)
 ·obtain⟨v,d,dr,o,t,M,ms,D,rfl,_⟩:=h
  rfl
 ·obtain⟨v,d,dr,o,t,M,ms,D,rfl,rt,hd,ae,aj,ai,aa,pl,k⟩:=h
  have ar:=bG1000000;have am:=XY hr;obtain⟨a,b,c,xs,ys,rfl,qa,qb,rb,qc,rc⟩:=jZ rt;have lb:=rb.len;have lc:=rc.len;rw[zn] at lb lc;have ao:=aa.length_eq;rw[zn] at ao;refine⟨_,(zf (jQ (pv 0) (qL rfl (zr (zq (i:=3) nd rfl (Or.inl rfl)) (zr (zq (i:=4) nd rfl (Or.inl rfl)) qk))))
   (zf (zE (i:=5) nd rfl (Or.inr rfl) (xh ["dropped"] [2] rfl rfl (by kernel_rfl) (xg (pv 3)) (fun _ _ _ _=>(ju (zG (j3 (K:=K) rfl) (pv 0) (pv 2) (by with_unfolding_all rfl)))) (fun _ _ _ _=>(pv 0))))
   (zo (zB (qX (za (qH jx rfl B.tuple jM (za (jv ["feeders"] [1] rfl rfl (by kernel_rfl) (qg (pv 5)) (fun _ _ _ _=>qS) (fun _ _ _ _=>(qX (za (pv 0) (za (Vw am (pv 1) (pv 0) (fun _ _=>rfl)) ze))))) ze)) (za (qH jx rfl B.tuple jM (za (jv ["kept"] [5] rfl rfl (by kernel_rfl) (xg (pv 4)) (fun _ _ _ _=>(ju (zG (xB (K:=K) rfl) (pv 0) (pv 1) (by with_unfolding_all rfl)))) (fun _ _ _ _=>(pv 0))) ze)) ze))))))),?_⟩
  refine⟨_,rfl,a,_,rfl,qa,rfl,_,_,rfl,_,_,rfl,rfl,?_⟩
  refine⟨_,rfl,b,rfl,⟨_,qb⟩,j6 (K:=K) (a:=b) (xs:=xs) (fun i g O=>g=zt (((t.pk.take i).filter fun p=>!D p.1).map (·.1))/\Same H O) ⟨rfl,u5 _⟩ (fun i g O ⟨_,s1⟩=>s1.sqT qb) ?_ ?_⟩
  ·rintro i x g O hx ⟨rfl,s1⟩
   obtain⟨dd,ed,rd⟩:=(rb.same s1).get hx;rw[zZ] at ed;obtain⟨p,I,rfl⟩:=qE.mp ed;obtain⟨pa,rfl,qp⟩:=qv rd;have il:=(zC.mp I).1;have hm:=aj p (qr I);refine⟨pa,_,rfl,qp,rfl,_,_,rfl,_,_,rfl,rfl,rfl,_,rfl,_,rfl,dr,_,rfl,.inl (s1.seq ae),rfl,j4 _,_,rfl,?_⟩
   rw[zv rfl,vL,jf _ I];cases e:D p.1 with
   | true=>
    refine ifF (by rw[zV (hm.mpr e)];rfl) ⟨?_,s1⟩
    rw[zu (by simp),jn]
   | false=>
    refine ifT (by rw[jd (fun z=>by rw[hm.mp z] at e;cases e)];rfl) ⟨_,rfl,?_,?_,s1⟩
    ·rw[zA,zn]
     exact wY (qV _ _) (by rw[qm];omega)
    ·rw[zv (by simp),zP,<- jA];rfl
  rintro g O ⟨e1,s1⟩;rw[lb,qz] at e1;subst e1;have kl:(((t.pk.filter fun p=>!D p.1).map (·.1))).length<=t.pk.length:=by rw[zn];exact qV _ _
  refine⟨by rw[zA];omega,fun U af=>?_⟩
  have K2:upd O U (.lst (zt ((t.pk.filter fun p=>!D p.1).map (·.1)))) U=some (.lst (zt ((t.pk.filter fun p=>!D p.1).map (·.1)))):=zd
  have s2:=s1.trans (zb (H:=O) (o:=.lst (zt ((t.pk.filter fun p=>!D p.1).map (·.1)))) af)
  generalize upd O U (.lst (zt ((t.pk.filter fun p=>!D p.1).map (·.1))))=H2 at *
  generalize ek:t.pk.filter (fun p=>!D p.1)=l at *
  have ac:=s2 _ _ hd;have lk:(zt (l.map (·.1))).length=l.length:=by rw[zA,zn]
  rw[zn] at kl;refine⟨_,rfl,U,rfl,⟨_,u4 K2⟩,qQ (K:=K) (a:=U) (xs:=zt (l.map (·.1))) (fun i g L=>Reps K L (((l.take i).map fun p=>(p.1,fdN M p.1)).map jJ) g/\Same H2 L) ⟨rfl,u5 _⟩ (fun i g L ⟨_,s3⟩=>u4 (s3 _ _ K2)) ?_ ?_⟩
  ·rintro i x g L hx ⟨Y,s3⟩
   obtain⟨n,T,rfl⟩:=ww hx;rw[zZ] at T;obtain⟨p,I,rfl⟩:=qE.mp T;have il:=(zC.mp I).1;have hp:=qr I;rw[<- ek] at hp;obtain⟨ak,al⟩:=qG.mp hp;have hl:=ai p ak (by simpa using al)
   have zl:=Y.len;rw[zn,zn,qm] at zl;refine⟨rfl,_,rfl,_,rfl,_,rfl,d,.int (fdN M p.1:Int),rfl,?_,?_⟩
   ·exact .inl ⟨_,Sum.inl (p.1:Int),.inr ⟨o,s3 _ _ ac⟩,rfl,by rw[yX,hl];rfl⟩
   ·refine⟨le2,fun q hq=>⟨by omega,?_,s3.trans (zb hq)⟩⟩
    rw[zR I,zP,zP];exact(Y.same (zb hq)).snoc (d:=jJ (p.1,fdN M p.1)) (zez (u6 zd))
  rintro g L ⟨Y,s3⟩;rw[lk,qz] at Y;have zl:=Y.len;rw[zn,zn] at zl;refine⟨by omega,fun l3 ag=>⟨l3,_,rfl,.inl ⟨u4 zd,fun u hu=>?_⟩⟩⟩
  have s4:=(zb (H:=L) (o:=.lst g) ag).trans (zb (o:=.tup g) hu);have qu:upd (upd L l3 (.lst g)) u (.tup g) u=some (.tup g):=zd;have r4:=Y.same s4;have J:=s3.trans s4;generalize upd (upd L l3 (.lst g)) u (.tup g)=H4 at *
  have ab:=(s2.trans J).sqT qc;have aq:=rc.same (s2.trans J);have K4:=J _ _ K2;refine⟨_,rfl,c,rfl,⟨_,ab⟩,j6 (K:=K) (a:=c) (xs:=ys) (fun i g H5=>g=zt ((t.ly.take i).filter fun p=>!D p)/\Same H4 H5) ⟨rfl,u5 _⟩ (fun i g H5 ⟨_,N⟩=>N.sqT ab) ?_ ?_⟩
  ·rintro i x ws H5 hx ⟨rfl,N⟩
   obtain⟨dd,ed,rd⟩:=(aq.same N).get hx;rw[zZ] at ed;obtain⟨n,T,rfl⟩:=qE.mp ed;cases(show x=.int (n:Int) from rd)
   have il:=(zC.mp T).1;refine⟨rfl,_,rfl,_,rfl,U,_,rfl,.inl (u4 (N _ _ K4)),rfl,xG _,_,rfl,?_⟩
   rw[zu qR,yW,jf _ T];obtain⟨p,hp,I⟩:=zN.mp (aa.mem_iff.mp (qr T));have a0:n∈l.map (·.1)↔D n=false:=by
    constructor
    ·intro hm
     obtain⟨q,hq,eq⟩:=zN.mp hm;rw[<- ek] at hq;have:=(qG.mp hq).2;rw[<- eq];simpa using this
    ·intro e
     refine zN.mpr ⟨p,?_,I⟩
     rw[<- ek];exact qG.mpr ⟨hp,by rw[I,e];rfl⟩
   cases e:D n with
   | true=>
    refine ifF (jd (fun z=>by rw[a0.mp z] at e;cases e)) ⟨?_,N⟩
    rw[zu (by simp),jn]
   | false=>
    refine ifT (zV (a0.mpr e)) ⟨_,rfl,?_,?_,N⟩
    ·rw[zA]
     exact wY (qV _ _) (by rw[qm];omega)
    ·rw[zv (by simp),jA]
  rintro ws H5 ⟨e5,N⟩;rw[lc,qz] at e5;subst e5;have wl:=qV (fun p=>!D p) t.ly
  refine⟨by rw[zA];omega,fun l5 ah=>⟨l5,_,rfl,.inl ⟨u4 zd,fun u2 an=>⟨le2,fun q hq=>?_⟩⟩⟩⟩
  have s6:=(zb (H:=H5) (o:=.lst (zt (t.ly.filter fun p=>!D p))) ah).trans (zb (o:=.tup (zt (t.ly.filter fun p=>!D p))) an)
  have s7:=s6.trans (zb (o:=.tup [.ref u,.ref u2]) hq);have s8:=N.trans s7;refine k q _ ((s2.trans J).trans s8) ⟨q,_,rfl,u6 zd,_,_,rfl,⟨u,g,rfl,u6 (s8 _ _ qu),?_⟩,_,_,rfl,⟨u2,_,rfl,u6 ((zb hq) _ _ zd),vE _⟩,rfl⟩
  show Reps K _ (((t.pk.filter fun p=>!D p.1).map fun p=>(p.1,fdN M p.1)).map jJ) g
  rw[ek];exact r4.same s8
structure MOk(J:Job)(ord os:List Nat)(ts:List zS):Prop where
 jo:JobOk J ord
 po:PlanOk J os ts
 pm:os.Perm (List.range J.ps.length)
 bo:ByOrd os J.as
theorem wH{J:Job}:∀{b:List zS},(∀t∈b,J8 J t)->(zY b).Perm ((zj b).map (·.1))
 | [],_=>List.Perm.nil
 | t::r,h=>by
  show(t.ly++zY r).Perm ((t.pk++zj r).map (·.1))
  rw[zP];exact(h t jm).ly.append (wH fun u hu=>h u (jS _ hu))
theorem MOk.nd{J:Job}{b os:List Nat}{c:List zS}(m:MOk J b os c):((zj c).map (·.1)).Nodup:=by
 have f:os.Nodup:=m.pm.nodup_iff.mpr Zx;exact(wH m.po.tr).nodup_iff.mp (m.po.sub.nodup f)
theorem MOk.ok{J:Job}{c os:List Nat}{f:List zS}(m:MOk J c os f):∀p∈zj f,p.1<J.ps.length/\p.2<J.fs.length:=fun p b=>by
 unfold zj at b;obtain⟨t,g,b⟩:=wT.mp b;obtain⟨s,l,e1,e2,_⟩:=(m.po.tr t g).ok p b;exact⟨(zC.mp e1).1,(zC.mp e2).1⟩
theorem MOk.brk{J:Job}{b os:List Nat}{c:List zS}(m:MOk J b os c):Brk J c:=by
 refine⟨?_,m.nd,m.ok,jk m.jo.fl (by decide)⟩
 have h:=yT (m:=List.range J.ps.length) m.nd fun x hx=>by
  obtain⟨p,f,rfl⟩:=zN.mp hx;exact xR.mpr (m.ok p f).1
 rw[zn,vO] at h;have:=m.jo.pl;omega
noncomputable def zX (J:Job) (st:Nat->Int) (b:List zS):Nat->Bool:=Vx (asI J) (wants (zU J st b))
theorem Brk.ky{J:Job}{c:List zS}(b:Brk J c)(st:Nat->Int):Ky2 st (zj c) (zj c) (P2 J st (zj c) (zj c)):=by
 have:=Wq (J:=J) (st:=st) b.nd (i:=(zj c).length) (zJ _);rwa[qz] at this
theorem Brk.keys{J:Job}{c:List zS}(b:Brk J c)(st:Nat->Int):((zU J st c).map (·.1)).Perm ((zj c).map (·.1)):=by
 have k:=b.ky st;refine(List.perm_ext_iff_of_nodup k.nd b.nd).mpr fun x=>⟨k.sub x,fun hx=>?_⟩
 obtain⟨p,f,rfl⟩:=zN.mp hx;exact k.al p f
theorem Brk.val{J:Job}{c:List zS}(b:Brk J c)(st:Nat->Int):∀p∈zj c,zX J st c p.1=false->lkF (zU J st c) p.1=some (some (fdN (zU J st c) p.1)):=fun p g f=>by
 have hk:p.1∈(zU J st c).map (·.1):=(b.ky st).al p g
 cases e:lkF (zU J st c) p.1 with
 | none=>exact absurd hk (ZU.mp e)
 | some o=>
  cases o with
  | none=>
   have h1:=wy.mpr (VD e);have h2:zX J st c p.1=true:=vf.mpr ⟨p.1,h1,0,rfl⟩;rw[h2] at f;cases f
  | some k=>unfold fdN;rw[e];rfl
theorem ZW{t:zS}:(!t.pk.isEmpty)=true↔t.pk≠[]:=by
 cases t.pk<;>simp
theorem vq{α β:Type}{f:β->Bool}{g:α->β}{l:List α}{i:Nat}{x:α}(h:l[i]? =some x):((l.take (i+1)).map g).filter f=((l.take i).map g).filter f++(if f (g x)=true then [g x] else []):=by
 rw[zR h,zP,xT];cases b:f (g x)
 ·show _++[g x].filter f=_
  rw[J3 (by rw[b];exact qR)];rfl
 ·show _++[g x].filter f=_
  rw[J4 b];rfl
structure zkK(K:W.Frag)(H H':Hp)(q a1 a2 a3:Addr)(xs:List V)(fd:List (Nat×Option Nat))(ob:Nat->Bool)(ts:List zS):Prop where
 s:Same H H'
 q:SqT K H' q [.ref a1,.ref a2,.ref a3]
 f1:H a1=none
 f2:H a2=none
 f3:H a3=none
 n12:a1≠a2
 n13:a1≠a3
 n23:a2≠a3
 h1:H' a1=some (.lst xs)
 r1:Reps K H' ((zT fd ob ts).map jH) xs
 h2:H' a2=some (.lst ((srt (nI (vT fd ob (zj ts)))).map V.int))
 h3:H' a3=some (.lst ((srt (nI (vo ob (zj ts)))).map V.int))
inductive zdS(K:W.Frag)(A:List V)(H:Hp)(Q:VK):Prop
 | mk (s l c:Addr) (J:Job) (f os:List Nat) (B:List V) (b:List zS) (st:Nat->Int) (_:A=[.ref s,.ref l,.ref c]) (_:Rep K H (xQ J) (.ref s)) (_:SqL K H l B) (_:Reps K H (b.map jH) B) (_:MOk J f os b) (_:SqL K H c (jP J.fs.length st)) (_:∀(q a1 a2 a3:Addr) (D:List V) g,zkK K H g q a1 a2 a3 D (zU J st b) (zX J st b) b->Q (.ref q) g):zdS K A H Q
def zhJ(K:W.Frag):Sp:=fun b H Q _=>zdS K b H Q
theorem zjz:zD ["job","plan","stock","feeders","dropped","trips","moved"] ["job","plan","stock"] (zy (topL 18)):=u3
def zcv(K:_)(b:List zS)(J:Job)(st:Nat->Int)(f:_):=fun(i:Nat) (g:List V) (c:Hp)=>(An2 (Reps K c ((((b.take i).map (jU (zU J st b) (zX J st b))).filter fun t=>!t.pk.isEmpty).map jH) g) (Same f c):Prop)
theorem zj6{f:Addr}{fd:FuncData}(F:Fun K "mended_plan" "mended_plan" (topL 18) f fd)(B:Blt G)(M:Dfn P w K G C "picks_in" 1 ["plan"] (Xg K))(L:Dfn P w K G C "new_feeders" 3 ["job","plan","stock"] (zjf K))(D:Dfn P w K G C "dropped_parts" 4 ["job","feeders"] (zjl K))(I:Dfn P w K G C "mended_trip" 1 ["trip","feeders","dropped"] (zjg K)):qY P w K G C CX0 5 f fd ["job","plan","stock"] (zhJ K):=by
 have nd:=zjz.nd;refine F.ok zjz (fun vs H Q E h=>?_) (fun bs A bm s H vs Q E hr h=>?_)
 ·obtain⟨jp,l,c,J,bj,os,xs,g,st,rfl,_⟩:=h
  rfl
 ·obtain⟨jp,l,c,J,bj,os,xs,g,st,rfl,rj,hl,rl,mo,hc,k⟩:=h
  have br:=bG1000000;have bc:=XY hr;have bk:=mo.brk;have ky:=bk.ky st;have al:=bk.al;have tl:=mo.po.len;have ll:=rl.len;rw[zn] at ll;have bd:=bk.keys st;have vl:=bk.val st;have fl:(zU J st g).length<=60:=jk ky.len al;have b0:∀q∈zU J st g,q.1<J.ps.length:=fun q hq=>by
   obtain⟨p,hp,e⟩:=zN.mp (ky.sub q.1 (zN.mpr ⟨q,hq,rfl⟩));rw[<- e];exact(bk.ok p hp).1
  refine⟨_,(zf (zE (i:=3) nd rfl (Or.inr rfl) (zk L hr.m rfl (za (pv 0) (za (pv 1) (za (pv 2) ze)))))
   (zf (zE (i:=4) nd rfl (Or.inr rfl) (zk D hr.m rfl (za (pv 0) (za (pv 3) ze))))
   (zf (Jc ["feeders","dropped"] [3,4] rfl rfl (by kernel_rfl) (qg (pv 1)) (fun _ _ _ _=>qS) (fun _ _ _ _=>(zk I hr.m rfl (za (pv 0) (za (pv 1) (za (pv 2) ze))))) (zq (i:=5) nd rfl (Or.inl rfl)))
   (zf (Vr ["dropped","feeders"] [4,3] rfl rfl (by kernel_rfl) (qg (zk M hr.m rfl (za (pv 1) ze))) (fun _ _ _ _=>(ju (PW.pt (Vq (zG (j3 (K:=K) rfl) (pv 0) (pv 2) (by with_unfolding_all rfl)) (QR (zG zeF (Vw bc (pv 3) (pv 0) (fun _ _=>rfl)) (pv 1) (zL _))))))) (fun _ _ _ _=>(pv 0)) (zq (i:=6) nd rfl (Or.inl rfl)))
   (zo (zB (qX (za (jv [] [] rfl rfl (by kernel_rfl) (qg (pv 5)) (fun _ _ _ _=>(ju (zfZ (K:=K) rfl (zF (qM (K:=K) rfl) (pv 0) zi (fun _ _=>rfl))))) (fun _ _ _ _=>(pv 0))) (za (zx xn rfl B.sorted jK (za (pv 6) ze)) (za (pv 4) ze)))))))))),?_⟩
  refine⟨_,rfl,_,rfl,_,rfl,jp,l,c,J,xs,g,st,rfl,rj,hl,rl,bk,hc,fun d o H1 s1 d0 hd=>?_⟩
  refine⟨_,rfl,_,rfl,jp,d,o,J,zU J st g,rfl,rj.same s1,mo.jo.pl,mo.jo.ain,mo.jo.al,hd,fl,b0,fun dl ms H2 s2 av Y pm pw=>?_⟩
  have em:ms=srt (nI (vo (zX J st g) (zj g))):=by
   refine Vl (pm.trans ?_) pw
   unfold nI vo;exact(bd.filter _).map _
  have aa:∀p∈zj g,((p.1:Int)∈ms↔zX J st g p.1=true):=fun p hp=>by
   rw[pm.mem_iff,wJ,qG];exact⟨fun h=>h.2,fun h=>⟨ky.al p hp,h⟩⟩
  have U:=s1.trans s2;have ag:=s2 _ _ hd;have ah:=U.seq hl;have bp:=rl.same U;refine⟨_,rfl,l,rfl,⟨_,ah⟩,qQ (K:=K) (a:=l) (xs:=xs) (fun i O H3=>Reps K H3 (((g.take i).map (jU (zU J st g) (zX J st g))).map jH) O/\Same H2 H3) ⟨rfl,u5 _⟩ (fun i O H3 ⟨_,s3⟩=>s3.seq ah) ?_ ?_⟩
  ·rintro i x O H3 hx ⟨rz,s3⟩
   obtain⟨dd,ed,rd⟩:=(bp.same s3).get hx;rw[zZ] at ed;obtain⟨t,et,rfl⟩:=qE.mp ed;have il:=(zC.mp et).1;have ak:=qr et;have as:∀p∈t.pk,p∈zj g:=fun p hp=>wT.mpr ⟨t,ak,hp⟩
   have au:=mo.po.tr t ak;have t4:=au.p2;have bt:=mo.jo.hd1;have zl:=rz.len;rw[zn,zn,qm] at zl;refine⟨rfl,_,rfl,_,rfl,_,rfl,x,d,dl,o,t,zU J st g,ms,zX J st g,rfl,rd,s3 _ _ ag,u4 (s3 _ _ Y),fun p hp=>aa p (as p hp),fun p hp=>vl p (as p hp),au.ly,by omega,fun a H4 s4 r4=>⟨by omega,?_,s3.trans s4⟩⟩
   rw[zR et,zP,zP];exact(rz.same s4).snoc r4
  rintro O H3 ⟨rz,s3⟩;rw[ll,qz] at rz;have zl:=rz.len;rw[zn,zn] at zl;refine⟨by omega,fun tp am=>?_⟩
  have T4:upd H3 tp (.lst O) tp=some (.lst O):=zd;have ao:=s3.trans (zb (H:=H3) (o:=.lst O) am);have r4:=rz.same (zb (H:=H3) (o:=.lst O) am);generalize upd H3 tp (.lst O)=H4 at *
  have an:=U.trans ao;refine⟨_,rfl,l,xs,g,rfl,an.seq hl,rl.same an,al,fun pk ys H5 s5 bu ai rp=>?_⟩
  have lp:=rp.len;rw[zn] at lp;have a0:=ao.trans s5;have ba:=a0 _ _ ag;have aw:=a0 _ _ Y;have ml:∀i,(vT (zU J st g) (zX J st g) ((zj g).take i)).length<=((zj g).take i).length:=fun i=>by
   unfold vT;rw[zn];exact qV _ _
  refine⟨pk,rfl,⟨_,u4 ai⟩,qQ (K:=K) (a:=pk) (xs:=ys) (fun i O H6=>O=zt (vT (zU J st g) (zX J st g) ((zj g).take i))/\Same H5 H6) ⟨rfl,u5 _⟩ (fun i O H6 ⟨_,s6⟩=>u4 (s6 _ _ ai)) ?_ ?_⟩
  ·rintro i x ws H6 hx ⟨rfl,s6⟩
   obtain⟨dd,ed,rd⟩:=(rp.same s6).get hx;rw[zZ] at ed;obtain⟨p,ep,rfl⟩:=qE.mp ed;obtain⟨pa,rfl,qp⟩:=qv rd;have il:=(zC.mp ep).1;have aj:=qr ep;have hm:=aa p aj;have bf:=ml i;rw[qm] at bf;have ft:vT (zU J st g) (zX J st g) ((zj g).take (i+1))=vT (zU J st g) (zX J st g) ((zj g).take i)++(if(!zX J st g p.1&&decide (fdN (zU J st g) p.1≠p.2))=true then [p.1] else []):=by
    unfold vT;rw[jf _ ep,zP];split<;>rfl
   refine⟨pa,_,rfl,qp,rfl,_,_,rfl,_,_,rfl,rfl,rfl,_,rfl,_,rfl,dl,_,rfl,.inl (u4 (s6 _ _ aw)),rfl,j4 _,_,rfl,?_⟩
   rw[zv rfl,vL];cases e:zX J st g p.1 with
   | true=>
    refine ifF (by rw[zV (hm.mpr e)];rfl) (ifF rfl ⟨?_,s6⟩)
    rw[ft,e,zu (by simp),jn]
   | false=>
    refine ifT (by rw[jd (fun z=>by rw[hm.mp z] at e;cases e)];rfl) ?_
    refine⟨_,rfl,_,rfl,d,.int (fdN (zU J st g) p.1:Int),rfl,.inl ⟨_,Sum.inl (p.1:Int),.inr ⟨o,s6 _ _ ba⟩,rfl,by rw[yX,vl p aj e];rfl⟩,_,rfl,rfl,_,rfl,?_⟩
    by_cases e2:fdN (zU J st g) p.1=p.2
    ·refine ifF (by rw[e2,zV rfl];rfl) ⟨?_,s6⟩
     rw[ft,e,zu (by simp[e2]),jn]
    ·refine ifT (by rw[jd (show ¬V.int (fdN (zU J st g) p.1:Int)=V.int (p.2:Int) from fun z=>e2 (Ql (V.int.inj z)))];rfl) ⟨_,rfl,?_,?_,s6⟩
     ·rw[zA];omega
     ·rw[ft,e,zv (by simp[e2]),jA]
  rintro ws H6 ⟨e6,s6⟩;rw[lp,qz] at e6;subst e6;have be:=ml (zj g).length;rw[qz] at be;refine⟨by rw[zA];omega,fun mv bb=>?_⟩
  have M7:upd H6 mv (.lst (zt (vT (zU J st g) (zX J st g) (zj g)))) mv=some (.lst (zt (vT (zU J st g) (zX J st g) (zj g)))):=zd;have ae:=s6.trans (zb (H:=H6) (o:=.lst (zt (vT (zU J st g) (zX J st g) (zj g)))) bb);generalize upd H6 mv (.lst (zt (vT (zU J st g) (zX J st g) (zj g))))=H7 at *
  have aq:=s5.trans ae;have T7:=aq _ _ T4;have r7:=r4.same aq;have bq:O.length=g.length:=zl;refine⟨_,rfl,tp,rfl,⟨_,u4 T7⟩,qQ (K:=K) (a:=tp) (xs:=O) (zcv K g J st H7) ⟨rfl,u5 _⟩ (fun i ws H8 ⟨_,s8⟩=>u4 (s8 _ _ T7)) ?_ ?_⟩
  ·rintro i x ws H8 hx ⟨N,s8⟩
   obtain⟨dd,ed,rd⟩:=(r7.same s8).get hx;rw[zZ,zZ] at ed;obtain⟨t',ax,rfl⟩:=qE.mp ed;obtain⟨t,et,rfl⟩:=qE.mp ax;obtain⟨a,b,c',us,vs,rfl,qa,qb,rb,qc,rc⟩:=jZ rd;have lb:=rb.len;rw[zn] at lb;have il:=(zC.mp et).1;have wl:=N.len;have ay:=qV (fun t:zS=>!t.pk.isEmpty) ((g.take i).map (jU (zU J st g) (zX J st g)))
   rw[zn,qm] at ay;rw[zn] at wl;have ee:(!us.isEmpty)=(!(jU (zU J st g) (zX J st g) t).pk.isEmpty):=by
    cases us with
    | nil=>
     rw[show(jU (zU J st g) (zX J st g) t).pk=[] from JZ.mp lb.symm]
     rfl
    | cons u us=>
     cases h0:(jU (zU J st g) (zX J st g) t).pk with
     | nil=>rw[h0] at lb;cases lb
     | cons=>rfl
   refine⟨rfl,_,rfl,a,_,_,_,rfl,rfl,qa,qK (j:=0) rfl,b,us,rfl,qb,?_⟩
   rw[ee];refine xC (fun cc=>⟨_,rfl,by omega,?_,s8⟩) (fun cc=>⟨?_,s8⟩)
   ·rw[vq et,zv cc,zP]
    exact N.snoc rd
   ·rw[vq et,zu cc,jn]
    exact N
  rintro ws H8 ⟨N,s8⟩;rw[bq,qz] at N;have wl:=N.len;rw[zn] at wl;have az:=qV (fun t:zS=>!t.pk.isEmpty) (g.map (jU (zU J st g) (zX J st g)))
  rw[zn] at az;refine⟨by omega,fun a1 ab=>?_⟩
  have A9:upd H8 a1 (.lst ws) a1=some (.lst ws):=zd;have ar:=s8.trans (zb (H:=H8) (o:=.lst ws) ab);have r9:=N.same (zb (H:=H8) (o:=.lst ws) ab);have ac:=(a0.trans ae).trans ar;have af:H2 a1=none:=((a0.trans ae).trans s8).free ab;generalize upd H8 a1 (.lst ws)=H9 at *
  refine⟨_,rfl,mv,nI (vT (zU J st g) (zX J st g) (zj g)),rfl,by rw[zki];exact u4 (ar _ _ M7),by rw[xM];omega,fun a2 m2 T bn bo=>?_⟩
  have ap:=ac.trans (zb (H:=H9) (o:=.lst (m2.map V.int)) T);refine⟨_,rfl,by show 3<=_;omega,fun q hq=>?_⟩
  have sq:=zb (H:=upd H9 a2 (.lst (m2.map V.int))) (o:=.tup [.ref a1,.ref a2,.ref dl]) hq;have bh:dl≠a1:=zm Y af;have bi:dl≠a2:=zm (ac _ _ Y) T;have bg:a1≠a2:=zm A9 T;refine k q a1 a2 dl ws _ ⟨U.trans (ap.trans sq),u6 zd,U.free af,U.free (ac.free T),?_,bg,z9 bh,z9 bi,sq _ _ ((zb T) _ _ A9),(r9.same (zb T)).same sq,?_,?_⟩
  ·exact s1.free av
  ·rw[sq _ _ zd,Vl bn bo]
  ·rw[(ap.trans sq) _ _ Y,em]
theorem zcP(n:Nat)(g:Nat->Int)(v:Int):jP (n+1) (upF g n v)=jP n g++[.int v]:=by
 unfold jP;rw[JN,zP];congr 1
 ·refine zaM fun k hk=>?_
  have:=xR.mp hk;unfold upF;rw[zu (by omega)]
 ·show [V.int (upF g n v n)]=_
  unfold upF;rw[zv rfl]
theorem za2:∀{b:List Int},(∀z∈b,0<=z/\z<=4)->0<=b.sum/\b.sum<=4*(b.length:Int)
 | [],_=>⟨Zq _,Zq _⟩
 | a::r,h=>by
  have h1:=h a jm;have h2:=za2 fun z hz=>h z (jS _ hz)
  rw[wA,xP];omega
inductive zdK(K:W.Frag)(B:List V)(H:Hp)(Q:VK):Prop
 | mk (b s l:Addr) (J:Job) (g os:List Nat) (D:List V) (A:List zS) (n:Int) (_:B=[.ref b,.ref s,.ref l]) (_:BoxAt H b n) (_:n<600000) (_:Rep K H (xQ J) (.ref s)) (_:l≠b) (_:H l=some (.lst D)) (_:Reps K H (A.map jH) D) (_:MOk J g os A) (_:∀(c:Addr) (st:Nat->Int) f,SameB b H f->BoxAt f b (n+100)->c≠b->H c=none->f c=some (.lst (jP J.fs.length st))->(∀k,0<=st k/\st k<=400)->Q (.ref c) f):zdK K B H Q
def zje(K:W.Frag):Sp:=fun b H Q _=>zdK K b H Q
theorem zju:zD ["_law_box_here","_law_job_here","_law_plan_here","_law_found","_law_at","_law_feeder","_law_used","_law_some"] ["_law_box_here","_law_job_here","_law_plan_here"] (zy (topL 48)):=u3
def zcu(b:_)(g:_)(l:_)(c:_)(H:_)(n:_):=fun(i:Nat) (σ:St) (f:Hp)=>(Ex5 fun(s A B D:Option V) (st:Nat->Int)=>An5 (σ=[some (.ref b),some (.ref g),some (.ref l),some (.ref c),s,A,B,D]) (SameB b H f) (BoxAt f b (n+2*(i:Int))) (f c=some (.lst (jP i st))) ((∀k,0<=st k/\st k<=400)):Prop)
theorem zj1{f:Addr}{fd:FuncData}(F:Fun K "_law_stock_now" "_law_stock_now" (topL 48) f fd)(B:Blt G)(L:Dfn P w K G C "_law_take" 1 ["_law_box_here","_law_size"] vG):qY P w K G C CX0 2 f fd ["_law_box_here","_law_job_here","_law_plan_here"] (zje K):=by
 have nd:=zju.nd;refine F.ok zju (fun vs H Q E h=>?_) (fun au A an s H vs Q E hr h=>?_)
 ·obtain⟨b,jp,l,J,am,os,xs,ts,n,rfl,_⟩:=h
  rfl
 ·obtain⟨b,jp,l,J,am,os,xs,ts,n,rfl,B0,hn,rj,ak,hl,rl,mo,k⟩:=h
  have ar:=bG1000000;have tl:=mo.po.len;have ll:=rl.len;rw[zn] at ll;obtain⟨g,fs,ps,as,fv,px,qj,_,qf,rf,_,_,_⟩:=xW rj;have lf:=rf.len;rw[zn] at lf;have fl:=mo.jo.fl;refine⟨_,(zf (zE (i:=3) nd rfl (Or.inl rfl) (qC ze))
   (zf (qZ jC rfl (yn rfl B.enumerate (za (zF je (pv 1) zi (fun _ _=>rfl)) ze)) (qL rfl (zr (zq (i:=4) nd rfl (Or.inr rfl)) (zr (zq (i:=5) nd rfl (Or.inl rfl)) qk)))
   (zf (zE (i:=6) nd rfl (Or.inl rfl) (zx (X5 rfl) rfl B.sum boot_sum (za (xh ["_law_at"] [4] rfl rfl (by kernel_rfl) (qg (pv 2)) (fun _ _ _ _=>qS) (fun _ _ _ _=>(zx (va (K:=K) rfl) rfl B.len boot_len (za (jv ["_law_at"] [2] rfl rfl (by kernel_rfl) (Vt (K:=K) rfl (pv 0)) (fun _ _ _ _=>(ju (zG j8 (zF (qM (K:=K) rfl) (pv 0) zi (fun _ _=>rfl)) (pv 1) (zL _)))) (fun _ _ _ _=>(pv 0))) ze)))) ze)))
    (zf (zE (i:=7) nd rfl (Or.inl rfl) (qC (pa7 zi (zx (Qj rfl) rfl B.max JD (za zi (za (zM vJ (pv 6) zi) ze))) (pv 6) (zM ja (pv 6) zi) (zk L hr.m rfl (za (pv 0) (za zi ze))) (zF je (pv 5) zi (fun _ _=>rfl)) zi)))
    (zo (jt (xE xL w9 w8 jE (pv 3) (za (zF qJ (pv 7) (zk L hr.m rfl (za (pv 0) (za zi ze))) (fun _ _=>rfl)) ze)))))))
   (zo (zB (pv 3))))),?_⟩
  refine⟨le0,fun c hc=>?_⟩
  have Y:=B0.nne hc;have s0:=zb (H:=H) (o:=.lst []) hc;refine⟨_,rfl,jp,_,_,_,rfl,rfl,s0.sqT qj,qK (j:=2) rfl,fs,rfl,⟨_,s0.sqT qf⟩,Qh (K:=K) (a:=fs) (xs:=fv) (zcu b jp l c H n) ⟨_,_,_,_,fun _=>0,rfl,(u8 b H).new hc,(B0.new hc).mono (by omega),zd,fun _=>⟨Zq 0,show(0:Int)<=400 by decide⟩⟩ (fun i σ H1 _ ⟨_,_,_,_,_,_,S1,_,_,_⟩=>qf.keep (u7 B0 S1)) ?_ ?_⟩
  ·rintro i x σ H1 T hx ⟨v4,v5,v6,v7,st,rfl,S1,B1,O,a0⟩ hT
   have T1:=u7 B0 S1;obtain⟨d,ed,rd⟩:=(rf.keep T1 (xX _)).get hx;rw[zZ] at ed;obtain⟨fe,ef,rfl⟩:=qE.mp ed;obtain⟨fa,fc,rfl,ao,_⟩:=xI rd;have il:=(zC.mp ef).1;have aw:=(mo.jo.fa fe (qr ef)).2.2;have sT:=zb (H:=H1) (o:=.tup [.int (i:Int),.ref fa]) hT;have S2:=S1.new (o:=.tup [.int (i:Int),.ref fa]) hT;have B2:=B1.new (o:=.tup [.int (i:Int),.ref fa]) hT;have ag:=sT _ _ O;have ac:=sT.sqT ao;refine⟨T,_,rfl,u6 zd,rfl,_,_,rfl,_,_,rfl,rfl,?_⟩
   generalize upd H1 T (.tup [.int (i:Int),.ref fa])=H2 at *
   have ab:=S2 _ _ hl ak;have ap:=rl.keep (u7 B0 S2) (xD ts);refine⟨_,rfl,l,rfl,⟨_,u4 ab⟩,qQ (K:=K) (a:=l) (xs:=xs) (fun j zs H3=>∃N:List Int,zs=N.map V.int/\N.length=j/\(∀z∈N,0<=z/\z<=4)/\Same H2 H3) ⟨[],rfl,rfl,(fun z hz=>nomatch hz),u5 _⟩ (fun j zs H3 ⟨_,_,_,_,s3⟩=>u4 (s3 _ _ ab)) ?_ ?_⟩
   ·rintro j x zs H3 hx ⟨N,rfl,nl,nb,s3⟩
    obtain⟨d,ed,rd⟩:=(ap.same s3).get hx;rw[zZ] at ed;obtain⟨t,et,rfl⟩:=qE.mp ed;have jl:=(zC.mp et).1;have aq:=mo.po.tr t (qr et);have t4:=aq.p2;have av:=mo.jo.hd1;obtain⟨a,pb,pc,us,vs,rfl,qa,qb,rb,qc,rc⟩:=jZ rd;have lb:=rb.len;rw[zn] at lb;refine⟨a,_,rfl,qa,rfl,_,_,rfl,_,_,rfl,rfl,rfl,?_⟩
    refine⟨_,rfl,pb,rfl,⟨_,qb⟩,j6 (K:=K) (a:=pb) (xs:=us) (fun m ws H4=>ws.length<=m/\Same H3 H4) ⟨zJ _,u5 _⟩ (fun m ws H4 ⟨_,M⟩=>M.sqT qb) ?_ ?_⟩
    ·rintro m y ws H4 hy ⟨wl,M⟩
     obtain⟨d2,e2,r2⟩:=(rb.same M).get hy;rw[zZ] at e2;obtain⟨p,ep,rfl⟩:=qE.mp e2;obtain⟨pa,rfl,qp⟩:=qv r2;have ml:=(zC.mp ep).1;refine⟨rfl,_,rfl,pa,_,_,_,rfl,rfl,qp,qK (j:=1) rfl,_,rfl,rfl,_,rfl,xC (fun cc=>⟨_,rfl,by omega,by rw[qo];show _+1<=_;omega,M⟩) (fun cc=>⟨by omega,M⟩)⟩
    ·rintro ws H4 ⟨wl,M⟩
     refine⟨by omega,fun D hD=>⟨D,ws,rfl,.inl (u4 zd),by rw[zn];omega,N++[(ws.length:Int)],?_,?_,?_,s3.trans (M.trans (zb hD))⟩⟩
     ·rw[zP];rfl
     ·rw[qo,nl];rfl
     ·intro z hz
      rcases qU.mp hz with hz | hz
      ·exact nb z hz
      ·rw[qD.mp hz]
       omega
   rintro zs H3 ⟨N,rfl,nl,nb,s3⟩;obtain⟨u0,u1⟩:=za2 nb;refine⟨by rw[zn];omega,fun D hD=>⟨D,N,rfl,u4 zd,fun z hz=>by have:=nb z hz;omega,by omega,?_⟩⟩
   generalize N.sum=I at u0 u1;have M:=s3.trans (zb (H:=H3) (o:=.lst (N.map V.int)) hD);have S4:=S2.trans (u9 M);have B4:=B2.same M;have ah:=M _ _ ag;have ae:=M.sqT ac;generalize upd H3 D (.lst (N.map V.int))=H4 at *
   refine⟨_,rfl,_,_,rfl,rfl,_,_,rfl,_,rfl,_,rfl,_,_,rfl,rfl,_,rfl,b,5,_,rfl,B4,by omega,by decide,by decide,fun r H5 r0 r1 B5 S5=>?_⟩
   have af:=ae.keep (u7 B4 S5);have ai:=S5 _ _ ah Y;refine⟨_,rfl,fa,_,_,_,rfl,rfl,af,qK (j:=2) rfl,by show 7<=_;omega,fun sm U=>?_⟩
   have al:=B5.nne U;have aa:=(zb (H:=H5) (o:=.lst [.int 0,.int (if I-1>0 then I-1 else 0),.int I,.int (I+1),.int r,.int fe.m,.int 400]) U) _ _ ai
   have S6:=(S4.trans S5).new (o:=.lst [.int 0,.int (if I-1>0 then I-1 else 0),.int I,.int (I+1),.int r,.int fe.m,.int 400]) U
   have B6:=B5.new (o:=.lst [.int 0,.int (if I-1>0 then I-1 else 0),.int I,.int (I+1),.int r,.int fe.m,.int 400]) U
   refine⟨_,rfl,.inl ⟨rfl,_,u4 aa⟩,_,rfl,_,rfl,b,7,_,rfl,B6,by omega,by decide,by decide,fun r7 H7 ax ay B7 S7=>?_⟩
   obtain⟨v,ev,v0,v1⟩:∃v,atI [V.int 0,.int (if I-1>0 then I-1 else 0),.int I,.int (I+1),.int r,.int fe.m,.int 400] r7=some (.int v)/\0<=v/\v<=400:=by
    have hc:r7=0\/r7=1\/r7=2\/r7=3\/r7=4\/r7=5\/r7=6:=by omega
    rcases hc with rfl | rfl | rfl | rfl | rfl | rfl | rfl
    ·exact⟨0,rfl,by omega,by omega⟩
    ·exact⟨_,rfl,by split<;>omega,by split<;>omega⟩
    ·exact⟨_,rfl,by omega,by omega⟩
    ·exact⟨_,rfl,by omega,by omega⟩
    ·exact⟨_,rfl,by omega,by omega⟩
    ·exact⟨_,rfl,by omega,by omega⟩
    ·exact⟨400,rfl,by omega,by omega⟩
   have aj:=S7 _ _ aa Y;refine⟨sm,_,_,_,rfl,rfl,u4 (S7 _ _ zd al),ev,c,_,_,rfl,rfl,aj,by rw[jO];omega,_,_,_,_,upF st i v,rfl,(S6.trans S7).put hc,(B7.other Y).mono (by omega),?_,fun k=>?_⟩
   ·rw[zd,zcP]
   ·unfold upF
    by_cases e:k=i
    ·rw[zv e];exact⟨v0,v1⟩
    ·rw[zu e];exact a0 k
  ·rintro σ H1 ⟨v4,v5,v6,v7,st,rfl,S1,B1,O,a0⟩
   rw[lf] at O B1;exact⟨_,rfl,k c st H1 S1 (B1.mono (by omega)) Y hc O a0⟩
theorem MOk.t100{J:Job}{g os:List Nat}{A:List zS}(m:MOk J g os A):∀t∈A,t.pk.length<=4/\t.ly.length<=4/\(∀p∈t.pk,p.1<100/\p.2<100)/\∀k∈t.ly,k<100:=fun t s=>by
 have b:=m.po.tr t s;have E:=b.p2;have D:=m.jo.hd1;have l:=b.ly.length_eq;rw[zn] at l;have H:=m.jo.pl;have B:=m.jo.fl;have c:∀p∈t.pk,p.1<100/\p.2<100:=fun p f=>by
  have:=m.ok p (wT.mpr ⟨t,s,f⟩);omega
 refine⟨by omega,by omega,c,fun k hk=>?_⟩
 obtain⟨p,f,rfl⟩:=zN.mp (b.ly.mem_iff.mp hk);exact(c p f).1
inductive zd2(K:W.Frag)(B:List V)(H:Hp)(Q:VK):Prop
 | mk (b:Addr) (n:Int) (_:B=[.ref b]) (_:BoxAt H b n) (_:n<100000) (_:∀(q s l c:Addr) (J:Job) (g os:List Nat) (D:List V) (A:List zS) (st:Nat->Int) f,SameB b H f->BoxAt f b (n+6000)->SqT K f q [.ref s,.ref l,.ref c]->Rep K f (xQ J) (.ref s)->f l=some (.lst D)->Reps K f (A.map jH) D->l≠b->c≠b->MOk J g os A->f c=some (.lst (jP J.fs.length st))->(∀k,0<=st k/\st k<=400)->Q (.ref q) f):zd2 K B H Q
def zhL(K:W.Frag):Sp:=fun b H Q _=>zd2 K b H Q
theorem zjG:zD ["_law_box_here","_law_few","_law_most","_law_job_here","_law_plan_here"] ["_law_box_here"] (zy (topL 50)):=u3
def zct(b:_)(H:_)(n:_):=fun(l:St) (g:Hp)=>(Ex2 fun(f c:Int)=>An7 (l=[some (.ref b),some (.int f),some (.int c),none,none]) (0<=f) (f<=60) (0<=c) (c<=60) (SameB b H g) (BoxAt g b (n+1)):Prop)
theorem zkd{f:Addr}{fd:FuncData}(F:Fun K "_law_broken" "_law_broken" (topL 50) f fd)(B:Blt G)(l:Dfn P w K G C "_law_take" 1 ["_law_box_here","_law_size"] vG)(L:Dfn P w K G C "_law_job" 4 ["_law_box_here","_law_few","_law_most","_law_plenty"] (zg3 K))(D:Dfn P w K G C "_law_plan" 4 ["_law_box_here","_law_job_here","_law_most"] (zdL K))(g:Dfn P w K G C "_law_stock_now" 2 ["_law_box_here","_law_job_here","_law_plan_here"] (zje K)):qY P w K G C CX0 5 f fd ["_law_box_here"] (zhL K):=by
 have nd:=zjG.nd;refine F.ok zjG (fun vs H Q E h=>?_) (fun an A al s H vs Q E N h=>?_)
 ·obtain⟨b,n,rfl,_⟩:=h
  rfl
 ·obtain⟨b,n,rfl,B0,hn,k⟩:=h
  have am:=bG1000000;refine⟨_,(zf (yR (jQ (wv (zG j8 (zk l N.m rfl (za (pv 0) (za zi ze))) zi (zL _)) (qX (za zi (za zi ze))) (qX (za zi (za zi ze)))) (qL rfl (zr (zq (i:=1) nd rfl (Or.inl rfl)) (zr (zq (i:=2) nd rfl (Or.inl rfl)) qk)))))
   (zf (zE (i:=3) nd rfl (Or.inl rfl) (zk L N.m rfl (za (pv 0) (za (pv 1) (za (pv 2) (za (qW j8 (zk l N.m rfl (za (pv 0) (za zi ze))) zi (zL _)) ze))))))
   (zf (zE (i:=4) nd rfl (Or.inl rfl) (zk D N.m rfl (za (pv 0) (za (pv 3) (za (zF qJ (qC (za zi (za zi (za zi ze)))) (zk l N.m rfl (za (pv 0) (za zi ze))) (fun _ _=>rfl)) ze)))))
   (zo (zB (qX (za (pv 3) (za (pv 4) (za (zk g N.m rfl (za (pv 0) (za (pv 3) (za (pv 4) ze)))) ze))))))))),?_⟩
  refine⟨zct b H n,?_,?_⟩
  ·refine⟨_,rfl,b,16,n,rfl,B0,by omega,by decide,by decide,fun r H1 r0 r1 B1 S1=>⟨rfl,_,rfl,xC (fun c=>⟨le2,fun T U=>⟨T,_,rfl,u6 zd,rfl,_,_,rfl,_,_,rfl,rfl,60,60,rfl,by decide,by decide,by decide,by decide,S1.new U,B1.new U⟩⟩) (fun c=>⟨le2,fun T U=>⟨T,_,rfl,u6 zd,rfl,_,_,rfl,_,_,rfl,rfl,8,24,rfl,by decide,by decide,by decide,by decide,S1.new U,B1.new U⟩⟩)⟩⟩
  rintro σ' H1 ⟨ah,aa,rfl,f0,f1,m0,m1,S1,B1⟩;refine⟨_,rfl,_,rfl,_,rfl,_,rfl,b,2,_,rfl,B1,by omega,by decide,by decide,fun r H2 r0 r1 B2 S2=>⟨rfl,b,ah,aa,_,_,rfl,B2,by omega,f0,f1,m0,m1,fun jp J I H3 S3 B3 rj jo=>?_⟩⟩
  have ae:=(S1.trans S2).trans S3;refine⟨_,rfl,_,rfl,by show 3<=_;omega,fun l1 h1=>⟨_,rfl,b,3,_,rfl,B3.new h1,by omega,by decide,by decide,fun r2 H4 ao ap B4 S4=>?_⟩⟩
  have n1:=B3.nne h1;have L4:=S4 l1 _ zd n1;have af:=(ae.new (o:=.lst [.int 0,.int 0,.int 5]) h1).trans S4;have ab:=(rj.same (zb (o:=.lst [.int 0,.int 0,.int 5]) h1)).keep (u7 (B3.new h1) S4) (ZV J);obtain⟨Y,ag,aj,ak⟩:∃Y:Int,atI [V.int 0,V.int 0,V.int 5] r2=some (.int Y)/\0<=Y/\Y<=100:=by
   have hc:r2=0\/r2=1\/r2=2:=by omega
   rcases hc with rfl | rfl | rfl
   ·exact⟨0,rfl,by decide,by decide⟩
   ·exact⟨0,rfl,by decide,by decide⟩
   ·exact⟨5,rfl,by decide,by decide⟩
  refine⟨l1,_,_,_,rfl,rfl,u4 L4,ag,b,jp,J,I,Y,_,rfl,B4,by omega,ab,jo,aj,ak,fun lp os ts tr H5 S5 B5 M _ LP RT pm ob po=>?_⟩
  have ac:=ab.keep (u7 B4 S5) (ZV J);have a0:MOk J I os ts:=⟨jo,po,pm,ob⟩;refine⟨_,rfl,_,rfl,_,rfl,_,rfl,_,rfl,b,jp,lp,J,I,os,tr,ts,_,rfl,B5,by omega,ac,M,LP,RT,a0,fun c st H6 S6 B6 nc _ hc ai=>⟨by show 3<=_;omega,fun q hq=>?_⟩⟩
  have T6:=u7 B5 S6;have O:=zb (H:=H6) (o:=.tup [.ref jp,.ref lp,.ref c]) hq;exact k q jp lp c J I os tr ts st _ (((af.trans S5).trans S6).trans (u9 O)) ((B6.same O).mono (by omega)) (u6 zd) ((ac.keep T6 (ZV J)).same O) (O _ _ (S6 _ _ LP M)) ((RT.keep T6 (xD ts)).same O) M nc a0 (O _ _ hc) ai
end
theorem Q8{α:Type}{C:List α->Prop}(h0:C [])(hs:∀l a,C l->C (l++[a])):∀l,C l:=fun l=>by
 have:∀r:List α,C r.reverse:=fun r=>by
  induction r with
  | nil=>exact h0
  | cons a r b=>rw[List.reverse_cons];exact hs _ _ b
 have h:=this l.reverse;rwa[List.reverse_reverse] at h
def vU(J:Job)(st:Nat->Int):Job:={ J with fs:=J.fs.mapIdx fun k f=>{ f with m:=st k } }
theorem yQ(J:Job)(st:Nat->Int)(k:Nat):(vU J st).fs[k]? =(J.fs[k]?).map fun f=>{ f with m:=st k }:=List.getElem?_mapIdx
theorem yj(J:Job)(st:Nat->Int):(vU J st).fs.length=J.fs.length:=List.length_mapIdx
theorem zei{J:Job}{st:Nat->Int}{f:wD}(h:f∈(vU J st).fs):∃(k:Nat) (g:wD),J.fs[k]? =some g/\f={ g with m:=st k }:=by
 obtain⟨k,hk⟩:=yH.mp h;rw[yQ] at hk;obtain⟨g,b,rfl⟩:=qE.mp hk;exact⟨k,g,b,rfl⟩
theorem zfW{J:Job}{c:List Nat}{st:Nat->Int}(b:JobOk J c)(hs:∀k,0<=st k/\st k<=400):JobOk (vU J st) c:=by
 refine⟨b.gate,b.hd0,b.hd1,by rw[yj];exact b.fl,fun f l=>?_,b.pl,fun p w=>?_,b.op,b.bo,b.al,by rw[yj];exact b.f0⟩
 ·obtain⟨k,g,s,rfl⟩:=zei l
  obtain⟨h1,h2,_⟩:=b.fa g (qr s);exact⟨h1,h2,(hs k).1,(hs k).2⟩
 ·obtain⟨h1,h2,f,l,e⟩:=b.pa p w
  refine⟨h1,h2,?_⟩
  obtain⟨k,hk⟩:=yH.mp l;have:(vU J st).fs[k]? =some { f with m:=st k }:=by rw[yQ,hk];rfl
  exact⟨_,qr this,e⟩
theorem zcQ{J:Job}{st:Nat->Int}{p:Nat×Nat}(h:xp J p):xp (vU J st) p:=by
 obtain⟨f,c,e1,e2,b⟩:=h;exact⟨f,{ c with m:=st p.2 },e1,by rw[yQ,e2];rfl,b⟩
def Kd(J:Job)(l:List (Nat×Option Nat)):Prop:=∀q∈l,∀k,q.2=some k->xp J (q.1,k)
theorem zhU{J:Job}{p k:Nat}{c:Nat->Int}(b:p<J.ps.length)(h:k∈rdy J p c):xp J (p,k):=by
 obtain⟨h1,_⟩:=qG.mp h;obtain⟨f,g⟩:=qG.mp h1;have hk:=xR.mp f;have e:=jy g;refine⟨J.ps[p],J.fs[k],jh b,jh hk,?_⟩
 rw[jh hk] at e;unfold Zo at e;rw[jh b] at e;exact jq e
theorem ze5{J:Job}{st:Nat->Int}{all:List (Nat×Nat)}(h:∀p∈all,xp J p):Kd J (P2 J st all all).2:=by
 have:∀(b:List (Nat×Nat)) s,(∀p∈b,xp J p)->Kd J s.2->Kd J (b.foldl (s2 J) s).2:=by
  intro b;induction b with
  | nil=>intro s _ h;exact h
  | cons p r w=>
   intro s h1 h2;rw[List.foldl_cons];refine w _ (fun q hq=>h1 q (jS _ hq)) ?_
   unfold s2;split
   ·exact h2
   ·obtain⟨A,_,l,_⟩:=h1 p jm
    have c:=(zC.mp l).1;split
    ·intro q hq k e
     rcases qU.mp hq with hq | hq
     ·exact h2 q hq k e
     ·rw[qD.mp hq] at e;cases e
    ·rename_i f _ g
     intro q hq k e;rcases qU.mp hq with hq | hq
     ·exact h2 q hq k e
     ·rw[qD.mp hq] at e ⊢
      cases e;exact zhU c (by rw[g];exact jm)
 refine this all _ h fun q hq k e=>?_
 obtain⟨p,c,rfl⟩:=zN.mp (show q∈som (P1 st all).2 from hq)
 cases e;exact h p ((Wr st all).subset c)
theorem zkE{st:Nat->Int}(h:∀k,0<=st k)(all:List (Nat×Nat)):∀k,0<=(P1 st all).1 k:=by
 induction all using Q8 with
 | h0=>exact h
 | hs l p b=>
  rw[Ws];unfold s1;split
  ·intro k
   show 0<=upF _ _ _ k;unfold upF;split
   ·omega
   ·exact b k
  ·exact b
theorem zhv{J:Job}{st:Nat->Int}(h:∀k,0<=st k)(all c:List (Nat×Nat)):∀k,0<=(P2 J st all c).1 k:=by
 induction c using Q8 with
 | h0=>exact zkE h all
 | hs l p b=>
  rw[Wp];unfold s2;split
  ·exact b
  ·split
   ·exact b
   ·rename_i f r e
    have g:=(zfX (show f∈rdy J p.1 (P2 J st all l).1 by rw[e];exact jm)).2
    intro k;show 0<=upF _ _ _ k;unfold upF;split
    ·omega
    ·exact b k
theorem zb0{l:List (Nat×Nat)}{k:Nat}:(l.map (·.2)).count k=(l.filter fun p=>decide (p.2=k)).length:=by
 induction l with
 | nil=>rfl
 | cons a r b=>
  rw[qO,yC,b,vM];by_cases e:a.2=k
  ·rw[zv (zV e),xP,zv (xu.mpr e)]
  ·rw[zu (by simpa using e),zu (by simpa using e)];rfl
theorem zfk{l:List (Nat×Option Nat)}{k:Nat}:(l.map (·.2)).count (some k)=(l.filter fun p=>decide (p.2=some k)).length:=by
 induction l with
 | nil=>rfl
 | cons a r b=>
  rw[qO,yC,b,vM];by_cases e:a.2=some k
  ·rw[zv (zV e),xP,zv (xu.mpr e)]
  ·rw[zu (by simpa using e),zu (by simpa using e)];rfl
section
variable{J:Job}{st:Nat->Int}{s os:List Nat}{l:List zS}
theorem yS(c:List (Nat×Option Nat))(f:Nat->Bool):∀l:List zS,zj (zT c f l)=((zj l).filter fun p=>!f p.1).map fun p=>(p.1,fdN c p.1)
 | []=>rfl
 | t::r=>by
  have A:=yS c f r;have e1:zj (t::r)=t.pk++zj r:=rfl;have e2:zT c f (t::r)=(if(!(jU c f t).pk.isEmpty)=true then [jU c f t] else [])++zT c f r:=by
   unfold zT;rw[qO,vM];split<;>rfl
  have g:zj (zT c f (t::r))=(jU c f t).pk++zj (zT c f r):=by
   rw[e2];split
   ·rfl
   ·rename_i h
    have:(jU c f t).pk=[]:=by
     cases w:(jU c f t).pk with
     | nil=>rfl
     | cons a b=>rw[w] at h;exact absurd rfl h
    rw[this];rfl
  rw[g,e1,A,xT,zP];rfl
theorem zbK(b:List (Nat×Option Nat))(c:Nat->Bool):∀l:List zS,(zY (zT b c l)).Sublist (zY l)
 | []=>JQ _
 | t::r=>by
  have f:=zbK b c r;have h1:(zY (t::r))=t.ly++zY r:=rfl;have h0:((jU b c t).ly).Sublist t.ly:=QE;rw[h1];unfold zT;rw[qO,vM];split
  ·exact h0.append f
  ·exact f.trans (List.sublist_append_right _ _)
theorem MOk.mended(m:MOk J s os l)(hs:∀k,0<=st k/\st k<=400):MOk (vU J st) s os (zT (zU J st l) (zX J st l) l) /\
  ∀k,(((zj (zT (zU J st l) (zX J st l) l)).map (·.2)).count k:Int)<=st k:=by
 have bk:=m.brk;have O:Kd J (zU J st l):=ze5 fun p A=>by
  obtain⟨t,C,A⟩:=wT.mp A;exact(m.po.tr t C).ok p A
 have cnt:∀k,(((zj (zT (zU J st l) (zX J st l) l)).map (·.2)).count k:Int)<=st k:=fun k=>by
  have c:=zaZ J st (zj l) (zj l) k;have nn:=zhv (J:=J) (fun k=>(hs k).1) (zj l) (zj l) k
  have Y:((zj (zT (zU J st l) (zX J st l) l)).map (·.2)).count k<=((zU J st l).map (·.2)).count (some k):=by
   rw[zb0,zfk,yS];have nd:(((((zj l).filter fun p=>!zX J st l p.1).map fun p=>(p.1,fdN (zU J st l) p.1)).filter fun p=>decide (p.2=k)).map (·.1)).Nodup:=by
    refine(List.Sublist.map (fun p:Nat×Nat=>p.1) QE).nodup ?_
    rw[j9];exact(List.Sublist.map (fun p:Nat×Nat=>p.1) QE).nodup bk.nd
   have:=yT (m:=((zU J st l).filter fun p=>decide (p.2=some k)).map (·.1)) nd fun x hx=>by
    obtain⟨q,hq,rfl⟩:=zN.mp hx;obtain⟨h1,h2⟩:=qG.mp hq;obtain⟨p,A,rfl⟩:=zN.mp h1;obtain⟨D,E⟩:=qG.mp A;have e:fdN (zU J st l) p.1=k:=jy h2;have v:=VD (bk.val st p D (by simpa using E))
    rw[e] at v;exact zN.mpr ⟨_,qG.mpr ⟨v,zV rfl⟩,rfl⟩
   rwa[zn,zn] at this
  have Q:((((zU J st l).map (·.2)).count (some k):Nat):Int)+(P2 J st (zj l) (zj l)).1 k=st k:=c
  omega
 have I:∀t∈zT (zU J st l) (zX J st l) l,J8 (vU J st) t:=fun t' G=>by
  obtain⟨h1,h2⟩:=qG.mp G;obtain⟨t,C,rfl⟩:=zN.mp h1;have B:=m.po.tr t C;refine⟨?_,?_,fun q hq=>?_,?_⟩
  ·have:=ZW.mp h2
   cases A:(jU (zU J st l) (zX J st l) t).pk with
   | nil=>exact absurd A this
   | cons a b=>rw[xP];omega
  ·have U:(jU (zU J st l) (zX J st l) t).pk.length<=t.pk.length:=by
    unfold jU;rw[zn];exact qV _ _
   have:=B.p2;show _<=J.hd;omega
  ·obtain⟨p,A,rfl⟩:=zN.mp hq
   obtain⟨D,E⟩:=qG.mp A;exact zcQ (O _ (VD (bk.val st p (wT.mpr ⟨t,C,D⟩) (by simpa using E))) _ rfl)
  ·have e:(jU (zU J st l) (zX J st l) t).pk.map (·.1)=(t.pk.map (·.1)).filter fun p=>!zX J st l p:=by
    unfold jU;rw[j9,zav];rfl
   rw[e];exact B.ly.filter _
 have mem:∀x,x∈zY (zT (zU J st l) (zX J st l) l)↔x∈zY l/\zX J st l x=false:=fun x=>by
  rw[(wH I).mem_iff,(wH m.po.tr).mem_iff,yS];simp only[zN,qG];constructor
  ·rintro⟨q,⟨p,⟨h1,h2⟩,rfl⟩,rfl⟩
   exact⟨⟨p,h1,rfl⟩,by simpa using h2⟩
  ·rintro⟨⟨p,h1,rfl⟩,h2⟩
   exact⟨_,⟨p,⟨h1,by simpa using h2⟩,rfl⟩,rfl⟩
 have L:∀p∈J.as,p.2∈zY (zT (zU J st l) (zX J st l) l)->p.1∈zY (zT (zU J st l) (zX J st l) l):=fun p A h=>by
  rw[mem] at h ⊢;refine⟨m.po.cl p A h.1,?_⟩
  cases e:zX J st l p.1 with
  | false=>rfl
  | true=>
   obtain⟨j,N,k,w⟩:=vf.mp e;have:zX J st l p.2=true:=vf.mpr ⟨j,N,k+1,Wk.snoc w (zN.mpr ⟨p,A,rfl⟩)⟩;rw[h.2] at this;cases this
 refine⟨⟨zfW m.jo hs,⟨I,(zbK _ _ l).trans m.po.sub,?_,L,?_⟩,m.pm,m.bo⟩,cnt⟩
 ·refine jk (qV _ _) ?_
  rw[zn];exact m.po.len
 ·refine⟨(List.range J.fs.length).map fun k=>st k-(((zj (zT (zU J st l) (zX J st l) l)).map (·.2)).count k:Int),?_,fun f z e=>?_,fun f z T e H=>?_⟩
  ·rw[zn,vO,yj]
  ·rw[zZ] at e
   obtain⟨k,_,rfl⟩:=qE.mp e;have:=cnt k;omega
  ·rw[zZ] at e
   obtain⟨k,M,rfl⟩:=qE.mp e;obtain⟨hk,rfl⟩:=zC.mp M;rw[List.getElem_range] at *
   rw[yQ] at H;obtain⟨g,_,rfl⟩:=qE.mp H;rfl
end
section
variable{X:Cx}
theorem zh2{a b c d y:Str}{N O Q T U g Y up:Pos}{L M:Nat}{g2:TG}{scope:Scope}{f l:Expr}{w:List Expr}{wi:TI}{tf:TT}{te:TE}{D:Pos}(B:List Str)(J:List Nat)(hc:X.calm=true)(hk:scope.kind=.function)(hb:we scope.names X.env.scope.names X.N [a,b,c,d] B J=true)(hi:PI X (.Tuple [.Tuple [.Name a N,.Name b O,.Name c Q] M up,.Name d T] L Y) f wi)
  (hf:∀C s H A,PF (zK X ([a,b,c,d]++B) scope C s H A) w tf) (he:∀C s H A,PE (zK X ([a,b,c,d]++B) scope C s H A) l te)
  (G:PG X (.Name y U) g2) (I:swapsWith (.ListComp l [⟨.Tuple [.Tuple [.Name a N,.Name b O,.Name c Q] M up,.Name d T] L Y,f,w,0⟩] scope D) (some (.Name y U)) g.line X.env=pure true:=by rfl)
  (hs:∀x,foldedSetIterable f X.env x=pure x:=by intro _;rfl):PS X (.Assign [.Name y U] (.ListComp l [⟨.Tuple [.Tuple [.Name a N,.Name b O,.Name c Q] M up,.Name d T] L Y,f,w,0⟩] scope D) g) (WB (tLC wi 4 J (VL X.K 2 (vk (VL X.K 3 (vk (xt 0) (vk (xt 1) (vk (xt 2) Ys)))) (vk (xt 3) Ys))) tf te) g2):=by
 obtain⟨h1,h2,E⟩:=xZ hb;refine zen [a,b,c,d] B J hc hk h1 hi (fun C s H A=>?_) hf he G I hs
 exact qL (X:=zK X ([a,b,c,d]++B) scope C s H A) hc (zr (qL (X:=zK X ([a,b,c,d]++B) scope C s H A) hc (zr (xA (h2 a (by simp)) E rfl) (zr (xA (h2 b (by simp)) E rfl) (zr (xA (h2 c (by simp)) E rfl) qk)))) (zr (xA (h2 d (by simp)) E rfl) qk))
end
section
variable{P:Program}{w:World}{K:W.Frag}{G:Str->Option Value}{C:Heap}
inductive WJ(K:W.Frag)(g:List V)(H:Hp)(Q:VK):Prop
 | mk (f c:Addr) (J:Job) (st:Nat->Int) (_:g=[.ref f,.ref c]) (_:Rep K H (xQ J) (.ref f)) (_:J.fs.length<=1000) (_:SqL K H c (jP J.fs.length st)) (_:∀(p:Addr) b,Same H b->Rep K b (xQ (vU J st)) (.ref p)->Q (.ref p) b):WJ K g H Q
def Y4(K:W.Frag):Sp:=fun b H Q _=>WJ K b H Q
theorem zd7:zD ["job","stock","gate","heads","feeders","parts","aheads","changed"] ["job","stock"] (zy (topL 19)):=u3
theorem ze7{J:Job}{st:Nat->Int}{i:Nat}{f:wD}(h:J.fs[i]? =some f):(vU J st).fs.take (i+1)=(vU J st).fs.take i++[{ f with m:=st i }]:=zR (by rw[yQ,h];rfl)
theorem zgj{f:Addr}{fd:FuncData}(F:Fun K "restocked_job" "restocked_job" (topL 19) f fd)(B:Blt G):qY P w K G C CX0 1 f fd ["job","stock"] (Y4 K):=by
 have I:=zd7.nd;refine F.ok zd7 (fun vs H Q E h=>?_) (fun ac A U s H vs Q E hr h=>?_)
 ·obtain⟨jp,c,J,st,rfl,_⟩:=h
  rfl
 ·obtain⟨jp,c,J,st,rfl,rj,fl,hc,k⟩:=h
  have ab:=bG1000000;obtain⟨g,fs,ps,as,fv,px,qj,rg,qf,rf,qp,rp,ra⟩:=xW rj;have lf:=rf.len;rw[zn] at lf;refine⟨_,(zf (jQ (pv 0) (qL rfl (zr (zq (i:=2) I rfl (Or.inl rfl)) (zr (zq (i:=3) I rfl (Or.inl rfl)) (zr (zq (i:=4) I rfl (Or.inl rfl)) (zr (zq (i:=5) I rfl (Or.inl rfl)) (zr (zq (i:=6) I rfl (Or.inl rfl)) qk)))))))
   (zf (zh2 [] [] rfl rfl (by kernel_rfl) (zer rfl B.zip (za (pv 4) (za (pv 1) ze))) (fun _ _ _ _=>qS) (fun _ _ _ _=>(qX (za (pv 0) (za (pv 1) (za (pv 3) ze))))) (zq (i:=7) I rfl (Or.inl rfl)))
   (zo (zB (qX (pa5 (pv 2) (pv 3) (qH jx rfl B.tuple jM (za (pv 7) ze)) (pv 5) (pv 6))))))),?_⟩
  refine⟨_,rfl,jp,_,rfl,qj,rfl,_,_,rfl,_,_,rfl,_,_,rfl,_,_,rfl,_,_,rfl,rfl,?_⟩
  refine⟨_,rfl,_,rfl,false,true,fs,c,rfl,⟨fv,qf⟩,⟨_,hc⟩,?_⟩
  refine zeY (K:=K) (k1:=false) (k2:=true) (xs:=fv) (ys:=jP J.fs.length st) (fun i b l=>Reps K l (((vU J st).fs.take i).map wW) b/\Same H l) ⟨rfl,u5 _⟩ (fun i b l ⟨_,M⟩=>⟨M.sqT qf,M.seq hc⟩) ?_ ?_
  ·rintro i x y b l T e1 e2 ⟨L,M⟩ hT
   have s4:=M.trans (zb (o:=.tup [x,y]) hT);have aa:=L.same (zb (o:=.tup [x,y]) hT);obtain⟨d,q1,r1⟩:=(rf.same s4).get e1;rw[zZ] at q1;obtain⟨fe,w1,rfl⟩:=qE.mp q1;have hi:=(zC.mp w1).1;rw[vc hi] at e2;cases e2;obtain⟨fa,fc,rfl,Y,a0⟩:=xI r1;have zl:=L.len;rw[zn,qm] at zl;refine⟨T,_,rfl,u6 zd,rfl,_,_,rfl,⟨fa,_,rfl,Y,rfl,_,_,rfl,_,_,rfl,_,_,rfl,rfl,_,_,rfl,rfl,rfl,?_⟩⟩
   generalize upd l T (.tup [.ref fa,.int (st i)])=O at *
   refine⟨_,rfl,_,rfl,_,rfl,by show 3<=_;omega,fun q hq=>⟨by omega,?_,s4.trans (zb hq)⟩⟩
   rw[ze7 w1,zP];have sq:=zb (H:=O) (o:=.tup [.str fe.k,.ref fc,.int (st i)]) hq;exact(aa.same sq).app ⟨_,_,rfl,⟨q,_,rfl,u6 zd,_,_,rfl,rfl,_,_,rfl,⟨fc,_,rfl,sq.sqT a0,_,_,rfl,rfl,_,_,rfl,rfl,rfl⟩,_,_,rfl,rfl,rfl⟩,rfl⟩
  ·rintro b l ⟨L,M⟩
   rw[jO,lf,Nat.min_self,<- yj J st,qz] at L;have zl:=L.len;rw[zn,yj] at zl;refine⟨by omega,fun D hD=>?_⟩
   have sD:=zb (H:=l) (o:=.lst b) hD;refine⟨_,rfl,_,rfl,_,rfl,D,b,rfl,.inl ⟨u4 zd,fun t ht=>?_⟩⟩
   have sT:=sD.trans (zb (o:=.tup b) ht);have qT:=zd (H:=upd l D (.lst b)) (a:=t) (o:=.tup b);generalize upd (upd l D (.lst b)) t (.tup b)=O at sT qT;refine⟨_,rfl,_,rfl,by show 5<=_;omega,fun p hp=>?_⟩
   have sp:=zb (H:=O) (o:=.tup [.ref g,.int J.hd,.ref t,.ref ps,.ref as]) hp;have N:=(M.trans sT).trans sp;exact k p _ N ⟨p,_,rfl,u6 zd,_,_,rfl,rg.same N,_,_,rfl,rfl,_,_,rfl,⟨t,b,rfl,u6 (sp _ _ qT),L.same (sT.trans sp)⟩,_,_,rfl,⟨ps,px,rfl,N.sqT qp,rp.same N⟩,_,_,rfl,ra.same N,rfl⟩
def Dry(J:Job)(s:(Nat->Int)×List (Nat×Option Nat)):Prop:=∀q∈s.2,q.2=none->∀k∈atK J.fs (Zo J q.1) J.fs.length,s.1 k<=0
theorem Dry.step{J:Job}{s:(Nat->Int)×List (Nat×Option Nat)}(h:Dry J s)(p:Nat×Nat):Dry J (s2 J s p):=by
 unfold s2;split
 ·exact h
 ·cases e:rdy J p.1 s.1 with
  | nil=>
   intro q hq b k hk;rcases qU.mp hq with z | z
   ·exact h q z b k hk
   ·rw[qD.mp z] at hk
    have c:k∉rdy J p.1 s.1:=by rw[e];exact Zz
    unfold rdy at c;rw[qG] at c;have:¬0<s.1 k:=fun y=>c ⟨hk,zV y⟩
    show s.1 k<=0;omega
  | cons f r=>
   intro q hq b k hk;rcases qU.mp hq with z | z
   ·have:=h q z b k hk
    show upF s.1 f (s.1 f-1) k<=0;unfold upF;split
    ·next e=>rw[<- e];omega
    ·exact this
   ·rw[qD.mp z] at b
    cases b
theorem Dry.fold{J:Job}:∀(b:List (Nat×Nat)) {s:(Nat->Int)×List (Nat×Option Nat)},Dry J s->Dry J (b.foldl (s2 J) s)
 | [],_,h=>h
 | p::b,_,h=>Dry.fold b (h.step p)
theorem ziV(J:Job)(st:Nat->Int)(all b:List (Nat×Nat)):Dry J (P2 J st all b):=Dry.fold b fun q hq c=>by
 obtain⟨y,_,rfl⟩:=zN.mp hq;cases c
def kdB(J:Job)(κ:Str)(p:Nat):Bool:=decide (Zo J p=κ)
theorem XF(f:Nat->Bool):∀b:List (Nat×Option Nat),(b.map (·.1)).countP f=(wants b).countP f+b.countP fun q=>q.2.isSome&&f q.1
 | []=>rfl
 | (p,o)::b=>by
  have c:=XF f b;have e:wants ((p,o)::b)=(if o=none then [p] else [])++wants b:=by
   unfold wants;rw[vM];cases o<;>rfl
  rw[e,qO,yD,c,List.countP_append,yD];cases o with
  | none=>simp[yD];omega
  | some k=>simp;omega
theorem zb7(l:List (Option Nat)):∀{b:List Nat},b.Nodup->l.countP (fun o=>b.any fun k=>decide (o=some k))=(b.map fun k=>l.count (some k)).sum
 | [],_=>by
  rw[vP,List.sum_nil,List.countP_eq_zero];exact fun o _ h=>nomatch (show false=true from h)
 | k::b,h=>by
  have f:=zb7 l (wX.mp h).2;rw[qO,wA,<- f];have A:=(wX.mp h).1;clear f;induction l with
  | nil=>rfl
  | cons o l c=>
   rw[yD,yD,yC,c,vQ];by_cases e:o=some k
   ·subst e
    have s:(b.any fun g=>decide (some k=some g))=false:=by
     rw[List.any_eq_false];exact fun x hx z=>A (by rw[jq (jy z)];exact hx)
    rw[s];simp;omega
   ·rw[jd e]
    have e2:(o==some k)=false:=by rw[beq_eq_false_iff_ne];exact e
    rw[e2];simp;omega
theorem XB{c fr st:Nat->Int}(h:∀k,c k+fr k=st k):∀b:List Nat,(b.map c).sum+(b.map fr).sum=(b.map st).sum
 | []=>rfl
 | k::b=>by
  have:=XB h b;have:=h k;rw[qO,qO,qO,wA,wA,wA];omega
theorem WC(c:Nat->Nat):∀b:List Nat,(((b.map c).sum:Nat):Int)=(b.map fun k=>((c k:Nat):Int)).sum
 | []=>rfl
 | k::b=>by
  have:=WC c b;rw[qO,qO,wA,wA,<- this];omega
theorem zdA{c:Nat->Int}(h:∀k,0<=c k):∀b:List Nat,0<=(b.map c).sum
 | []=>Zq _
 | k::b=>by
  have:=zdA h b;have:=h k;rw[qO,wA];omega
theorem zg0{fr:Nat->Int}:∀{ks:List Nat},(∀k∈ks,fr k=0)->(ks.map fr).sum=0
 | [],_=>rfl
 | k::ks,h=>by
  rw[qO,wA,h k jm,zg0 fun x hx=>h x (jS _ hx)]
  rfl
theorem ziR(fs:List wD)(κ:Str)(n:Nat):(atK fs κ n).Nodup:=QE.nodup Zx
theorem Xu{J:Job}{f:List zS}{st:Nat->Int}(b:Brk J f)(O:∀p∈zj f,xp J p)(hs:∀k,0<=st k)(κ:Str) :
  (((wants (zU J st f)).countP (kdB J κ):Nat):Int)=max 0 (((((zj f).map (·.1)).countP (kdB J κ):Nat):Int)-((atK J.fs κ J.fs.length).map st).sum):=by
 have Q:Kd J (zU J st f):=ze5 O;have c:=zaZ J st (zj f) (zj f);have E:=zhv (J:=J) hs (zj f) (zj f);have g:=ziV J st (zj f) (zj f);have I:=XF (kdB J κ) (zU J st f);rw[(b.keys st).countP_eq] at I;have e1:(zU J st f).countP (fun q=>q.2.isSome&&kdB J κ q.1)=((zU J st f).map (·.2)).countP fun o=>(atK J.fs κ J.fs.length).any fun k=>decide (o=some k):=by
  rw[zau];refine List.countP_congr fun q hq=>?_
  show(q.2.isSome&&kdB J κ q.1)=true↔((atK J.fs κ J.fs.length).any fun k=>decide (q.2=some k))=true
  cases e:q.2 with
  | none=>simp
  | some k=>
   obtain⟨H,A,h1,h2,B⟩:=Q q hq k e;have hk:=(zC.mp h2).1;have e2:Zo J q.1=H.k:=by unfold Zo;rw[show J.ps[q.1]? =some H from h1];rfl
   unfold kdB atK;rw[e2];simp only[zaK,Bool.true_and,yF,qG,xR,decide_eq_true_eq];constructor
   ·rintro rfl
    exact⟨k,⟨hk,by rw[show J.fs[k]? =some A from h2,<- B];rfl⟩,rfl⟩
   ·rintro⟨x,⟨_,D⟩,N⟩
    cases N;rw[show J.fs[k]? =some A from h2] at D
    rw[<- B];exact jq D
 rw[e1,zb7 _ (ziR _ _ _)] at I;have ss:=XB (c:=fun k=>((((zU J st f).map fun q:Nat×Option Nat=>q.2).count (some k):Nat):Int)) (fr:=(P2 J st (zj f) (zj f)).1) (st:=st) (fun k=>c k) (atK J.fs κ J.fs.length)
 have Y:=WC (fun k=>((zU J st f).map fun q:Nat×Option Nat=>q.2).count (some k)) (atK J.fs κ J.fs.length)
 have sn:=zdA E (atK J.fs κ J.fs.length);by_cases T:(wants (zU J st f)).countP (kdB J κ)=0
 ·omega
 ·obtain⟨p,l,s⟩:=List.countP_pos_iff.mp (Nat.pos_of_ne_zero T)
  have L:Zo J p=κ:=jy s;have z:=zg0 (fr:=(P2 J st (zj f) (zj f)).1) (ks:=atK J.fs κ J.fs.length) fun k hk=>by
   have:=g (p,none) (wy.mp l) rfl k (by rw[L];exact hk)
   have:=E k;omega
  omega
theorem Yo{J:Job}(l:List Nat):∀{b:List Str},b.Nodup->l.countP (fun p=>b.any fun κ=>kdB J κ p)=(b.map fun κ=>l.countP (kdB J κ)).sum
 | [],_=>by
  rw[vP,List.sum_nil,List.countP_eq_zero];exact fun o _ h=>nomatch (show false=true from h)
 | κ::b,h=>by
  have f:=Yo (J:=J) l (wX.mp h).2;rw[qO,wA,<- f];have s:=(wX.mp h).1;clear f;induction l with
  | nil=>rfl
  | cons p l c=>
   rw[yD,yD,yD,c,vQ];by_cases e:Zo J p=κ
   ·have g:(b.any fun A=>kdB J A p)=false:=by
     rw[List.any_eq_false];exact fun x hx z=>s (by rw[<- e,show Zo J p=x from jy z];exact hx)
    rw[g,show kdB J κ p=true from zV e]
    simp;omega
   ·rw[show kdB J κ p=false from jd e]
    simp;omega
theorem ze3{J:Job}{l:List Nat}{b:List Str}(f:b.Nodup)(h:∀p∈l,Zo J p∈b):l.length=(b.map fun κ=>l.countP (kdB J κ)).sum:=by
 rw[<- Yo l f];refine(List.countP_eq_length.mpr fun p c=>?_).symm
 exact yF.mpr ⟨_,h p c,zV rfl⟩
theorem XC(c:Str->Nat):∀b:List Str,(((b.map c).sum:Nat):Int)=(b.map fun k=>((c k:Nat):Int)).sum
 | []=>rfl
 | k::b=>by
  have:=XC c b;rw[qO,qO,wA,wA,<- this];omega
def Qf(J:Job)(st:Nat->Int)(b:List zS)(κ:Str):Int:=max 0 (((((zj b).map (·.1)).countP (kdB J κ):Nat):Int)-((atK J.fs κ J.fs.length).map st).sum)
theorem YU{J:Job}{c:List zS}{st:Nat->Int}(b:Brk J c)(f:∀p∈zj c,xp J p)(hs:∀k,0<=st k){g:List Str}(s:g.Nodup)(h:∀p∈(zj c).map (·.1),Zo J p∈g):(((wants (zU J st c)).length:Nat):Int)=(g.map (Qf J st c)).sum:=by
 rw[ze3 (J:=J) (l:=wants (zU J st c)) s fun p f=>h p ((b.keys st).mem_iff.mp (zN.mpr ⟨_,wy.mp f,rfl⟩)),XC]
 congr 1
 refine zaM fun κ _=>?_
 exact Xu b f hs κ
theorem zcW{l:List (Nat×Nat)}(s:(l.map (·.1)).Nodup){p q:Nat×Nat}(b:p∈l)(hq:q∈l)(e:p.1=q.1):p=q:=by
 induction l with
 | nil=>cases b
 | cons a l f=>
  obtain⟨c,g⟩:=wX.mp (show(a.1::l.map (·.1)).Nodup from s)
  rcases qe.mp b with rfl | h1
  ·rcases qe.mp hq with rfl | h2
   ·rfl
   ·exact absurd (zN.mpr ⟨q,h2,e.symm⟩) c
  ·rcases qe.mp hq with rfl | h2
   ·exact absurd (zN.mpr ⟨p,h1,e⟩) c
   ·exact f g h1 h2
theorem zgT(st:Nat->Int)(k:Nat):∀b:List (Nat×Nat),(P1 st b).2.filter (fun p=>decide (p.2=k))=(b.filter fun p=>decide (p.2=k)).take (st k).toNat:=by
 refine Q8 (List.take_nil (i:=(st k).toNat)).symm fun b p f=>?_
 ·skip
  have c:=zfJ st b k;rw[zb0,f] at c;rw[Ws,xT];unfold s1;by_cases e:p.2=k
  ·have l:[p].filter (fun p:Nat×Nat=>decide (p.2=k))=[p]:=by rw[vM,zv (zV e)];rfl
   rw[l,List.take_append];rw[qm] at c;by_cases h0:0<(P1 st b).1 p.2
   ·rw[zv h0]
    show((P1 st b).2++[p]).filter _=_;rw[xT,l,f];rw[e] at h0;congr 1
    rw[show(st k).toNat-(b.filter fun p=>decide (p.2=k)).length=((st k).toNat-(b.filter fun p=>decide (p.2=k)).length-1)+1 by omega,List.take_succ_cons,List.take_nil]
   ·rw[zu h0,f]
    rw[e] at h0;rw[show(st k).toNat-(b.filter fun p=>decide (p.2=k)).length=0 by omega]
    exact(jn _).symm
  ·have g:[p].filter (fun p:Nat×Nat=>decide (p.2=k))=[]:=by rw[vM,zu (by rw[xx];exact e)];rfl
   rw[g,jn,<- f];split
   ·show((P1 st b).2++[p]).filter _=_
    rw[xT,g,jn]
   ·rfl
theorem zbt{J:Job}:∀(b:List (Nat×Nat)) {s:(Nat->Int)×List (Nat×Option Nat)} {q:Nat×Option Nat},q∈s.2->q∈(b.foldl (s2 J) s).2
 | [],_,_,h=>h
 | p::b,s,q,h=>by
  refine zbt b (s:=s2 J s p) ?_
  unfold s2;split
  ·exact h
  ·split
   ·exact jN _ h
   ·exact jN _ h
theorem zfS{J:Job}{st:Nat->Int}{b:List zS}{p:Nat×Nat}(h:p∈((zj b).filter fun q=>decide (q.2=p.2)).take (st p.2).toNat):(p.1,some p.2)∈zU J st b:=by
 rw[<- zgT] at h;exact zbt _ (zN.mpr ⟨p,(qG.mp h).1,rfl⟩)
theorem zdC{J:Job}{st:Nat->Int}{c:List zS}(b:Brk J c){p:Nat×Nat}(h:p∈((zj c).filter fun q=>decide (q.2=p.2)).take (st p.2).toNat)(f:zX J st c p.1=false):p∈zj (zT (zU J st c) (zX J st c) c):=by
 have g:p∈zj c:=(qG.mp (Qu h)).1;have e:fdN (zU J st c) p.1=p.2:=by
  unfold fdN;rw[show lkF (zU J st c) p.1=some (some p.2) from zit (b.ky st).nd (zfS h)]
  rfl
 rw[yS];refine zN.mpr ⟨p,qG.mpr ⟨g,by rw[f];rfl⟩,?_⟩
 rw[e]
theorem zak{J:Job}{st:Nat->Int}{c:List zS}{p:Nat}(b:Brk J c)(g:zX J st c p=true)(h:∀j:Nat,(∃k,1<=k/\Wk (asI J) k (j:Int) (p:Int))->j∈(zj c).map (·.1)->zX J st c j=false):p∈wants (zU J st c):=by
 obtain⟨j,f,k,w⟩:=vf.mp g;cases k with
 | zero=>
  have e:(j:Int)=p:=w;rw[show p=j by omega]
  exact f
 | succ k=>
  have hk:=(b.keys st).mem_iff.mp (zN.mpr ⟨_,wy.mp f,rfl⟩);have:=h j ⟨k+1,by omega,w⟩ hk
  rw[show zX J st c j=true from vf.mpr ⟨j,f,0,rfl⟩] at this
  cases this
theorem Wu{J:Job}{st:Nat->Int}{c:List zS}(b:Brk J c){p:Nat}(h:p∈wants (zU J st c)):p∈vo (zX J st c) (zj c):=
 qG.mpr ⟨(b.keys st).mem_iff.mp (zN.mpr ⟨_,wy.mp h,rfl⟩),vf.mpr ⟨p,h,0,rfl⟩⟩
theorem zeA{J:Job}{st:Nat->Int}{c:List zS}(b:Brk J c):vo (zX J st c) (zj c)=[]↔wants (zU J st c)=[]:=by
 constructor
 ·intro e
  refine zfE.mpr fun p f=>?_
  have:=Wu b f;rw[e] at this;cases this
 ·intro e
  refine zfE.mpr fun p f=>?_
  obtain⟨j,g,_⟩:=vf.mp (qG.mp f).2;rw[e] at g;cases g
theorem zis{b:List (Nat×Option Nat)}{c:Nat->Bool}{all:List (Nat×Nat)}(g:(all.map (·.1)).Nodup):(((all.filter fun p=>!c p.1).map fun p=>(p.1,fdN b p.1)).filter fun q=>!decide (q∈all)).map (·.1)=vT b c all:=by
 unfold vT;rw[zav,j9,List.filter_filter];have:∀p∈all,((!decide ((p.1,fdN b p.1)∈all))&&!c p.1)=(!c p.1&&decide (fdN b p.1≠p.2)):=fun p f=>by
  rw[Bool.and_comm];congr 1
  rw[xw,Bool.not_eq_true',decide_eq_false_iff_not,xx];constructor
  ·intro h e
   exact h (by rw[e];exact f)
  ·intro h z
   exact h (congrArg Prod.snd (zcW g z f rfl))
 rw[show all.filter (fun a=>((fun q:Nat×Nat=>!decide (q∈all))∘fun p=>(p.1,fdN b p.1)) a&&!c a.1)=all.filter (fun p=>!c p.1&&decide (fdN b p.1≠p.2)) from List.filter_congr this]
 rfl
theorem zjH:zD ["_law_plan_here","_law_found","_law_picks","_law_lays"] ["_law_plan_here"] (zy (topL 49)):=u3
theorem zke{f:Addr}{fd:FuncData}(F:Fun K "_law_all_picks" "_law_all_picks" (topL 49) f fd)(B:Blt G):qY P w K G C CX0 1 f fd ["_law_plan_here"] (Xg K):=by
 have M:=zjH.nd;refine F.ok zjH (fun vs H Q E h=>?_) (fun aa A N s H vs Q E hr h=>?_)
 ·obtain⟨l,xs,T,rfl,_⟩:=h
  rfl
 ·obtain⟨l,xs,T,rfl,hl,rl,al,k⟩:=h
  have a0:=bG1000000;have ll:=rl.len;rw[zn] at ll;refine⟨_,(zf (zE (i:=1) M rfl (Or.inl rfl) (qC ze))
   (zf (qZ jC rfl (qg (pv 0)) (qL rfl (zr (zq (i:=2) M rfl (Or.inl rfl)) (zr (zq (i:=3) M rfl (Or.inl rfl)) qk)))
   (zo (jt (xE xL Wj Wi zbI (pv 1) (za (pv 2) ze)))))
   (zo (zB (pv 1))))),?_⟩
  refine⟨le0,fun r J=>?_⟩
  have s0:=zb (H:=H) (o:=.lst []) J;refine⟨_,rfl,l,rfl,⟨_,s0.seq hl⟩,jW (K:=K) (a:=l) (xs:=xs) (fun i σ D=>Ex3 fun(U Y:Option V) (I:List V)=>An5 (σ=[some (.ref l),some (.ref r),U,Y]) (Same H D) (D r=some (.lst I)) (SameT (upd H r (.lst [])) D) (Reps K D ((zj (T.take i)).map jJ) I)) ⟨_,_,[],rfl,s0,zd,SameT.refl _,rfl⟩ (fun i σ D _ ⟨_,_,_,_,s1,_,_,_⟩=>s1.seq hl) ?_ ?_⟩
  ·rintro i x σ D hx ⟨U,Y,I,rfl,s1,g,T1,L⟩
   obtain⟨d,ed,rd⟩:=(rl.same s1).get hx;rw[zZ] at ed;obtain⟨t,et,rfl⟩:=qE.mp ed;obtain⟨a,b,c,O,ys,rfl,qa,qb,rb,qc,rc⟩:=jZ rd;have lb:=rb.len;rw[zn] at lb;have zl:=L.len;rw[zn] at zl;have le1:=JH T (i+1);rw[zR et,wP,qo] at le1;refine⟨a,_,rfl,qa,rfl,_,_,rfl,_,_,rfl,rfl,?_⟩
   refine⟨_,rfl,.inl ⟨rfl,_,u4 g⟩,_,rfl,?_⟩
   have TT:=ub (ys:=I++O) g;refine⟨r,b,I,O,rfl,rfl,g,qb,by omega,_,_,I++O,rfl,s1.put J,zd,T1.trans TT,?_⟩
   rw[zR et,wP,zP];exact(L.keep TT (qA _)).app (rb.keep TT (qA _))
  ·rintro σ D ⟨U,Y,I,rfl,s1,g,T1,L⟩
   rw[ll,qz] at L;exact⟨_,rfl,k r I D s1 J g L⟩
def y6(st:Nat->Int)(n:Nat)(all:List (Nat×Nat)):List (Nat×Nat):=(List.range n).flatMap fun k=>(all.filter fun p=>decide (p.2=k)).take (st k).toNat
theorem Zh(st:Nat->Int)(n:Nat)(all:List (Nat×Nat)):y6 st (n+1) all=y6 st n all++(all.filter fun p=>decide (p.2=n)).take (st n).toNat:=by
 unfold y6;rw[JN,QF,V2,List.flatMap_nil,jn]
theorem XE(st:Nat->Int)(all:List (Nat×Nat)):∀n,(y6 st n all).length<=n*all.length
 | 0=>ji _
 | n+1=>by
  rw[Zh,qo,Nat.succ_mul];have h1:=XE st all n;have h2:((all.filter fun p=>decide (p.2=n)).take (st n).toNat).length<=all.length:=by
   rw[qm];have:=qV (fun p:Nat×Nat=>decide (p.2=n)) all
   omega
  omega
inductive za6(K:W.Frag)(g:List V)(H:Hp)(Q:VK):Prop
 | mk (l c:Addr) (s:List V) (f:List zS) (n:Nat) (st:Nat->Int) (_:g=[.ref l,.ref c]) (_:SqL K H l s) (_:Reps K H (f.map jH) s) (_:(zj f).length<=60) (_:SqL K H c (jP n st)) (_:n<=60) (_:(∀k,0<=st k)) (_:∀(p:Addr) (A:List V) b,Same H b->H p=none->b p=some (.lst A)->Reps K b ((y6 st n (zj f)).map jJ) A->Q (.ref p) b):za6 K g H Q
def zdI(K:W.Frag):Sp:=fun b H Q _=>za6 K b H Q
theorem zg8:zD ["_law_plan_here","_law_stock","_law_found","_law_at","_law_many"] ["_law_plan_here","_law_stock"] (zy (topL 52)):=u3
def zcs(l:_)(c:_)(r:_)(H:_)(K:_)(st:_)(g:_):=fun(i:Nat) (σ:St) (b:Hp)=>(Ex3 fun(s A:Option V) (f:List V)=>An4 (σ=[some (.ref l),some (.ref c),some (.ref r),s,A]) (Same H b) (b r=some (.lst f)) (Reps K b ((y6 st i (zj g)).map jJ) f):Prop)
theorem zih{f:Addr}{fd:FuncData}(F:Fun K "_law_staying" "_law_staying" (topL 52) f fd)(B:Blt G)(b:Dfn P w K G C "_law_all_picks" 1 ["_law_plan_here"] (Xg K)):qY P w K G C CX0 2 f fd ["_law_plan_here","_law_stock"] (zdI K):=by
 have nd:=zg8.nd;refine F.ok zg8 (fun vs H Q E h=>?_) (fun ag A ab s H vs Q E hr h=>?_)
 ·obtain⟨l,c,xs,I,n,st,rfl,_⟩:=h
  rfl
 ·obtain⟨l,c,xs,I,n,st,rfl,hl,rl,al,hc,nl,sn,k⟩:=h
  have af:=bG1000000;refine⟨_,(zf (zE (i:=2) nd rfl (Or.inl rfl) (qC ze))
   (zf (qZ jC rfl (Vu rfl B.enumerate (za (pv 1) ze)) (qL rfl (zr (zq (i:=3) nd rfl (Or.inr rfl)) (zr (zq (i:=4) nd rfl (Or.inl rfl)) qk)))
   (zo (jt (xE xL Wj Wi XW (pv 2) (za (wu ZJ (jv ["_law_at"] [3] rfl rfl (by kernel_rfl) (qg (zk b hr.m rfl (za (pv 0) ze))) (fun _ _ _ _=>(ju (zG j8 (zF (qM (K:=K) rfl) (pv 0) zi (fun _ _=>rfl)) (pv 1) (zL _)))) (fun _ _ _ _=>(pv 0))) ZN (wG (pv 4))) ze)))))
   (zo (zB (pv 2))))),?_⟩
  refine⟨le0,fun r J=>?_⟩
  have s0:=zb (H:=H) (o:=.lst []) J;refine⟨_,rfl,c,rfl,⟨_,s0.seq hc⟩,Js (K:=K) (a:=c) (xs:=jP n st) (zcs l c r H K st I) ⟨_,_,[],rfl,s0,zd,rfl⟩ (fun i σ H1 _ ⟨_,_,_,_,s1,_,_⟩=>s1.seq hc) ?_ ?_⟩
  ·rintro i x σ H1 T hx ⟨v3,v4,zs,rfl,s1,L,rz⟩ hT
   have hi:i<n:=by
    have:=(zC.mp hx).1;rwa[jO] at this
   rw[vc hi] at hx;cases hx;have sT:=s1.trans (zb (o:=.tup [.int i,.int (st i)]) hT);have M:=(zb (o:=.tup [.int i,.int (st i)]) hT) _ _ L;have aa:=rz.same (zb (o:=.tup [.int i,.int (st i)]) hT);refine⟨T,_,rfl,u6 zd,rfl,?_⟩
   generalize upd H1 T (.tup [.int i,.int (st i)])=H2 at sT M aa;have zl:=rz.len;rw[zn] at zl;have sl:=XE st (zj I) i;have hm:i*(zj I).length<=60*60:=Nat.mul_le_mul (by omega) al
   refine⟨_,_,rfl,_,_,rfl,rfl,?_⟩
   refine⟨_,rfl,.inl ⟨rfl,_,u4 M⟩,?_⟩
   refine⟨_,rfl,l,xs,I,rfl,sT.seq hl,rl.same sT,al,fun p ps H3 s3 p0 hp rp=>⟨p,rfl,⟨_,u4 hp⟩,qQ (K:=K) (a:=p) (xs:=ps) (fun j g U=>Same H3 U/\Reps K U ((((zj I).take j).filter fun q=>decide (q.2=i)).map jJ) g) ⟨u5 _,rfl⟩ (fun j g U ⟨O,_⟩=>u4 (O _ _ hp)) ?_ ?_⟩⟩
   ·rintro j x g U hx ⟨O,N⟩
    obtain⟨d,ed,rd⟩:=(rp.same O).get hx;rw[zZ] at ed;obtain⟨q,eq,rfl⟩:=qE.mp ed;obtain⟨pa,rfl,qp⟩:=qv rd;have yl:=N.len;rw[zn] at yl;have fl:=qV (fun q:Nat×Nat=>decide (q.2=i)) ((zj I).take j)
    rw[qm] at fl;refine⟨rfl,_,rfl,pa,_,_,_,rfl,rfl,qp,qK (j:=1) rfl,_,rfl,rfl,_,rfl,xC (fun cc=>⟨_,rfl,by omega,O,?_⟩) (fun cc=>⟨O,?_⟩)⟩
    ·have e:q.2=i:=by
      have:=jy cc;cases this;rfl
     rw[zR eq,xT,vM,zv (zV e),JO,zP];exact N.app ⟨_,[],rfl,rd,rfl⟩
    ·have e:¬q.2=i:=fun z=>cc (by rw[z];exact zV rfl)
     rw[zR eq,xT,vM,zu (by rw[xx];exact e),JO,jn]
     exact N
   ·rintro g U ⟨O,N⟩
    have pl:=rp.len;rw[zn] at pl;rw[pl,qz] at N;have yl:=N.len;rw[zn] at yl;have fl:=qV (fun q:Nat×Nat=>decide (q.2=i)) (zj I)
    obtain⟨m,em⟩:∃m:Nat,st i=(m:Int):=⟨(st i).toNat,(Int.toNat_of_nonneg (sn i)).symm⟩;have eL:y6 st (i+1) (zj I)=y6 st i (zj I)++((zj I).filter fun q=>decide (q.2=i)).take m:=by
     rw[Zh,em,jR]
    refine⟨by omega,fun D hD=>⟨_,rfl,_,rfl,D,g,rfl,u4 zd,fun D2 Y=>?_⟩⟩
    rw[em,Jx] at *
    have s5:=(O.trans (zb (o:=.lst g) hD)).trans (zb (o:=.lst (g.take m)) Y);have a0:=s5 _ _ (s3 _ _ M);have ae:=(aa.same s3).same s5;have ac:=(N.same (zb (o:=.lst g) hD)).same (zb (o:=.lst (g.take m)) Y);have sH:=(sT.trans s3).trans s5;have TT:=ub (ys:=zs++g.take m) a0;refine⟨r,D2,zs,g.take m,rfl,rfl,a0,zd,by rw[qm];omega,_,_,zs++g.take m,rfl,sH.put J,zd,?_⟩
    rw[eL,zP];refine(ae.keep TT (qA _)).app ?_
    rw[JL];exact Reps.take m (ac.keep TT (qA _))
  ·rintro σ H1 ⟨v3,v4,zs,rfl,s1,L,rz⟩
   rw[jO] at rz;exact⟨_,rfl,k r zs H1 s1 J L rz⟩
def YX(t:zS):Dat:=.tup [.lst ((t.pk.map (·.1)).map y4),.lst (t.ly.map y4)]
theorem zcE(c:List (Nat×Option Nat))(b:Nat->Bool)(t:zS):YX (jU c b t)=.tup [.lst (((t.pk.filter fun p=>!b p.1).map (·.1)).map y4),.lst ((t.ly.filter fun p=>!b p).map y4)]:=by
 unfold YX jU;show Dat.tup [.lst ((((t.pk.filter fun p=>!b p.1).map fun p=>(p.1,fdN c p.1)).map (·.1)).map y4),_]=_
 rw[j9 (g:=fun p:Nat×Nat=>p.1)]
 rfl
theorem Jh:∀l:List Nat,PyData.depthAll (Dat.pys (l.map y4))=0
 | []=>rfl
 | n::l=>by
  have h1:=Jh l;show max 0 (PyData.depthAll (Dat.pys (l.map y4)))=0;rw[h1];rfl
theorem WA:∀b:List zS,PyData.depthAll (Dat.pys (b.map YX))<=50
 | []=>ji _
 | u::b=>by
  have h1:=WA b;have h2:=Jh (u.pk.map (·.1))
  have c:=Jh u.ly;show max (PyData.depth (.tuple [.list (Dat.pys ((u.pk.map (·.1)).map y4)),.list (Dat.pys (u.ly.map y4))])) (PyData.depthAll (Dat.pys (b.map YX)))<=50
  simp only[PyData.depth,PyData.depthAll,h2,c];omega
theorem zff{fd:List (Nat×Option Nat)}{ob:Nat->Bool}{b:List zS}{i:Nat}{t:zS}(h:b[i]? =some t):zT fd ob (b.take (i+1))=zT fd ob (b.take i)++(if((t.pk.filter fun p=>!ob p.1).map (·.1)).isEmpty then [] else [jU fd ob t]):=by
 unfold zT;rw[vq h];congr 1
 have e:(jU fd ob t).pk.isEmpty=((t.pk.filter fun p=>!ob p.1).map (·.1)).isEmpty:=by
  unfold jU;show((t.pk.filter fun p=>!ob p.1).map fun p=>(p.1,fdN fd p.1)).isEmpty=_
  rw[zaA,zaA]
 rw[e];cases((t.pk.filter fun p=>!ob p.1).map (·.1)).isEmpty<;>rfl
inductive zdH(K:W.Frag)(D:List V)(H:Hp)(Q:VK):Prop
 | mk (l A B o:Addr) (J:Job) (I E:List V) (b:List zS) (f:List (Nat×Option Nat)) (c:Nat->Bool) (s:List Int) (_:D=[.ref l,.ref A,.ref B,.ref o]) (_:Rep K H (xQ J) (.ref l)) (_:SqL K H A I) (_:Reps K H (b.map jH) I) (_:SqL K H B E) (_:Reps K H ((zT f c b).map jH) E) (_:SqL K H o (s.map V.int)) (_:(∀t∈b,t.pk.length<=4/\t.ly.Perm (t.pk.map (·.1)))) (_:b.length<=60) (_:(∀t∈b,∀p∈t.pk,((p.1:Int)∈s↔c p.1=true))) (_:(∀p∈zj (zT f c b),xp J p)) (_:(zj (zT f c b)).length<=60) (_:∀g,Same H g->Q (.bl true) g):zdH K D H Q
def zhI(K:W.Frag):Sp:=fun b H Q _=>zdH K b H Q
theorem zjr:zD ["_law_job_here","_law_plan_here","_law_trips","_law_out","_law_due","_law_picks","_law_lays","_law_some"] ["_law_job_here","_law_plan_here","_law_trips","_law_out"] (zy (topL 51)):=u3
theorem zjY{f:Addr}{fd:FuncData}(F:Fun K "_law_trips_right" "_law_trips_right" (topL 51) f fd)(B:Blt G)(N:Dfn P w K G C "_law_all_picks" 1 ["_law_plan_here"] (Xg K)):qY P w K G C CX0 2 f fd ["_law_job_here","_law_plan_here","_law_trips","_law_out"] (zhI K):=by
 have nd:=zjr.nd;refine F.ok zjr (fun vs H Q E h=>?_) (fun bp A b0 s H vs Q E hr h=>?_)
 ·obtain⟨jp,pl,tl,o,J,xs,ws,ts,fd,T,ms,rfl,_⟩:=h
  rfl
 ·obtain⟨jp,pl,tl,o,J,xs,ws,ts,fd,T,ms,rfl,rj,aj,rp,af,rt,ho,t4,bn,ai,bc,al,k⟩:=h
  have bo:=bG1000000;have hu:=hr.units0;have ak:=hr.units;have lp:=rp.len;rw[zn] at lp;refine⟨_,(zf (zE (i:=4) nd rfl (Or.inl rfl) (qC ze))
   (zf (qZ jC rfl (qg (pv 1)) (qL rfl (zr (zq (i:=5) nd rfl (Or.inl rfl)) (zr (zq (i:=6) nd rfl (Or.inl rfl)) qk)))
   (zf (Vr ["_law_out"] [3] rfl rfl (by kernel_rfl) (xg (pv 5)) (fun _ _ _ _=>(ju (zG (j3 (K:=K) rfl) (pv 0) (pv 2) (by with_unfolding_all rfl)))) (fun _ _ _ _=>(pv 0)) (zq (i:=7) nd rfl (Or.inl rfl)))
    (zo (zE (i:=4) nd rfl (Or.inl rfl) (zM Zl (pv 4) (zM zeD (qC (za (qX (za (pv 7) (za (jv ["_law_out"] [3] rfl rfl (by kernel_rfl) (xg (pv 6)) (fun _ _ _ _=>(ju (zG (j3 (K:=K) rfl) (pv 0) (pv 1) (by with_unfolding_all rfl)))) (fun _ _ _ _=>(pv 0))) ze))) ze)) (qH yY rfl B.int yB (za (qW (ZR hu) (pv 7) (qC ze) (zL _)) ze))))))))
   (zf (jB (zG (zif ak) (xh [] [] rfl rfl (by kernel_rfl) (qg (pv 2)) (fun _ _ _ _=>qS) (fun _ _ _ _=>(qX (za (zbD (K:=K) rfl [] [] rfl rfl (by kernel_rfl) (Vt (K:=K) rfl (pv 0)) (fun _ _ _ _=>qS) (fun _ _ _ _=>(pv 0))) (za (qH (Xo (K:=K) rfl) rfl B.list xJ (za (pv 1) ze)) ze))))) (pv 4) (zL _))
   (zo (zB vd))
   qF)
   (zo (zB (zx (xY rfl) rfl B.all boot_all (za (xh ["_law_job_here"] [0] rfl rfl (by kernel_rfl) (qg (zk N hr.m rfl (za (pv 2) ze))) (fun _ _ _ _=>qS) (fun _ _ _ _=>(qW j8 (zF (qM (K:=K) rfl) (zF (qM (K:=K) rfl) (zF (qM (K:=K) rfl) (pv 2) zi (fun _ _=>rfl)) (pv 1) (fun _ _=>rfl)) zi (fun _ _=>rfl)) (zF (qM (K:=K) rfl) (zF (qM (K:=K) rfl) (zF (qM (K:=K) rfl) (pv 2) zi (fun _ _=>rfl)) (pv 0) (fun _ _=>rfl)) zi (fun _ _=>rfl)) (zL _)))) ze))))))),?_⟩
  refine⟨le0,fun d0 av=>?_⟩
  have s0:=zb (H:=H) (o:=.lst []) av;refine⟨_,rfl,pl,rfl,⟨_,s0.seq aj⟩,jW (K:=K) (a:=pl) (xs:=xs) (fun i σ H1=>Ex5 fun(v5 v6 v7:Option V) (d:Addr) (ds:List V)=>An4 (σ=[some (.ref jp),some (.ref pl),some (.ref tl),some (.ref o),some (.ref d),v5,v6,v7]) (Same H H1) (H1 d=some (.lst ds)) (Reps K H1 ((zT fd T (ts.take i)).map YX) ds)) ⟨_,_,_,d0,[],rfl,s0,zd,rfl⟩ (fun i σ H1 _ ⟨_,_,_,_,_,_,s1,_,_⟩=>s1.seq aj) ?_ ?_⟩
  ·rintro i x σ H1 hx ⟨v5,v6,v7,d,ds,rfl,s1,hd,rz⟩
   obtain⟨dd,U,rd⟩:=(rp.same s1).get hx;rw[zZ] at U;obtain⟨t,et,rfl⟩:=qE.mp U;have il:=(zC.mp et).1;have tm:=qr et;obtain⟨bu,am⟩:=t4 t tm;have az:=am.length_eq;rw[zn] at az;obtain⟨a,b,c,ps,ys,rfl,qa,qb,rb,qc,rc⟩:=jZ rd;have lb:=rb.len;have lc:=rc.len;rw[zn] at lb lc;have dl:=rz.len;rw[zn] at dl;have ml:(zT fd T (ts.take i)).length<=i:=by
    unfold zT;refine jk (qV _ _) ?_
    rw[zn,qm];omega
   refine⟨a,_,rfl,qa,rfl,_,_,rfl,_,_,rfl,rfl,?_⟩
   refine⟨_,rfl,b,rfl,⟨_,qb⟩,j6 (K:=K) (a:=b) (xs:=ps) (fun j I Y=>I=zt (((t.pk.take j).filter fun p=>!T p.1).map (·.1))/\Same H1 Y) ⟨rfl,u5 _⟩ (fun j I Y ⟨_,s2⟩=>s2.sqT qb) ?_ ?_⟩
   ·rintro j x I Y hx ⟨rfl,s2⟩
    obtain⟨dd,U,rd⟩:=(rb.same s2).get hx;rw[zZ] at U;obtain⟨p,ep,rfl⟩:=qE.mp U;obtain⟨pa,rfl,qp⟩:=qv rd;have jl:=(zC.mp ep).1;have hm:=ai t tm p (qr ep);refine⟨pa,_,rfl,qp,rfl,_,_,rfl,_,_,rfl,rfl,rfl,_,rfl,_,rfl,o,_,rfl,.inl ((s1.trans s2).seq ho),rfl,j4 _,_,rfl,?_⟩
    rw[zv rfl,vL,jf _ ep];cases e:T p.1 with
    | true=>
     refine ifF (by rw[zV (hm.mpr e)];rfl) ⟨?_,s2⟩
     rw[zu (by simp),jn]
    | false=>
     refine ifT (by rw[jd (fun z=>by rw[hm.mp z] at e;cases e)];rfl) ⟨_,rfl,?_,?_,s2⟩
     ·rw[zA,zn]
      exact wY (qV _ _) (by rw[qm];omega)
     ·rw[zv (by simp),zP,<- jA];rfl
   rintro I Y ⟨e1,s2⟩;rw[lb,qz] at e1;subst e1;have kl:(((t.pk.filter fun p=>!T p.1).map (·.1))).length<=t.pk.length:=by rw[zn];exact qV _ _
   have eD:=zff (fd:=fd) (ob:=T) et;have eT:=zcE fd T t;generalize ek:(t.pk.filter fun p=>!T p.1).map (·.1)=l at *
   refine⟨by rw[zA];omega,fun kp aa=>?_⟩
   have K3:upd Y kp (.lst (zt l)) kp=some (.lst (zt l)):=zd;have O:=s2.trans (zb (H:=Y) (o:=.lst (zt l)) aa);generalize upd Y kp (.lst (zt l))=H3 at K3 O;have an:=O.sqT qc;have bg:=rc.same O;refine⟨_,rfl,_,rfl,_,rfl,c,rfl,⟨_,an⟩,j6 (K:=K) (a:=c) (xs:=ys) (fun j I H4=>I=zt ((t.ly.take j).filter fun p=>!T p)/\Same H3 H4) ⟨rfl,u5 _⟩ (fun j I H4 ⟨_,s4⟩=>s4.sqT an) ?_ ?_⟩
   ·rintro j x I H4 hx ⟨rfl,s4⟩
    obtain⟨dd,U,rd⟩:=(bg.same s4).get hx;rw[zZ] at U;obtain⟨n,en,rfl⟩:=qE.mp U;cases(show x=.int (n:Int) from rd)
    have jl:=(zC.mp en).1;obtain⟨p,hp,ep⟩:=zN.mp (am.mem_iff.mp (qr en));have hm:=ai t tm p hp;rw[ep] at hm;refine⟨rfl,_,rfl,_,rfl,o,_,rfl,.inl (((s1.trans O).trans s4).seq ho),rfl,j4 _,_,rfl,?_⟩
    rw[zv rfl,vL,jf _ en];cases e:T n with
    | true=>
     refine ifF (by rw[zV (hm.mpr e)];rfl) ⟨?_,s4⟩
     rw[zu (by simp),jn]
    | false=>
     refine ifT (by rw[jd (fun z=>by rw[hm.mp z] at e;cases e)];rfl) ⟨_,rfl,?_,?_,s4⟩
     ·rw[zA]
      exact wY (qV _ _) (by rw[qm];omega)
     ·rw[zv (by simp),<- jA]
   rintro I H4 ⟨e1,s4⟩;rw[lc,qz] at e1;subst e1;have yl:(t.ly.filter fun p=>!T p).length<=t.ly.length:=qV _ _
   generalize el:(t.ly.filter fun p=>!T p)=a0 at *
   refine⟨by rw[zA];omega,fun L ae=>⟨le2,fun M ab=>⟨le1,fun lq ax=>?_⟩⟩⟩
   have T5:upd (upd (upd H4 L (.lst (zt a0))) M (.tup [.ref kp,.ref L])) lq (.lst [.ref M]) lq=some (.lst [.ref M]):=zd;have bm:=zb (H:=H4) (o:=.lst (zt a0)) ae;have aq:=zb (o:=.tup [.ref kp,.ref L]) ab;have ah:=zb (o:=.lst [.ref M]) ax;have L5:=(aq.trans ah) L _ zd;have P5:=ah M _ zd;have s5:=bm.trans (aq.trans ah);generalize upd (upd (upd H4 L (.lst (zt a0))) M (.tup [.ref kp,.ref L])) lq (.lst [.ref M])=H5 at T5 L5 P5 s5;have K5:=(s4.trans s5) _ _ K3;have ag:=O.trans (s4.trans s5);have kb:(if(!(zt l).isEmpty)=true then(1:Int) else 0).toNat<=1:=by split<;>decide
   have er:(List.replicate (if(!(zt l).isEmpty)=true then(1:Int) else 0).toNat [V.ref M]).flatten=if l.isEmpty then [] else [V.ref M]:=by cases l<;>rfl
   refine⟨_,rfl,le0,fun e0 aw=>?_⟩
   have s6:=zb (H:=H5) (o:=.lst []) aw;refine⟨kp,e0,zt l,rfl,rfl,u4 (s6 _ _ K5),u4 zd,.inr ⟨_,rfl,lq,_,_,rfl,rfl,s6 _ _ T5,by split<;>decide,by split<;>decide,by show 1*_<=_;omega,fun rq ay=>?_⟩⟩
   rw[er];have s7:=s6.trans (zb (o:=.lst (if l.isEmpty then [] else [V.ref M])) ay)
   have R7:upd (upd H5 e0 (.lst [])) rq (.lst (if l.isEmpty then [] else [V.ref M])) rq=some (.lst (if l.isEmpty then [] else [V.ref M])):=zd
   generalize upd (upd H5 e0 (.lst [])) rq (.lst (if l.isEmpty then [] else [V.ref M]))=H7 at s7 R7
   refine⟨d,rq,ds,_,rfl,rfl,(ag.trans s7) _ _ hd,R7,by split<;>simp<;>omega,fun q hq=>⟨_,_,_,q,_,rfl,((s1.trans ag).trans s7).trans (zb hq),zd,?_⟩⟩
   have s8:=s7.trans (zb (o:=.lst (ds++if l.isEmpty then [] else [V.ref M])) hq)
   generalize upd H7 q (.lst (ds++if l.isEmpty then [] else [V.ref M]))=H8 at s8 ⊢
   rw[eD,zP];refine(rz.same (ag.trans s8)).app ?_
   cases l.isEmpty with
   | true=>rfl
   | false=>
    show Reps K _ [YX (jU fd T t)] [V.ref M];rw[eT];exact⟨.ref M,[],rfl,⟨M,_,rfl,u6 (s8 _ _ P5),.ref kp,_,rfl,⟨kp,_,rfl,u4 (s8 _ _ K5),vE l⟩,.ref L,_,rfl,⟨L,_,rfl,u4 (s8 _ _ L5),vE a0⟩,rfl⟩,rfl⟩
  ·rintro σ H1 ⟨v5,v6,v7,d,ds,rfl,s1,hd,rz⟩
   rw[lp,qz] at rz;have lw:=rt.len;rw[zn] at lw;have wl:(zT fd T ts).length<=60:=by
    unfold zT;refine jk (qV _ _) ?_
    rw[zn];exact bn
   refine⟨_,rfl,tl,rfl,⟨_,s1.seq af⟩,qQ (K:=K) (a:=tl) (xs:=ws) (fun i I Y=>Reps K Y (((zT fd T ts).take i).map YX) I/\Same H1 Y) ⟨rfl,u5 _⟩ (fun i I Y ⟨_,s2⟩=>(s1.trans s2).seq af) ?_ ?_⟩
   ·rintro i x I Y hx ⟨ry,s2⟩
    obtain⟨dd,U,rd⟩:=(rt.same (s1.trans s2)).get hx;rw[zZ] at U;obtain⟨t,et,rfl⟩:=qE.mp U;have il:=(zC.mp et).1;obtain⟨a,b,c,ps,ys,rfl,qa,qb,rb,qc,rc⟩:=jZ rd;have lb:=rb.len;rw[zn] at lb;have zl:=ry.len;rw[zn,qm] at zl;have tm:=qr et;have br:t.pk.length<=60:=by
     obtain⟨u1,u2,eu⟩:=List.append_of_mem tm;rw[eu] at al;unfold zj at al;rw[QF,V2,qo,qo] at al;omega
    refine⟨a,_,rfl,qa,rfl,_,_,rfl,_,_,rfl,rfl,rfl,?_⟩
    refine⟨_,rfl,b,rfl,⟨_,qb⟩,j6 (K:=K) (a:=b) (xs:=ps) (fun j I H3=>I=zt ((t.pk.take j).map (·.1))/\Same Y H3) ⟨rfl,u5 _⟩ (fun j I H3 ⟨_,O⟩=>O.sqT qb) ?_ ?_⟩
    ·rintro j x I H3 hx ⟨rfl,O⟩
     obtain⟨dd,U,rd⟩:=(rb.same O).get hx;rw[zZ] at U;obtain⟨p,ep,rfl⟩:=qE.mp U;obtain⟨pa,rfl,qp⟩:=qv rd;have jl:=(zC.mp ep).1;refine⟨pa,_,rfl,qp,rfl,_,_,rfl,_,_,rfl,rfl,rfl,_,rfl,?_,?_,O⟩
     ·rw[zA,zn,qm];omega
     ·rw[zR ep,zP,<- jA];rfl
    rintro ns H3 ⟨e1,O⟩;rw[lb,qz] at e1;subst e1;refine⟨by rw[zA,zn];omega,fun kp aa=>⟨_,rfl,c,ys,rfl,.inr ((O.trans (zb aa)).sqT qc),fun L ae=>⟨le2,fun M ab=>⟨by omega,?_,((s2.trans O).trans (zb aa)).trans ((zb ae).trans (zb ab))⟩⟩⟩⟩
    have sA:=(zb (H:=H3) (o:=.lst (zt (t.pk.map (·.1)))) aa)
    have sB:=(zb (o:=.lst ys) ae).trans (zb (o:=.tup [.ref kp,.ref L]) ab);have sC:=(O.trans sA).trans sB;rw[zR et,zP];exact(ry.same sC).app ⟨.ref M,[],rfl,⟨M,_,rfl,u6 zd,.ref kp,_,rfl,⟨kp,_,rfl,u4 (sB _ _ zd),vE _⟩,.ref L,_,rfl,⟨L,ys,rfl,u4 ((zb ab) _ _ zd),rc.same sC⟩,rfl⟩,rfl⟩
   ·rintro I Y ⟨ry,s2⟩
    rw[lw,qz] at ry;have zl:=ry.len;rw[zn] at zl;refine⟨by omega,fun D hD=>?_⟩
    have sD:=s2.trans (zb (o:=.lst I) hD);have ac:upd Y D (.lst I) D=some (.lst I):=zd;have ap:=ry.same (zb (o:=.lst I) hD);generalize upd Y D (.lst I)=H3 at sD ac ap;have O:=s1.trans sD;refine⟨_,rfl,D,d,_,rfl,rfl,⟨D,I,rfl,u4 ac,ap⟩,⟨d,ds,rfl,u4 (sD _ _ hd),rz.same sD⟩,WA _,_,rfl,ifF rfl ?_⟩
    refine⟨_,rfl,tl,ws,zT fd T ts,rfl,O.seq af,rt.same O,al,fun p ps H4 s4 p0 hp ao=>⟨p,rfl,⟨_,u4 hp⟩,qQ (K:=K) (a:=p) (xs:=ps) (fun i I H5=>I=(List.replicate i true).map V.bl/\Same H4 H5) ⟨rfl,u5 _⟩ (fun i I H5 ⟨_,s5⟩=>u4 (s5 _ _ hp)) ?_ ?_⟩⟩
    ·rintro i x I H5 hx ⟨rfl,s5⟩
     obtain⟨dd,U,rd⟩:=(ao.same s5).get hx;rw[zZ] at U;obtain⟨q,eq,rfl⟩:=qE.mp U;obtain⟨pa,rfl,qp⟩:=qv rd;have il:=(zC.mp eq).1;obtain⟨pt,fe,h1,h2,h3⟩:=bc q (qr eq);obtain⟨g,fs,pp,as,fv,px,qj,_,qf,rf,bf,bi,_⟩:=xW (rj.same ((O.trans s4).trans s5));obtain⟨bq,ar,bh⟩:=wO rf h2;obtain⟨fa,fc,rfl,bd,_⟩:=xI bh;obtain⟨bt,au,bj⟩:=wO bi h1;obtain⟨ba,bs,rfl,be,_⟩:=xV bj;refine⟨pa,_,rfl,qp,rfl,_,_,rfl,_,_,rfl,rfl,rfl,?_⟩
     refine⟨_,rfl,jp,_,_,_,rfl,rfl,qj,rfl,_,rfl,fs,_,_,_,rfl,rfl,qf,qK ar,fa,_,_,_,rfl,rfl,bd,rfl,?_⟩
     refine⟨_,rfl,jp,_,_,_,rfl,rfl,qj,rfl,_,rfl,pp,_,_,_,rfl,rfl,bf,qK au,ba,_,_,_,rfl,rfl,be,rfl,rfl,?_,?_,s5⟩
     ·rw[zn,vy];omega
     ·rw[h3,ZD,zP]
      simp
    rintro I H5 ⟨rfl,s5⟩;have bb:=ao.len;rw[zn] at bb;refine⟨by rw[zn,vy];omega,fun D2 ac=>⟨D2,_,rfl,u4 zd,?_⟩⟩
    rw[show(List.replicate ps.length true).all id=true from by simp]
    exact k _ (((O.trans s4).trans s5).trans (zb ac))
theorem zkh{l:List Nat}(h:l.Nodup):(nI l).Nodup:=List.Pairwise.map _ (fun a b z y=>z (by omega)) h
theorem zic{J:Job}{c:List zS}(b:Brk J c)(f:Nat->Bool):(vo f (zj c)).Nodup:=QE.nodup b.nd
theorem ZT{l:List Nat}{z:Int}:z∈srt (nI l)↔∃p∈l,z=(p:Int):=by
 rw[(wq _).mem_iff];unfold nI;rw[zN];constructor
 ·rintro⟨p,h,rfl⟩
  exact⟨p,h,rfl⟩
 ·rintro⟨p,h,rfl⟩
  exact⟨p,h,rfl⟩
theorem zdd{J:Job}{st:Nat->Int}{c:List zS}(b:Brk J c){f:List (List Int)}(M:f.length=J.ps.length)(A:∀p s,f[p]? =some s->∀j,j∈s↔∃k,1<=k/\Wk (asI J) k j (p:Nat)) :
  ((srt (nI (vo (zX J st c) (zj c)))).filter fun z=>!((f.getD z.toNat []).any fun j=>decide (j∈srt (nI (vo (zX J st c) (zj c)))))).length<=(wants (zU J st c)).length:=by
 have L:(srt (nI (vo (zX J st c) (zj c)))).Nodup:=(wq _).nodup_iff.mpr (zkh (zic b _));have:=(QE (p:=fun z=>!((f.getD z.toNat []).any fun j=>decide (j∈srt (nI (vo (zX J st c) (zj c))))))).nodup L |>.length_le_of_subset (l₂:=nI (wants (zU J st c))) fun z hz=>by
  obtain⟨h1,h2⟩:=qG.mp hz;obtain⟨p,H,rfl⟩:=ZT.mp h1;rw[wJ];obtain⟨hk,E⟩:=qG.mp H;obtain⟨q,hq,rfl⟩:=zN.mp hk;have O:=(b.ok q hq).1;obtain⟨m,l⟩:∃m,f[q.1]? =some m:=⟨_,jh (by omega)⟩
  refine zak b E fun j I B=>?_
  cases e:zX J st c j with
  | false=>rfl
  | true=>
   have D:(j:Int)∈m:=(A _ _ l _).mpr I;have g:(j:Int)∈srt (nI (vo (zX J st c) (zj c))):=ZT.mpr ⟨j,qG.mpr ⟨B,e⟩,rfl⟩;have:(f.getD ((q.1:Int)).toNat []).any (fun j=>decide (j∈srt (nI (vo (zX J st c) (zj c)))))=true:=by
    rw[jR,QG,l];exact yF.mpr ⟨_,D,zV g⟩
   rw[this] at h2;cases h2
 rwa[xM] at this
theorem zeB{J:Job}{st:Nat->Int}{c:List zS}(b:Brk J c)(f:∀p∈zj c,xp J p)(hs:∀k,0<=st k)(κ:Str):((((zj c).map (·.1)).countP (kdB J κ):Nat):Int)-((atK J.fs κ J.fs.length).map st).sum<=(((vo (zX J st c) (zj c)).countP (kdB J κ):Nat):Int):=by
 have h:=Xu b f hs κ;have g:((wants (zU J st c)).filter (kdB J κ)).Nodup:=by
  refine QE.nodup ?_
  have:(wants (zU J st c)).Sublist ((zU J st c).map (·.1)):=QE.map _
  exact this.nodup (b.ky st).nd
 have:=yT (m:=(vo (zX J st c) (zj c)).filter (kdB J κ)) g fun x hx=>by
  obtain⟨h1,h2⟩:=qG.mp hx;exact qG.mpr ⟨Wu b h1,h2⟩
 rw[<- zfA,<- zfA] at this;omega
theorem mx0(a:Int):(if a>0 then a else 0)=max 0 a:=by omega
theorem zhr{J:Job}{p:Nat}{b:yh}(h:J.ps[p]? =some b)(κ:Str):kdB J κ p=decide (b.k=κ):=by
 unfold kdB Zo;rw[h];rfl
theorem YA{α:Type}(f:α->Bool){l:List α}{i:Nat}{x:α}(h:l[i]? =some x):(l.take (i+1)).countP f=(l.take i).countP f+(if f x=true then 1 else 0):=by
 rw[zR h,List.countP_append,yD,List.countP_nil];omega
theorem WD:∀{xs ys:List Str},xs.Nodup->(∀x∈xs,x∈ys)->xs.length<=ys.length
 | [],_,_,_=>ji _
 | x::xs,ys,f,h=>by
  obtain⟨b,c⟩:=wX.mp f;have hx:=h x (by simp)
  have:=WD (xs:=xs) (ys:=ys.erase x) c fun y hy=>(List.mem_erase_of_ne (fun z:y=x=>b (z▸hy))).mpr (h y (jS _ hy))
  rw[zaS hx] at this;have p:=zaQ hx;rw[xP];omega
noncomputable def xr (J:Job) (st:Nat->Int) (b:List zS):List Int:=srt (nI (vo (zX J st b) (zj b)))
def fsB(b:List (List Int))(os:List Int)(z:Int):Bool:=!((b.getD z.toNat []).any fun j=>decide (j∈os))
inductive zdE(K:W.Frag)(A:List V)(H:Hp)(Q:VK):Prop
 | mk (l s c o:Addr) (J:Job) (b os:List Nat) (B:List V) (f:List zS) (st:Nat->Int) (_:A=[.ref l,.ref s,.ref c,.ref o]) (_:Rep K H (xQ J) (.ref l)) (_:SqL K H s B) (_:Reps K H (f.map jH) B) (_:MOk J b os f) (_:SqL K H c (jP J.fs.length st)) (_:(∀k,0<=st k/\st k<=400)) (_:SqL K H o ((xr J st f).map V.int)) (_:∀g,Same H g->Q (.bl true) g):zdE K A H Q
def zhH(K:W.Frag):Sp:=fun b H Q _=>zdE K b H Q
theorem zjp:zD ["_law_job_here","_law_plan_here","_law_stock","_law_out","_law_over_here","_law_picks","_law_total","_law_kind","_law_need","_law_have","_law_first"] ["_law_job_here","_law_plan_here","_law_stock","_law_out"] (zy (topL 53)):=u3
theorem zjW{f:Addr}{fd:FuncData}(F:Fun K "_law_want_right" "_law_want_right" (topL 53) f fd)(B:Blt G)(aa:Dfn P w K G C "_law_over" 1 ["_law_many","_law_aheads_here"] (zdO K))(L:Dfn P w K G C "_law_all_picks" 1 ["_law_plan_here"] (Xg K)):qY P w K G C CX0 2 f fd ["_law_job_here","_law_plan_here","_law_stock","_law_out"] (zhH K):=by
 have nd:=zjp.nd;refine F.ok zjp (fun vs H Q E h=>?_) (fun cf A c2 s H vs Q E hr h=>?_)
 ·obtain⟨jp,pl,c,o,J,bh,os,xs,b,st,rfl,_⟩:=h
  rfl
 ·obtain⟨jp,pl,c,o,J,bh,os,xs,b,st,rfl,rj,bv,rp,mk,hc,aq,ho,k⟩:=h
  have c9:=bG1000000;have hu:=hr.units0;have bk:=mk.brk;have jo:=mk.jo;have az:=bk.al;have cb:=jo.pl;have c8:=jo.fl;have al:=jo.al;have Y:∀p∈zj b,xp J p:=fun p hp=>by
   obtain⟨t,ht,hp⟩:=wT.mp hp;exact(mk.po.tr t ht).ok p hp
  have h0:∀k,0<=st k:=fun k=>(aq k).1
  have ci:(xr J st b).length<=60:=by
   unfold xr;rw[(wq _).length_eq,xM];refine jk (qV _ _) ?_
   rw[zn];exact az
  refine⟨_,(zf (jQ (qX (za (zk aa hr.m rfl (za (zx zI rfl B.len boot_len (za (zF je (pv 0) zi (fun _ _=>rfl)) ze)) (za (zF je (pv 0) zi (fun _ _=>rfl)) ze))) (za (zk L hr.m rfl (za (pv 1) ze)) ze))) (qL rfl (zr (zq (i:=4) nd rfl (Or.inr rfl)) (zr (zq (i:=5) nd rfl (Or.inl rfl)) qk))))
   (zf (zE (i:=6) nd rfl (Or.inl rfl) zi)
   (zf (qZ jC rfl (qg (zx (Xl hr.hd) rfl B.sorted jK (za (qH (zdk hr.hd) rfl B.set boot_set (za (jv [] [] rfl rfl (by kernel_rfl) (xg (zF je (pv 0) zi (fun _ _=>rfl))) (fun _ _ _ _=>qS) (fun _ _ _ _=>(zF (qM (K:=K) rfl) (pv 0) zi (fun _ _=>rfl)))) ze)) ze))) (zq (i:=7) nd rfl (Or.inr rfl))
   (zf (zE (i:=8) nd rfl (Or.inl rfl) (zx zI rfl B.len boot_len (za (jv ["_law_kind","_law_job_here"] [7,0] rfl rfl (by kernel_rfl) (qg (pv 5)) (fun _ _ _ _=>(ju (zG j8 (zF (qM (K:=K) rfl) (zF (qM (K:=K) rfl) (zF (qM (K:=K) rfl) (pv 2) zi (fun _ _=>rfl)) (zF (qM (K:=K) rfl) (pv 0) zi (fun _ _=>rfl)) (fun _ _=>rfl)) zi (fun _ _=>rfl)) (pv 1) (zL _)))) (fun _ _ _ _=>(pv 0))) ze)))
    (zf (zE (i:=9) nd rfl (Or.inl rfl) (zx (X5 rfl) rfl B.sum boot_sum (za (xh ["_law_kind"] [7] rfl rfl (by kernel_rfl) (zer rfl B.zip (za (pv 2) (za (zF je (pv 0) zi (fun _ _=>rfl)) ze))) (fun _ _ _ _=>(ju (zG j8 (zF (qM (K:=K) rfl) (pv 1) zi (fun _ _=>rfl)) (pv 2) (zL _)))) (fun _ _ _ _=>(pv 0))) ze)))
    (zf (zE (i:=6) nd rfl (Or.inl rfl) (zM ja (pv 6) (zx (Qj rfl) rfl B.max JD (za zi (za (zM vJ (pv 8) (pv 9)) ze)))))
    (zo (jB (zG W4 (zx zI rfl B.len boot_len (za (jv ["_law_kind","_law_job_here"] [7,0] rfl rfl (by kernel_rfl) (qg (pv 3)) (fun _ _ _ _=>(ju (zG j8 (zF (qM (K:=K) rfl) (zF (qM (K:=K) rfl) (zF (qM (K:=K) rfl) (pv 2) zi (fun _ _=>rfl)) (pv 0) (fun _ _=>rfl)) zi (fun _ _=>rfl)) (pv 1) (zL _)))) (fun _ _ _ _=>(pv 0))) ze)) (zM vJ (pv 8) (pv 9)) (zL _))
    (zo (zB vd))
    qF))))))
   (zf (Jc ["_law_out","_law_over_here"] [3,4] rfl rfl (by kernel_rfl) (qg (pv 3)) (fun _ _ _ _=>(ju (vn (xf (zx (JC (K:=K) rfl rfl) rfl B.any JE (za (jv ["_law_out"] [1] rfl rfl (by kernel_rfl) (W3 (K:=K) rfl (zF (yu (K:=K) rfl) (pv 2) (pv 0) (fun _ _=>rfl))) (fun _ _ _ _=>qS) (fun _ _ _ _=>(qW (xB (K:=K) rfl) (pv 0) (pv 1) (by with_unfolding_all rfl)))) ze)))))) (fun _ _ _ _=>(pv 0)) (zq (i:=10) nd rfl (Or.inl rfl)))
   (zo (zB (yo (qW zbE (zx zI rfl B.len boot_len (za (pv 10) ze)) (pv 6) (zL _)) (wa (qW j8 (qW (W5 hu) (pv 3) (qC ze) (zL _)) (qW j8 (pv 6) zi (zL _)) (zL _)))))))))),?_⟩
  obtain⟨ta,x0,x1,x2,x3,as,q0,q4,r4⟩:=Jp rj;obtain⟨gg,fs,ps,ce,fv,px,qj,_,qf,rf,a0,ae,_⟩:=xW rj;have ac:=ae.len;rw[zn] at ac;refine⟨_,rfl,jp,_,_,_,rfl,rfl,qj,rfl,ps,_,rfl,.inr a0,_,rfl,jp,_,_,_,rfl,rfl,q0,rfl,ta,as,asI J,px.length,rkO bh,rfl,.inr q4,r4,by rw[QW];omega,by omega,by rw[ac];exact jo.ain,zeg jo,zhR jo,fun ov M H1 s1 ck ⟨cl,bs,c7⟩ lm am=>?_⟩
  refine⟨_,rfl,pl,xs,b,rfl,s1.seq bv,rp.same s1,az,fun pk ys H2 s2 cm bu bi=>?_⟩
  have I:=s1.trans s2;have ly:=bi.len;rw[zn] at ly;have bz:(J.ps.map yh.k).length=J.ps.length:=zn _;refine⟨le2,fun T hT=>⟨T,_,rfl,u6 zd,rfl,_,_,rfl,_,_,rfl,rfl,?_⟩⟩
  have s3:=I.trans (zb (o:=.tup [.ref ov,.ref pk]) hT);have aj:=(zb (o:=.tup [.ref ov,.ref pk]) hT) _ _ bu;have ak:=bi.same (zb (o:=.tup [.ref ov,.ref pk]) hT);have ai:=(s2.trans (zb (o:=.tup [.ref ov,.ref pk]) hT)) _ _ bs;have an:=c7.same (s2.trans (zb (o:=.tup [.ref ov,.ref pk]) hT));generalize upd H2 T (.tup [.ref ov,.ref pk])=H3 at s3 aj ak ai an ⊢;refine⟨_,rfl,jp,_,_,_,rfl,rfl,s3.sqT qj,rfl,ps,rfl,⟨_,s3.sqT a0⟩,j6 (K:=K) (a:=ps) (xs:=px) (fun i g H4=>g=((J.ps.map yh.k).take i).map V.str/\Same H3 H4) ⟨rfl,u5 _⟩ (fun i g H4 ⟨_,s4⟩=>s4.sqT (s3.sqT a0)) ?_ ?_⟩
  ·rintro i x g H4 hx ⟨rfl,s4⟩
   obtain⟨dd,e1,r1⟩:=((ae.same s3).same s4).get hx;rw[zZ] at e1;obtain⟨pa,ba,rfl⟩:=qE.mp e1;have hi:=(zC.mp ba).1;obtain⟨a,c',rfl,qa,_⟩:=xV r1;have ek:(J.ps.map yh.k)[i]? =some pa.k:=by rw[zZ,ba];rfl
   refine⟨rfl,_,rfl,a,_,_,_,rfl,rfl,qa,rfl,?_,?_,s4⟩
   ·rw[zn,qm];omega
   ·rw[zR ek,zP]
    rfl
  rintro g H4 ⟨rfl,s4⟩;rw[ac,<- bz,qz];refine⟨by rw[zn];omega,fun kl br=>?_⟩
  have K1:upd H4 kl (.lst ((J.ps.map yh.k).map V.str)) kl=some (.lst (((J.ps.map yh.k).map Sum.inr:List Key).map kV)):=by
   rw[zd];refine congrArg (fun z=>some (HO.lst z)) ?_
   rw[j9 (l:=J.ps.map yh.k) (f:=(Sum.inr:Str->Key))];rfl
  refine⟨kl,_,rfl,K1,by rw[zn];omega,fun sp bx=>⟨sp,J.ps.map yh.k,rfl,zd,by omega,fun so κs bw srt kn km=>?_⟩⟩
  have s5:=s3.trans s4;have ch:κs.length<=60:=by have:=WD kn fun x hx=>(km x).mp hx;omega
  have bt:=s4 _ _ aj;have c6:=ak.same s4;refine⟨so,rfl,⟨_,u4 zd⟩,jW (K:=K) (a:=so) (xs:=κs.map V.str) (fun i σ H6=>Ex4 fun(v7 v8 v9 ah:Option V)=>An3 (σ=[some (.ref jp),some (.ref pl),some (.ref c),some (.ref o),some (.ref ov),some (.ref pk),some (.int ((κs.take i).map (Qf J st b)).sum),v7,v8,v9,ah]) (Same H4 H6) (H6 so=some (.lst (κs.map V.str)))) ⟨_,_,_,_,rfl,(zb br).trans ((zb bx).trans (zb bw)),zd⟩ (fun i σ H6 _ ⟨_,_,_,_,_,_,s6⟩=>u4 s6) ?_ ?_⟩
  ·rintro i x σ H6 hx ⟨v7,v8,v9,ah,rfl,s6,bm⟩
   rw[zZ] at hx;obtain⟨κ,eκ,rfl⟩:=qE.mp hx;have t6:=s5.trans s6;have be:=s6 _ _ bt;refine⟨_,rfl,pk,rfl,⟨_,u4 be⟩,qQ (K:=K) (a:=pk) (xs:=ys) (fun j g U=>g.length=((zj b).take j).countP (fun p=>kdB J κ p.1)/\Same H6 U) ⟨rfl,u5 _⟩ (fun j g U ⟨_,N⟩=>u4 (N _ _ be)) ?_ ?_⟩
   ·rintro j x g U hx ⟨zl,N⟩
    obtain⟨dd,e1,r1⟩:=((c6.same s6).same N).get hx;rw[zZ] at e1;obtain⟨p,ep,rfl⟩:=qE.mp e1;obtain⟨pa,rfl,qp⟩:=qv r1;have jl:=(zC.mp ep).1;obtain⟨pt,fe,h1,h2,h3⟩:=Y p (qr ep);have t7:=t6.trans N;obtain⟨c4,ap,av⟩:=wO (ae.same t7) h1;obtain⟨ar,c3,rfl,au,_⟩:=xV av;have zc:=Wc (p:=fun p:Nat×Nat=>kdB J κ p.1) (l:=(zj b).take j)
    rw[qm] at zc;refine⟨rfl,_,rfl,jp,_,_,_,rfl,rfl,t7.sqT qj,rfl,_,rfl,pa,_,_,_,rfl,rfl,qp,rfl,ps,_,_,_,rfl,rfl,t7.sqT a0,qK ap,ar,_,_,_,rfl,rfl,au,rfl,_,rfl,rfl,_,rfl,?_⟩
    rw[YA (fun p:Nat×Nat=>kdB J κ p.1) ep,zhr h1 κ]
    by_cases e:pt.k=κ
    ·refine ifT (by show decide (V.str pt.k=V.str κ)=true;rw[e];exact zV rfl) ⟨_,rfl,by omega,?_,N⟩
     rw[qo,zl,zv (zV e)];rfl
    ·refine ifF (jd fun z=>e (V.str.inj z)) ⟨?_,N⟩
     rw[zl,zu (by rw[jd e];exact qR)]
     rfl
   rintro g U ⟨zl,N⟩;rw[ly,qz] at zl;have zc:=Wc (p:=fun p:Nat×Nat=>kdB J κ p.1) (l:=zj b)
   have en:(g.length:Int)=(((zj b).map (·.1)).countP (kdB J κ):Nat):=by rw[zl,zau];rfl
   refine⟨by omega,fun D hD=>⟨D,_,rfl,.inl (u4 zd),?_⟩⟩
   rw[en];have O:=N.trans (zb (o:=.lst g) hD);generalize upd U D (.lst g)=H8 at O ⊢;have t8:=t6.trans O;have bg:=rf.len;rw[zn] at bg;refine⟨_,rfl,_,rfl,jp,_,_,_,rfl,rfl,t8.sqT qj,rfl,true,false,c,fs,rfl,⟨_,t8.seq hc⟩,⟨_,t8.sqT qf⟩,zeY (K:=K) (k1:=true) (k2:=false) (xs:=jP J.fs.length st) (ys:=fv) (fun i g H9=>g=((atK J.fs κ i).map st).map V.int/\Same H8 H9) ⟨rfl,u5 _⟩ (fun i g H9 ⟨_,s9⟩=>⟨s9.seq (t8.seq hc),s9.sqT (t8.sqT qf)⟩) ?_ ?_⟩
   ·rintro j x y g H9 T e1 e2 ⟨rfl,s9⟩ hT
    have af:=s9.trans (zb (o:=.tup [x,y]) hT);have ay:=zd (H:=H9) (a:=T) (o:=.tup [x,y]);generalize upd H9 T (.tup [x,y])=cd at af ay;obtain⟨d1,q1,r1⟩:=(rf.same (t8.trans af)).get e2;rw[zZ] at q1;obtain⟨fe,ao,rfl⟩:=qE.mp q1;obtain⟨fa,fc,rfl,c5,_⟩:=xI r1;have jl:=(zC.mp ao).1;rw[vc jl] at e1;cases e1;have zc:=Qk J.fs κ j;refine⟨T,_,rfl,u6 ay,rfl,_,_,rfl,_,_,rfl,rfl,rfl,_,rfl,fa,_,_,_,rfl,rfl,c5,rfl,_,rfl,rfl,_,rfl,?_⟩
    by_cases e:fe.k=κ
    ·refine ifT (by show decide (V.str fe.k=V.str κ)=true;rw[e];exact zV rfl) ⟨_,rfl,by rw[zn,zn];omega,?_,af⟩
     rw[zb3 ao e,zP,zP];rfl
    ·refine ifF (jd fun z=>e (V.str.inj z)) ⟨?_,af⟩
     rw[zb4 ao e]
   rintro g H9 ⟨rfl,s9⟩;rw[jO,bg,Nat.min_self];have zc:=Qk J.fs κ J.fs.length;refine⟨by rw[zn,zn];omega,fun D2 bq=>⟨D2,_,rfl,u4 zd,(fun z hz=>?_),by rw[zn];omega,?_⟩⟩
   ·obtain⟨q,_,rfl⟩:=zN.mp hz
    exact⟨(aq q).1,by have:=(aq q).2;omega⟩
   have ag:=s9.trans (zb (o:=.lst (((atK J.fs κ J.fs.length).map st).map V.int)) bq);generalize upd H9 D2 (.lst (((atK J.fs κ J.fs.length).map st).map V.int))=bo at ag ⊢;have aw:=t8.trans ag;refine⟨_,rfl,_,rfl,_,rfl,_,_,rfl,rfl,_,_,rfl,_,_,rfl,rfl,?_⟩
   refine⟨_,rfl,o,rfl,⟨_,aw.seq ho⟩,qQ (K:=K) (a:=o) (xs:=(xr J st b).map V.int) (fun j g ab=>g.length=((xr J st b).take j).countP (fun z=>kdB J κ z.toNat)/\Same bo ab) ⟨rfl,u5 _⟩ (fun j g ab ⟨_,I⟩=>I.seq (aw.seq ho)) ?_ ?_⟩
   ·rintro j x g ab hx ⟨zl,I⟩
    rw[zZ] at hx;obtain⟨z,ez,rfl⟩:=qE.mp hx;have jl:=(zC.mp ez).1;obtain⟨p,hp,rfl⟩:=ZT.mp (qr ez);obtain⟨q,hq,rfl⟩:=zN.mp (qG.mp hp).1;obtain⟨pt,fe,h1,h2,h3⟩:=Y q hq;have ax:=aw.trans I;obtain⟨c4,ap,av⟩:=wO (ae.same ax) h1;obtain⟨ar,c3,rfl,au,_⟩:=xV av;have zc:=Wc (p:=fun z:Int=>kdB J κ z.toNat) (l:=(xr J st b).take j)
    rw[qm] at zc;refine⟨rfl,_,rfl,jp,_,_,_,rfl,rfl,ax.sqT qj,rfl,_,rfl,ps,_,_,_,rfl,rfl,ax.sqT a0,qK ap,ar,_,_,_,rfl,rfl,au,rfl,_,rfl,rfl,_,rfl,?_⟩
    rw[YA (fun z:Int=>kdB J κ z.toNat) ez,jR,zhr h1 κ]
    by_cases e:pt.k=κ
    ·refine ifT (by show decide (V.str pt.k=V.str κ)=true;rw[e];exact zV rfl) ⟨_,rfl,by omega,?_,I⟩
     rw[qo,zl,zv (zV e)];rfl
    ·refine ifF (jd fun z=>e (V.str.inj z)) ⟨?_,I⟩
     rw[zl,zu (by rw[jd e];exact qR)]
     rfl
   rintro g ab ⟨bn,I⟩;rw[zn,qz] at bn;have cn:=Wc (p:=fun z:Int=>kdB J κ z.toNat) (l:=xr J st b)
   have ec:(xr J st b).countP (fun z:Int=>kdB J κ z.toNat)=(vo (zX J st b) (zj b)).countP (kdB J κ):=by
    unfold xr;rw[(wq _).countP_eq];unfold nI;rw[zau];rfl
   have cj:=zeB bk Y h0 κ;have eS:((κs.take (i+1)).map (Qf J st b)).sum=((κs.take i).map (Qf J st b)).sum+Qf J st b κ:=by
    rw[zR eκ,zP,List.map_singleton,List.sum_append,List.sum_singleton]
   refine⟨by omega,fun D3 bb=>⟨D3,_,rfl,.inl (u4 zd),_,rfl,_,rfl,_,_,rfl,rfl,_,_,rfl,rfl,_,rfl,ifF (jd (by rw[bn,ec];omega)) ⟨some (.str κ),some (.int _),some (.int _),ah,by rw[eS,mx0];rfl,(s6.trans (O.trans (ag.trans I))).trans (zb bb),(((O.trans (ag.trans I)).trans (zb bb)) _ _ bm)⟩⟩⟩
  ·rintro σ H6 ⟨v7,v8,v9,ah,rfl,s6,bm⟩
   have t6:=s5.trans s6;refine⟨_,rfl,o,rfl,⟨_,t6.seq ho⟩,qQ (K:=K) (a:=o) (xs:=(xr J st b).map V.int) (fun j g U=>g=(((xr J st b).take j).filter (fsB M (xr J st b))).map V.int/\Same H6 U) ⟨rfl,u5 _⟩ (fun j g U ⟨_,N⟩=>N.seq (t6.seq ho)) ?_ ?_⟩
   ·rintro j x g U hx ⟨rfl,N⟩
    rw[zZ] at hx;obtain⟨z,ez,rfl⟩:=qE.mp hx;have jl:=(zC.mp ez).1;obtain⟨p,hp,rfl⟩:=ZT.mp (qr ez);obtain⟨q,hq,rfl⟩:=zN.mp (qG.mp hp).1;have pl:=(bk.ok q hq).1;obtain⟨ms,em⟩:∃m,M[q.1]? =some m:=⟨_,jh (by omega)⟩
    have bj:=s4.trans (s6.trans N);obtain⟨ra,bp,_,bf⟩:=(an.same bj).2 _ _ em;have ca:ms.length<=60:=by
     have c0:ms.Nodup:=(am _ _ em).1.imp fun h=>Int.ne_of_lt h
     have:=c0.length_le_of_subset (l₂:=nI (List.range J.ps.length)) fun x hx=>by
      obtain⟨k',k1,wk⟩:=((am _ _ em).2 x).mp hx;have bd:=Wk.in1 jo.ain k1 wk;have h1:=bd.1;have h2:=bd.2;have:=wJ.mpr (xR.mpr (show x.toNat<J.ps.length by omega))
      rwa[show((x.toNat:Nat):Int)=x by omega] at this
     rw[xM,vO] at this;omega
    refine⟨rfl,_,rfl,_,rfl,ov,_,_,_,rfl,rfl,u4 (bj _ _ ai),qK bp,ra,rfl,⟨_,u4 bf⟩,qQ (K:=K) (a:=ra) (xs:=ms.map V.int) (fun l g H8=>g=((ms.take l).map fun m=>decide (m∈xr J st b)).map V.bl/\Same U H8) ⟨rfl,u5 _⟩ (fun l g H8 ⟨_,O⟩=>u4 (O _ _ bf)) ?_ ?_⟩
    ·rintro l x g H8 hx ⟨rfl,O⟩
     rw[zZ] at hx;obtain⟨m,b0,rfl⟩:=qE.mp hx;have ll:=(zC.mp b0).1;refine⟨rfl,_,rfl,_,rfl,o,_,rfl,.inl ((t6.trans (N.trans O)).seq ho),rfl,j4 _,?_,?_,O⟩
     ·rw[zn,zn,qm];omega
     ·rw[vL,zR b0,zP,zP]
      rfl
    rintro g H8 ⟨e1,O⟩;rw[zn,qz] at e1;subst e1;have ef:(!((ms.map fun m=>decide (m∈xr J st b)).any id))=fsB M (xr J st b) (q.1:Int):=by
     unfold fsB;rw[List.any_map,jR,QG,em];rfl
    refine⟨by rw[zn,zn];omega,fun D hD=>⟨D,_,rfl,u4 zd,_,rfl,?_⟩⟩
    rw[ef,jf _ ez];have s9:=N.trans (O.trans (zb (o:=.lst ((ms.map fun m=>decide (m∈xr J st b)).map V.bl)) hD))
    cases e:fsB M (xr J st b) (q.1:Int) with
    | true=>
     refine ifT rfl ⟨_,rfl,?_,?_,s9⟩
     ·rw[zn]
      exact wY (qV _ _) (by rw[qm];omega)
     ·rw[zv rfl,zP];rfl
    | false=>
     refine ifF rfl ⟨?_,s9⟩
     rw[zu qR,jn]
   rintro g U ⟨e1,N⟩;rw[zn,qz] at e1;subst e1;have fl:=zdd (st:=st) bk (by rw[lm,ac]) fun p ms e=>(am p ms e).2
   have wl:=YU (st:=st) bk Y h0 kn fun p hp=>by
    obtain⟨q,hq,rfl⟩:=zN.mp hp;obtain⟨pt,fe,h1,h2,h3⟩:=Y q hq;refine(km _).mpr ?_
    unfold Zo;rw[h1];exact zN.mpr ⟨_,qr h1,rfl⟩
   have cg:((xr J st b).filter (fsB M (xr J st b))).length<=(wants (zU J st b)).length:=fl;have on:=zeA (st:=st) bk;refine⟨by rw[zn];exact jk (qV _ _) (by omega),fun D hD=>?_⟩
   have O:=N.trans (zb (o:=.lst (((xr J st b).filter (fsB M (xr J st b))).map V.int)) hD);have D8:=zd (H:=U) (a:=D) (o:=.lst (((xr J st b).filter (fsB M (xr J st b))).map V.int));generalize upd U D (.lst (((xr J st b).filter (fsB M (xr J st b))).map V.int))=H8 at O D8;refine⟨_,rfl,D,_,rfl,.inl (u4 D8),_,rfl,_,_,rfl,rfl,_,rfl,ifT (zV (by rw[zn,zn,qz];omega)) ?_⟩
   refine⟨_,rfl,le0,fun e0 bc=>⟨o,e0,_,rfl,rfl,(((t6.trans O).trans (zb bc)).seq ho),u4 zd,_,rfl,rfl,rfl,?_⟩⟩
   have ev:decide (V.bl ((xr J st b).map V.int).isEmpty=V.bl (decide (V.int ((κs.take (κs.map V.str).length).map (Qf J st b)).sum=V.int 0)))=true:=by
    rw[zn,qz,<- wl];refine zV (congrArg V.bl ?_)
    have eo:((xr J st b).map V.int).isEmpty=decide (vo (zX J st b) (zj b)=[]):=by
     rw[zaA,xw,List.isEmpty_iff,xx,<- JZ,<- JZ];unfold xr;rw[(wq _).length_eq,xM]
    rw[eo,xw,xx,xx,on,<- JZ];constructor
    ·intro e;rw[e];rfl
    ·intro e;have:=V.int.inj e;omega
   rw[ev];exact k _ ((t6.trans O).trans (zb bc))
def zai(p:Nat×Nat):Int×Int:=((p.1:Int),(p.2:Int))
theorem Jj{p:Nat×Nat}{l:List (Nat×Nat)}:zai p∈l.map zai↔p∈l:=by
 rw[zN];constructor
 ·rintro⟨q,h,e⟩
  have e1:(q.1:Int)=p.1:=congrArg Prod.fst e;have e2:(q.2:Int)=p.2:=congrArg Prod.snd e;rwa[show p=q from Prod.ext (by omega) (by omega)]
 ·exact fun h=>⟨p,h,rfl⟩
theorem zeS{st:Nat->Int}{n:Nat}{all:List (Nat×Nat)}{p:Nat×Nat}(h:p∈y6 st n all):p∈(all.filter fun q=>decide (q.2=p.2)).take (st p.2).toNat:=by
 obtain⟨k,_,hk⟩:=wT.mp h;have e:p.2=k:=jy (qG.mp (Qu hk)).2;rw[e];exact hk
theorem zdD(st:Nat->Int)(n:Nat)(all:List (Nat×Nat)):(y6 st n all).length<=n*all.length:=by
 induction n with
 | zero=>exact ji _
 | succ n b=>
  rw[Zh,qo,Nat.succ_mul];refine Nat.add_le_add b (jk ?_ (qV (fun p=>decide (p.2=n)) all))
  rw[qm];exact Nat.min_le_right _ _
theorem zcS{J:Job}{st:Nat->Int}{p:Nat×Nat}(h:xp (vU J st) p):xp J p:=by
 obtain⟨f,l,e1,e2,b⟩:=h;rw[yQ] at e2;obtain⟨g,c,rfl⟩:=qE.mp e2;exact⟨f,g,e1,c,b⟩
theorem zbJ{J:Job}{st:Nat->Int}{b:List zS}{p:Nat×Nat}(h:p∈zj b):(p.1:Int)∈xr J st b↔zX J st b p.1=true:=by
 unfold xr;rw[ZT];constructor
 ·rintro⟨q,hq,e⟩
  have:=(qG.mp hq).2;rwa[show q=p.1 by omega] at this
 ·exact fun e=>⟨p.1,qG.mpr ⟨zN.mpr ⟨p,h,rfl⟩,e⟩,rfl⟩
theorem zid{c:List (Nat×Option Nat)}{b:Nat->Bool}{all:List (Nat×Nat)}:(all.filter fun p=>!decide (p.1∈(((all.filter fun p=>!b p.1).map fun p=>(p.1,fdN c p.1)).map (·.1)))).map (·.1)=vo b all:=by
 unfold vo;rw[zav];congr 1
 refine List.filter_congr fun p f=>?_
 rw[xw,Bool.not_eq_true',decide_eq_false_iff_not,j9];show ¬_↔b p.1=true;constructor
 ·intro h
  cases e:b p.1 with
  | true=>rfl
  | false=>exact absurd (zN.mpr ⟨p,qG.mpr ⟨f,by rw[e];rfl⟩,rfl⟩) h
 ·intro h z
  obtain⟨q,hq,e⟩:=zN.mp z;have:=(qG.mp hq).2;rw[show q.1=p.1 from e,h] at this
  cases this
theorem zeo{H:Hp}:∀{b:List (Nat×Nat)} {c:List V},Reps K H (b.map jJ) c->ziT K H c (b.map zai):=fun {b c} h=>by
 have l:=h.len;rw[zn] at l;refine⟨by rw[zn];exact l,fun i r e=>?_⟩
 rw[zZ] at e;obtain⟨p,f,rfl⟩:=qE.mp e;obtain⟨v,g,A⟩:=wO h f;obtain⟨a,rfl,s⟩:=qv A;exact⟨a,g,s⟩
theorem zf3{J:Job}{os:List Nat}{f:List zS}(l:PlanOk J os f)(B:os.Perm (List.range J.ps.length)):∀t∈f,TripV J t:=fun t g=>by
 have b:=l.tr t g;have A:(zY f).Nodup:=(B.nodup_iff.mpr Zx).sublist l.sub;have c:t.ly.Nodup:=(List.pairwise_flatMap.mp A).1 t g;refine⟨b.p1,b.p2,fun p s=>?_,b.ly,b.ly.nodup_iff.mp c⟩
 obtain⟨E,D,e1,e2,_⟩:=b.ok p s;exact⟨(zC.mp e1).1,(zC.mp e2).1⟩
theorem zjv:zD ["_law_box_here","_law_turn","_law_job_here","_law_plan_here","_law_stock","_law_trips","_law_moved","_law_out","_law_staying_here","_law_now","_law_parts"] ["_law_box_here"] (zy (topL 54)):=u3
def zhS{T:Value}{f:Addr}{A:Around}{Q:List Env}{s:Shared}{H:Hp}{E:XK}(B:Blt G)(M:Room 7 (A.deeper (envOfC "_law_right" (zy (topL 54)) s.heap.objs.size f T)))(L:Dfn P w K G C "_law_broken" 5 ["_law_box_here"] (zhL K))(c:Dfn P w K G C "restocked_job" 1 ["job","stock"] (Y4 K))(D:Dfn P w K G C "mended_plan" 5 ["job","plan","stock"] (zhJ K))(J:Dfn P w K G C "is_right" 7 ["job","thing"] (zhK K))(g:Dfn P w K G C "_law_trips_right" 2 ["_law_job_here","_law_plan_here","_law_trips","_law_out"] (zhI K))(I:Dfn P w K G C "_law_staying" 2 ["_law_plan_here","_law_stock"] (zdI K))(b:Dfn P w K G C "_law_all_picks" 1 ["_law_plan_here"] (Xg K))(l:Dfn P w K G C "_law_want_right" 2 ["_law_job_here","_law_plan_here","_law_stock","_law_out"] (zhH K))(N:(["_law_box_here","_law_turn","_law_job_here","_law_plan_here","_law_stock","_law_trips","_law_moved","_law_out","_law_staying_here","_law_now","_law_parts"]:List Str).Nodup):{ t:TS // PSs (zam CX0 P w K G C ["_law_box_here","_law_turn","_law_job_here","_law_plan_here","_law_stock","_law_trips","_law_moved","_law_out","_law_staying_here","_law_now","_law_parts"] "_law_right" (zy (topL 54)) f T A Q s H E).nox (wL (topL 54)) t }:=
 have hu:=M.units0;have O:=M.units
 ⟨_,(zf (qZ jC rfl (jz rfl B.range (za zi ze)) (zq (i:=1) N rfl (Or.inl rfl))
     (zf (jQ (zk L M.m rfl (za (pv 0) ze)) (qL rfl (zr (zq (i:=2) N rfl (Or.inl rfl)) (zr (zq (i:=3) N rfl (Or.inr rfl)) (zr (zq (i:=4) N rfl (Or.inl rfl)) qk)))))
      (zf (jQ (zk D M.m rfl (za (pv 2) (za (pv 3) (za (pv 4) ze)))) (qL rfl (zr (zq (i:=5) N rfl (Or.inl rfl)) (zr (zq (i:=6) N rfl (Or.inl rfl)) (zr (zq (i:=7) N rfl (Or.inr rfl)) qk)))))
      (zf (jB (PW.pt (W0 (zG zgc (zk J M.m rfl (za (zk c M.m rfl (za (pv 2) (za (pv 4) ze))) (za (pv 5) ze))) vd (zL _)) (Jb (vn (xf (zk g M.m rfl (za (pv 2) (za (pv 3) (za (pv 5) (za (pv 7) ze))))))))))
      (zo (zB vd))
      qF)
      (zf (jQ (qX (za (zk I M.m rfl (za (pv 3) (za (pv 4) ze))) (za (zk b M.m rfl (za (pv 5) ze)) ze))) (qL rfl (zr (zq (i:=8) N rfl (Or.inl rfl)) (zr (zq (i:=9) N rfl (Or.inr rfl)) qk))))
      (zf (jB (vn (xf (zx (xY rfl) rfl B.all boot_all (za (jv ["_law_now","_law_out"] [9,7] rfl rfl (by kernel_rfl) (qg (pv 8)) (fun _ _ _ _=>qS) (fun _ _ _ _=>(zhn (qW (zig (K:=K) rfl O) (pv 0) (pv 1) (by with_unfolding_all rfl)) (wa (qW (xB (K:=K) rfl) (zF (qM (K:=K) rfl) (pv 0) zi (fun _ _=>rfl)) (pv 2) (by with_unfolding_all rfl)))))) ze))))
      (zo (zB vd))
      qF)
      (zf (jB (zG (zeE hu) (pv 6) (zx xn rfl B.sorted jK (za (xh ["_law_plan_here"] [3] rfl rfl (by kernel_rfl) (qg (pv 9)) (fun _ _ _ _=>(ju (zG (zcT (K:=K) rfl O) (qX (za (pv 0) (za (pv 1) ze))) (zk b M.m rfl (za (pv 2) ze)) (by with_unfolding_all rfl)))) (fun _ _ _ _=>(pv 0))) ze)) (zL _))
      (zo (zB vd))
      qF)
      (zf (zE (i:=10) N rfl (Or.inr rfl) (xh [] [] rfl rfl (by kernel_rfl) (qg (pv 9)) (fun _ _ _ _=>qS) (fun _ _ _ _=>(pv 0))))
      (zf (jB (zG (zeE hu) (pv 7) (zx xn rfl B.sorted jK (za (xh ["_law_parts"] [10] rfl rfl (by kernel_rfl) (qg (zk b M.m rfl (za (pv 3) ze))) (fun _ _ _ _=>(ju (zG (j3 (K:=K) rfl) (pv 0) (pv 2) (by with_unfolding_all rfl)))) (fun _ _ _ _=>(pv 0))) ze)) (zL _))
      (zo (zB vd))
      qF)
      (zo (jB (vn (xf (zk l M.m rfl (za (pv 2) (za (pv 3) (za (pv 4) (za (pv 7) ze)))))))
      (zo (zB vd))
      qF)))))))))))
     (zo (zB vd)))⟩
inductive XJ(f:List V)(H:Hp)(Q:VK):Prop
 | mk (b:Addr) (n:Int) (_:f=[.ref b]) (_:BoxAt H b n) (_:n<1000) (_:∀c,SameB b H c->Q (.bl true) c):XJ  f H Q
def za9:Sp:=fun b H Q _=>XJ  b H Q
def YS(b:_)(H:_)(n:_):=fun(i:Nat) (σ:St) (f:Hp)=>(zkO fun(g l s A B D E I J c:Option V)=>An3 (σ=[some (.ref b),g,l,s,A,B,D,E,I,J,c]) (SameB b H f) (BoxAt f b (n+7000*(i:Int))):Prop)
def YR(J:_)(st:_)(b:_)(c:_):=fun(i:Nat) (f:List V) (g:Hp)=>(An2 (f=(nI ((((zj (zT (zU J st b) (zX J st b) b)).take i).filter fun q=>!decide (q∈zj b)).map (·.1))).map V.int) (Same c g):Prop)
def YQ(J:_)(st:_)(c:_)(b:_):=fun(i:Nat) (f:List V) (g:Hp)=>(An2 (f=(nI (((zj (zT (zU J st c) (zX J st c) c)).take i).map (·.1))).map V.int) (Same b g):Prop)
def YO(b:_)(J:_)(st:_)(c:_):=fun(i:Nat) (f:List V) (g:Hp)=>(An2 (f=(nI ((((zj b).take i).filter fun p=>!decide (p.1∈(zj (zT (zU J st b) (zX J st b) b)).map (·.1))).map (·.1))).map V.int) (Same c g):Prop)
theorem zj2{f:Addr}{fd:FuncData}(F:Fun K "_law_right" "_law_right" (topL 54) f fd)(B:Blt G)(ah:Dfn P w K G C "_law_broken" 5 ["_law_box_here"] (zhL K))(I:Dfn P w K G C "restocked_job" 1 ["job","stock"] (Y4 K))(O:Dfn P w K G C "mended_plan" 5 ["job","plan","stock"] (zhJ K))(ae:Dfn P w K G C "is_right" 7 ["job","thing"] (zhK K))(M:Dfn P w K G C "_law_trips_right" 2 ["_law_job_here","_law_plan_here","_law_trips","_law_out"] (zhI K))(ac:Dfn P w K G C "_law_staying" 2 ["_law_plan_here","_law_stock"] (zdI K))(Y:Dfn P w K G C "_law_all_picks" 1 ["_law_plan_here"] (Xg K))(N:Dfn P w K G C "_law_want_right" 2 ["_law_job_here","_law_plan_here","_law_stock","_law_out"] (zhH K)):qY P w K G C CX0 8 f fd ["_law_box_here"] za9:=by
 have nd:=zjv.nd;refine F.ok zjv (fun vs H Q E h=>?_) (fun cp A cd s H vs Q E hr h=>?_)
 ·obtain⟨b,n,rfl,_⟩:=h
  rfl
 ·obtain⟨b,n,rfl,B0,hn,k⟩:=h
  have ck:=bG1000000;have bw:=bGe;refine⟨_,(zhS B hr ah I O ae M ac Y N nd).2,?_⟩
  refine⟨2,rfl,by rw[bw];decide,by rw[bw];decide,j5 (YS b H n) ⟨_,_,_,_,_,_,_,_,_,_,rfl,u8 b H,B0.mono (by omega)⟩ ?_ ?_⟩
  ·rintro i σ H1 hi ⟨v1,v2,v3,v4,v5,v6,v7,v8,v9,ci,rfl,S1,B1⟩
   have cq:i<2:=hi;refine⟨_,rfl,b,_,rfl,B1,by omega,fun q jp l c J bj os xs g st H2 S2 B2 qq rj hl rl cs cr mo hc bi=>⟨q,_,rfl,qq,rfl,_,_,rfl,_,_,rfl,_,_,rfl,rfl,?_⟩⟩
   have fl:=mo.jo.fl;have bk:=mo.brk;obtain⟨a0,cj⟩:=mo.mended bi;have bf:=a0.brk;refine⟨_,rfl,_,rfl,_,rfl,jp,l,c,J,bj,os,xs,g,st,rfl,rj,u4 hl,rl,mo,u4 hc,fun mq a1 a2 a3 ws H3 mt=>⟨mq,_,rfl,mt.q,rfl,_,_,rfl,_,_,rfl,_,_,rfl,rfl,?_⟩⟩
   have s3:=mt.s;refine⟨_,rfl,_,rfl,jp,c,J,st,rfl,rj.same s3,by omega,u4 (s3 _ _ hc),fun op H4 s4 ro=>?_⟩
   have cg:=s3.trans s4;refine⟨_,rfl,op,a1,vU J st,bj,zT (zU J st g) (zX J st g) g,ws,rfl,ro,u4 (s4 _ _ mt.h1),mt.r1.same s4,⟨a0.jo,zf3 a0.po a0.pm,jk a0.po.len (by decide),zkf a0.po a0.pm a0.bo⟩,fun H5 s5=>?_⟩
   have ba:=cg.trans s5;have bb:=s4.trans s5;refine⟨true,true,rfl,rfl,_,rfl,ifF rfl ?_⟩
   refine⟨_,rfl,_,rfl,_,rfl,_,rfl,jp,l,a1,a3,J,xs,ws,g,zU J st g,zX J st g,xr J st g,rfl,rj.same ba,u4 (ba _ _ hl),rl.same ba,u4 (bb _ _ mt.h1),mt.r1.same bb,u4 (bb _ _ mt.h3),(fun t ht=>⟨(mo.t100 t ht).1,(mo.po.tr t ht).ly⟩),mo.po.len,(fun t ht p hp=>zbJ (wT.mpr ⟨t,ht,hp⟩)),(fun p hp=>?_),bf.al,fun H6 s6=>⟨_,rfl,ifF rfl ?_⟩⟩
   ·obtain⟨t,ht,hp⟩:=wT.mp hp
    exact zcS ((a0.po.tr t ht).ok p hp)
   have bp:=ba.trans s6;have bs:=bb.trans s6;refine⟨_,rfl,_,rfl,l,c,xs,g,J.fs.length,st,rfl,u4 (bp _ _ hl),rl.same bp,bk.al,u4 (bp _ _ hc),by omega,(fun k=>(bi k).1),fun sp ys H7 s7 cv cb cf=>⟨_,rfl,a1,ws,zT (zU J st g) (zX J st g) g,rfl,u4 ((bs.trans s7) _ _ mt.h1),mt.r1.same (bs.trans s7),bf.al,fun np zs H8 s8 cu ca ce=>⟨le2,fun T hT=>⟨T,_,rfl,u6 zd,rfl,_,_,rfl,_,_,rfl,rfl,?_⟩⟩⟩⟩
   have sT:=zb (o:=.tup [.ref sp,.ref np]) hT;have ao:=(s8.trans sT) _ _ cb;have ar:=cf.same (s8.trans sT);have am:=sT _ _ ca;have ag:=ce.same sT;have bc:=(bs.trans s7).trans (s8.trans sT);have c3:=s3.trans bc;generalize upd H8 T (.tup [.ref sp,.ref np])=H9 at ao ar am ag bc c3 ⊢;clear sT hT;have yl:=ar.len;have zl:=ag.len;rw[zn] at yl zl;have cw:=zdD st J.fs.length (zj g);have ym:J.fs.length*(zj g).length<=40*60:=Nat.mul_le_mul fl bk.al;have co:=bf.al;refine⟨_,rfl,sp,rfl,⟨_,u4 ao⟩,qQ (K:=K) (a:=sp) (xs:=ys) (fun i zs H'=>zs=(List.replicate i true).map V.bl/\Same H9 H') ⟨rfl,u5 _⟩ (fun i zs H' ⟨_,s'⟩=>u4 (s' _ _ ao)) ?_ ?_⟩
   ·rintro i x U bt hx ⟨rfl,aa⟩
    obtain⟨dd,e1,r1⟩:=(ar.same aa).get hx;rw[zZ] at e1;obtain⟨p,ep,rfl⟩:=qE.mp e1;obtain⟨pa,rfl,qp⟩:=qv r1;have il:=(zC.mp hx).1;have be:=zeS (qr ep);have bx:p∈zj g:=(qG.mp (Qu be)).1;have lz:((List.replicate i true).map V.bl).length<sizeLine:=by rw[zn,vy];omega
    have ez:(List.replicate i true).map V.bl++[V.bl true]=(List.replicate (i+1) true).map V.bl:=by rw[ZD,zP];rfl
    refine⟨rfl,_,rfl,_,rfl,pa,np,zai p,_,_,rfl,rfl,qp,u4 (aa _ _ am),zeo (ag.same aa),_,rfl,?_⟩
    by_cases bh:p∈zj (zT (zU J st g) (zX J st g) g)
    ·exact ifT (zV (Jj.mpr bh)) ⟨lz,ez,aa⟩
    ·have ho:zX J st g p.1=true:=by
      cases e:zX J st g p.1 with
      | true=>rfl
      | false=>exact absurd (zdC bk be e) bh
     refine ifF (jd fun z=>bh (Jj.mp z)) ⟨_,rfl,pa,_,_,_,rfl,rfl,qp,rfl,_,rfl,a3,(xr J st g).map V.int,rfl,.inl (u4 ((bc.trans aa) _ _ mt.h3)),rfl,j4 _,?_⟩
     rw[zu qR,vL,zV ((zbJ (J:=J) (st:=st) bx).mpr ho)];exact⟨lz,ez,aa⟩
   rintro U bt ⟨rfl,aa⟩;refine⟨by rw[zn,vy];omega,fun D hD=>⟨D,_,rfl,u4 zd,?_⟩⟩
   rw[show(List.replicate ys.length true).all id=true from by simp]
   refine⟨_,rfl,ifF rfl ?_⟩
   have as:=aa.trans (zb (o:=.lst ((List.replicate ys.length true).map V.bl)) hD);generalize upd bt D (.lst ((List.replicate ys.length true).map V.bl))=c6 at as ⊢;clear hD aa;have af:=as _ _ am;have aq:=ag.same as;have bq:=c3.trans as;have c4:=bc.trans as;refine⟨_,rfl,_,rfl,np,rfl,⟨_,u4 af⟩,qQ (K:=K) (a:=np) (xs:=zs) (YR J st g c6) ⟨rfl,u5 _⟩ (fun i U H' ⟨_,s'⟩=>u4 (s' _ _ af)) ?_ ?_⟩
   ·rintro i x U av hx ⟨rfl,au⟩
    obtain⟨dd,e1,r1⟩:=(aq.same au).get hx;rw[zZ] at e1;obtain⟨p,ep,rfl⟩:=qE.mp e1;obtain⟨pa,rfl,qp⟩:=qv r1;have il:=(zC.mp ep).1;refine⟨pa,_,rfl,qp,rfl,_,_,rfl,_,_,rfl,rfl,rfl,_,rfl,_,rfl,le2,fun T hT=>?_⟩
    have L:=au.trans (zb (o:=.tup [.int (p.1:Int),.int (p.2:Int)]) hT);have bd:=zd (H:=av) (a:=T) (o:=.tup [.int (p.1:Int),.int (p.2:Int)]);generalize upd av T (.tup [.int (p.1:Int),.int (p.2:Int)])=bu at L bd ⊢;refine⟨_,rfl,l,xs,g,rfl,u4 ((bq.trans L) _ _ hl),rl.same (bq.trans L),bk.al,fun ap az aw ab c9 ax b0=>⟨T,ap,zai p,_,_,rfl,rfl,u6 (ab _ _ bd),u4 ax,zeo b0,_,rfl,?_⟩⟩
    have ak:=jf (fun q:Nat×Nat=>!decide (q∈zj g)) ep
    rw[zv rfl,show decide (zai p∈(zj g).map zai)=decide (p∈zj g) from by rw[xw,xx,xx,Jj]]
    have bg:∀j,((((zj (zT (zU J st g) (zX J st g) g)).take j).filter fun q=>!decide (q∈zj g))).length<=60:=fun j=>jk (qV _ _) (by rw[qm];omega)
    cases e:decide (p∈zj g) with
    | true=>
     refine ifF rfl ⟨?_,L.trans ab⟩
     rw[ak,zu (by rw[e];exact qR),jn]
    | false=>
     refine ifT rfl ⟨_,rfl,?_,?_,L.trans ab⟩
     ·rw[zn,xM,zn]
      exact wY (bg i) (by omega)
     ·rw[ak,zv (by rw[e];rfl),zP,<- vC,<- vC]
      exact(jA _ _).symm
   rintro U av ⟨e1,au⟩;rw[zl,qz] at e1;subst e1;have em:((zj (zT (zU J st g) (zX J st g) g)).filter fun q=>!decide (q∈zj g)).map (·.1)=vT (zU J st g) (zX J st g) (zj g):=by
    rw[yS];exact zis bk.nd
   rw[em];have ml:(vT (zU J st g) (zX J st g) (zj g)).length<=60:=by
    unfold vT;rw[zn];exact jk (qV _ _) bk.al
   refine⟨by rw[zn,xM];omega,fun D hD=>⟨D,nI (vT (zU J st g) (zX J st g) (zj g)),rfl,u4 zd,by rw[xM];omega,fun so ms ay pm pw=>?_⟩⟩
   rw[Vl pm pw];have L:=(au.trans (zb (o:=.lst ((nI (vT (zU J st g) (zX J st g) (zj g))).map V.int)) hD)).trans (zb (o:=.lst ((srt (nI (vT (zU J st g) (zX J st g) (zj g)))).map V.int)) ay);refine⟨a2,so,_,rfl,rfl,u4 ((c4.trans L) _ _ mt.h2),u4 zd,j4 _,(fun v hv=>?_),_,rfl,ifF rfl ?_⟩
   ·obtain⟨z,_,rfl⟩:=zN.mp hv
    exact zV rfl
   generalize upd (upd av D (.lst ((nI (vT (zU J st g) (zX J st g) (zj g))).map V.int))) so (.lst ((srt (nI (vT (zU J st g) (zX J st g) (zj g)))).map V.int))=bu at L ⊢;clear au pm pw ay hD;have al:=L _ _ af;have bm:=aq.same L;refine⟨_,rfl,np,rfl,⟨_,u4 al⟩,qQ (K:=K) (a:=np) (xs:=zs) (YQ J st g bu) ⟨rfl,u5 _⟩ (fun i U H' ⟨_,s'⟩=>u4 (s' _ _ al)) ?_ ?_⟩
   ·rintro i x U aw hx ⟨rfl,ab⟩
    obtain⟨dd,e1,r1⟩:=(bm.same ab).get hx;rw[zZ] at e1;obtain⟨p,ep,rfl⟩:=qE.mp e1;obtain⟨pa,rfl,qp⟩:=qv r1;have il:=(zC.mp ep).1;refine⟨pa,_,rfl,qp,rfl,_,_,rfl,_,_,rfl,rfl,rfl,_,rfl,?_,?_,ab⟩
    ·rw[zn,xM,zn,qm];omega
    ·rw[zR ep,zP,<- vC,<- vC]
     exact(jA _ _).symm
   rintro U aw ⟨e1,ab⟩;rw[zl,qz] at e1;subst e1;refine⟨by rw[zn,xM,zn];omega,fun pp bz=>?_⟩
   have bn:=ab.trans (zb (o:=.lst ((nI ((zj (zT (zU J st g) (zX J st g) g)).map (·.1))).map V.int)) bz)
   have an:=zd (H:=aw) (a:=pp) (o:=.lst ((nI ((zj (zT (zU J st g) (zX J st g) g)).map (·.1))).map V.int))
   generalize upd aw pp (.lst ((nI ((zj (zT (zU J st g) (zX J st g) g)).map (·.1))).map V.int))=cl at bn an
   clear ab bz;have br:=(bq.trans L).trans bn;have ch:=(c4.trans L).trans bn;refine⟨_,rfl,_,rfl,l,xs,g,rfl,u4 (br _ _ hl),rl.same br,bk.al,fun ap az c7 bo c9 ax b0=>⟨ap,rfl,⟨_,u4 ax⟩,?_⟩⟩
   have bv:=b0.len;rw[zn] at bv;have cn:=bk.al;refine qQ (K:=K) (a:=ap) (xs:=az) (YO g J st c7) ⟨rfl,u5 _⟩ (fun i U H' ⟨_,s'⟩=>u4 (s' _ _ ax)) ?_ ?_
   ·rintro i x U c8 hx ⟨rfl,ai⟩
    obtain⟨dd,e1,r1⟩:=(b0.same ai).get hx;rw[zZ] at e1;obtain⟨p,ep,rfl⟩:=qE.mp e1;obtain⟨pa,rfl,qp⟩:=qv r1;have il:=(zC.mp ep).1;have ak:=jf (fun p:Nat×Nat=>!decide (p.1∈(zj (zT (zU J st g) (zX J st g) g)).map (·.1))) ep
    have bg:∀j,((((zj g).take j).filter fun p=>!decide (p.1∈(zj (zT (zU J st g) (zX J st g) g)).map (·.1)))).length<=60:=fun j=>jk (qV _ _) (by rw[qm];omega)
    refine⟨pa,_,rfl,qp,rfl,_,_,rfl,_,_,rfl,rfl,rfl,_,rfl,_,rfl,pp,_,rfl,.inl (u4 ((bo.trans ai) _ _ an)),rfl,j4 _,_,rfl,?_⟩
    rw[zv rfl,vL,show decide ((p.1:Int)∈nI ((zj (zT (zU J st g) (zX J st g) g)).map (·.1)))=decide (p.1∈(zj (zT (zU J st g) (zX J st g) g)).map (·.1)) from by rw[xw,xx,xx,wJ]]
    cases e:decide (p.1∈(zj (zT (zU J st g) (zX J st g) g)).map (·.1)) with
    | true=>
     refine ifF rfl ⟨?_,ai⟩
     rw[ak,zu (by rw[e];exact qR),jn]
    | false=>
     refine ifT rfl ⟨_,rfl,?_,?_,ai⟩
     ·rw[zn,xM,zn]
      exact wY (bg i) (by omega)
     ·rw[ak,zv (by rw[e];rfl),zP,<- vC,<- vC]
      exact(jA _ _).symm
   rintro U c8 ⟨e1,ai⟩;rw[bv,qz] at e1;subst e1;have eo:((zj g).filter fun p=>!decide (p.1∈(zj (zT (zU J st g) (zX J st g) g)).map (·.1))).map (·.1)=vo (zX J st g) (zj g):=by
    rw[yS];exact zid
   rw[eo];have ol:(vo (zX J st g) (zj g)).length<=60:=by
    unfold vo;exact jk (qV _ _) (by rw[zn];exact bk.al)
   refine⟨by rw[zn,xM];omega,fun D hD=>⟨D,nI (vo (zX J st g) (zj g)),rfl,u4 zd,by rw[xM];omega,fun so ms ay pm pw=>?_⟩⟩
   rw[Vl pm pw];have c0:=(ai.trans (zb (o:=.lst ((nI (vo (zX J st g) (zj g))).map V.int)) hD)).trans (zb (o:=.lst ((srt (nI (vo (zX J st g) (zj g)))).map V.int)) ay);have c5:=ch.trans (bo.trans c0);have aj:=br.trans (bo.trans c0);refine⟨a3,so,_,rfl,rfl,u4 (c5 _ _ mt.h3),u4 zd,j4 _,(fun v hv=>?_),_,rfl,ifF rfl ?_⟩
   ·obtain⟨z,_,rfl⟩:=zN.mp hv
    exact zV rfl
   refine⟨_,rfl,_,rfl,_,rfl,_,rfl,jp,l,c,a3,J,bj,os,xs,g,st,rfl,rj.same aj,u4 (aj _ _ hl),rl.same aj,mo,u4 (aj _ _ hc),bi,u4 (c5 _ _ mt.h3),fun cm c2=>⟨_,rfl,ifF rfl ⟨_,_,_,_,_,_,_,_,_,_,rfl,S1.trans (S2.trans (u9 (aj.trans c2))),(B2.same (aj.trans c2)).mono (by omega)⟩⟩⟩
  ·rintro σ H1 ⟨v1,v2,v3,v4,v5,v6,v7,v8,v9,ci,rfl,S1,B1⟩
   exact k _ S1
inductive zbf(K:W.Frag)(c:List V)(H:Hp)(Q:VK):Prop
 | mk (a:Addr) (b:List Int) (_:c=[.ref a]) (_:SqL K H a (b.map V.int)) (_:b.length<=63) (_:∀f,Q (.bl true) f):zbf K c H Q
def spLaw(K:W.Frag):Sp:=fun b H Q _=>zbf K b H Q
theorem zha:zD ["_law_script","_law_cells"] ["_law_script"] (zy (topL 55)):=u3
theorem zij{f:Addr}{Y:FuncData}(F:Fun K "law" "law" (topL 55) f Y)(B:Blt G)(b:Dfn P w K G C "_law_folded" 1 ["_law_script","_law_size"] (zdV K))(I:Dfn P w K G C "_law_box" 1 ["_law_script","_law_k"] (zg6 K))
  (g:Dfn P w K G C "_law_right" 8 ["_law_box_here"] za9):qY P w K G C CX0 9 f Y ["_law_script"] (spLaw K):=by
 have nd:=zha.nd;refine F.ok zha (fun vs H Q E h=>?_) (fun aa A T s H vs Q E O h=>?_)
 ·obtain⟨a,ns,rfl,_⟩:=h
  rfl
 ·obtain⟨a,ns,rfl,hS,L,k⟩:=h
  refine⟨_,(zf (zE (i:=1) nd rfl (Or.inr rfl) (zk b O.m rfl (za (pv 0) (za zi ze))))
   (zo (zB (zx (xY rfl) rfl B.all boot_all (za (jv ["_law_cells"] [1] rfl rfl (by kernel_rfl) (jz rfl B.range (za (zx (Qj rfl) rfl B.max JD (za zi (za (zx zI rfl B.len boot_len (za (pv 1) ze)) ze))) ze)) (fun _ _ _ _=>qS) (fun _ _ _ _=>(zk g O.m rfl (za (zk I O.m rfl (za (pv 1) (za (pv 0) ze))) ze)))) ze))))),?_⟩
  refine⟨_,rfl,a,ns,3,rfl,hS,L,by decide,by decide,fun p l H1 s1 hp hm=>?_⟩
  have J:=bGe;have hl:(l.map V.int).length<=3:=by rw[zn];exact hm
  refine⟨_,rfl,p,_,rfl,.inl hp,_,_,rfl,_,rfl,(by rw[J];split<;>omega),(by rw[J];split<;>omega),?_⟩
  have hN:(if((l.map V.int).length:Int)>2 then((l.map V.int).length:Int) else 2).toNat<=8:=by split<;>omega
  have a0:=bG100;refine Jk (fun i U M=>U=List.replicate i (V.bl true)/\Same H1 M) ⟨rfl,u5 _⟩ ?_ ?_
  ·rintro i U M hi ⟨rfl,N⟩
   rw[Int.zero_add];refine⟨rfl,?_⟩
   refine⟨_,rfl,_,rfl,p,l,i,rfl,N.seq hp,by omega,fun q o hq Bq=>⟨q,0,rfl,Bq,by decide,fun H3 s3=>⟨?_,?_,fun c u e=>?_⟩⟩⟩
   ·rw[vy];omega
   ·rw[ZD]
   ·exact s3 c u ((zb hq) c u (N c u e)) (zm (N c u e) hq)
  ·rintro U M ⟨rfl,N⟩
   refine⟨by rw[vy];omega,fun D hD=>⟨D,List.replicate (if((l.map V.int).length:Int)>2 then((l.map V.int).length:Int) else 2).toNat true,rfl,?_,?_⟩⟩
   ·refine u4 ?_
    rw[zd,JS]
   ·have:=k (upd M D (.lst (List.replicate (if((l.map V.int).length:Int)>2 then((l.map V.int).length:Int) else 2).toNat (V.bl true))))
    simpa using this
end
theorem all_mk{l:PySem.W.OpenLaw}{w:World}{K:W.Frag}{h:Heap}{mg:Str->Option Value}{fa:Addr}(X:K.In h)(e:zir zal zdn zcD K=ziJ zal zdn zcD)(G:h.Ns mainGlobals mg)(bg:mg "law" = some (.ref fa)) :
  ∃fd:FuncData,(∀(s:Shared) (v:Value),BindsTo s fd ⟨[v],[]⟩ [("_law_script",v)])/\∀az:Heap,K.In az->az.Ns mainGlobals mg->qY l.prog w K mg az CX0 9 fa fd ["_law_script"] (spLaw K):=by
 have Z0:Tp l.prog w K mg h h zal zdn zcD:=⟨X,G,e⟩;have B:Blt mg:=⟨Z0.bl 0 rfl,Z0.bl 1 rfl,Z0.bl 2 rfl,Z0.bl 3 rfl,Z0.bl 4 rfl,Z0.bl 5 rfl,Z0.bl 6 rfl,Z0.bl 7 rfl,Z0.bl 8 rfl,Z0.bl 9 rfl,Z0.bl 10 rfl,Z0.bl 11 rfl,Z0.bl 12 rfl,Z0.bl 13 rfl,Z0.bl 14 rfl,Z0.bl 15 rfl,Z0.bl 16 rfl,Z0.bl 17 rfl,Z0.bl 18 rfl,Z0.bl 19 rfl⟩;obtain⟨f,fd,a,F⟩:=Z0.fd 49 rfl;cases bg.symm.trans (PySem.W.mg_of X G a);refine⟨fd,?_,fun az _ _=>?_⟩
 ·obtain⟨_,_,_,_,_,_,_,_,_,rfl,_,_⟩:=F.ex
  exact fun s v=>.of_eq rfl
 have Z:Tp l.prog w K mg az h zal zdn zcD:=⟨X,G,e⟩;have an:=Z.dfn 0 rfl fun _ _ F _ _=>zim F B
 have A:=Z.dfn 1 rfl fun _ _ F _ _=>zjV F B an
 have C:=Z.dfn 2 rfl fun _ _ F _ _=>zjZ F B
 have L:=Z.dfn 3 rfl fun _ _ F _ _=>zjX F B
 have bf:=Z.dfn 4 rfl fun _ _ F _ _=>zeH F B
 have be:=Z.dfn 5 rfl fun _ _ F _ _=>zgn F B
 have al:=Z.dfn 6 rfl fun _ _ F _ _=>zeI F B
 have ar:=Z.dfn 7 rfl fun _ _ F _ _=>ziq F B al
 have Q:=Z.dfn 8 rfl fun _ _ F _ _=>zeO F B bf be ar
 have Y:=Z.dfn 9 rfl fun _ _ F _ _=>zin F B
 have E:=Z.dfn 10 rfl fun _ _ F _ _=>zj3 F B
 have O:=Z.dfn 11 rfl fun _ _ F _ _=>zj0 F B E
 have ag:=Z.dfn 12 rfl fun _ _ F _ _=>zj4 F B E O Y
 have J:=Z.dfn 13 rfl fun _ _ F _ _=>zkc F B Q
 have af:=Z.dfn 14 rfl fun _ _ F _ _=>zj5 F B
 have ae:=Z.dfn 15 rfl fun _ _ F _ _=>zj6 F B E ag J af
 have N:=Z.dfn 16 rfl fun _ _ F _ _=>zgj F B
 have T:=Z.dfn 17 rfl fun _ _ F _ _=>zj9 F B
 have a0:=Z.dfn 18 rfl fun _ _ F _ _=>zkb F B Q
 have U:=Z.dfn 19 rfl fun _ _ F _ _=>zj8 F B T a0
 have b0:=Z.dfn 20 rfl fun _ _ F _ _=>zka F B U
 have ba:=Z.dfn 21 rfl fun _ _ F _ _=>zgl F B C A
 have am:=Z.dfn 22 rfl fun _ _ F _ _=>zeL F B L ba
 have as:=Z.dfn 23 rfl fun _ _ F _ _=>zgo F B C A
 have bb:=Z.dfn 24 rfl fun _ _ F _ _=>zil F B C am as
 have au:=Z.dfn 25 rfl fun _ _ F _ _=>zj7 F B bb b0
 have bc:=Z.dfn 26 rfl fun _ _ F _ _=>zio F B
 have b:=Z.dfn 27 rfl fun _ _ F _ _=>zgh F B
 have aj:=Z.dfn 28 rfl fun _ _ F _ _=>zgp F B
 have ab:=Z.dfn 29 rfl fun _ _ F _ _=>zeJ F B
 have av:=Z.dfn 30 rfl fun _ _ F _ _=>zii F B b ab
 have ao:=Z.dfn 31 rfl fun _ _ F _ _=>zeN F B av
 have D:=Z.dfn 32 rfl fun _ _ F _ _=>zeK F B b
 have ak:=Z.dfn 33 rfl fun _ _ F _ _=>zcU F B D
 have g:=Z.dfn 34 rfl fun _ _ F _ _=>zgi F B b
 have aa:=Z.dfn 35 rfl fun _ _ F _ _=>zgq F B b g D
 have ah:=Z.dfn 36 rfl fun _ _ F _ _=>zcV F B b g
 have bd:=Z.dfn 37 rfl fun _ _ F _ _=>zik F B b ao D ak aa ah
 have ap:=Z.dfn 38 rfl fun _ _ F _ _=>zeM F B b
 have ay:=Z.dfn 39 rfl fun _ _ F _ _=>zgg F B g
 have ax:=Z.dfn 40 rfl fun _ _ F _ _=>zgk F B b ap ay
 have aw:=Z.dfn 41 rfl fun _ _ F _ _=>zgm F B
 have M:=Z.dfn 42 rfl fun _ _ F _ _=>zj1 F B b
 have c:=Z.dfn 43 rfl fun _ _ F _ _=>zke F B
 have ai:=Z.dfn 44 rfl fun _ _ F _ _=>zkd F B b bd ax M
 have H:=Z.dfn 45 rfl fun _ _ F _ _=>zjY F B c
 have ac:=Z.dfn 46 rfl fun _ _ F _ _=>zih F B c
 have I:=Z.dfn 47 rfl fun _ _ F _ _=>zjW F B aw c
 have aq:=Z.dfn 48 rfl fun _ _ F _ _=>zj2 F B ai N ae au H ac c I
 exact zij F B aj bc aq
end L2
open PySem PySem.W PyProof.Rows
set_option maxRecDepth 100000 in
set_option maxHeartbeats 0 in
theorem PySem.Challenge.cw_pickboard_k43_mended_right_and_least_holds : PySem.Challenge.rw_pickboard_k43_mended_right_and_least.Holds := by
 refine L2.ownHead (d:=L2.defRec "law" (L2.topL 55)) 9999 L2.head1 L2.head2 (by kernel_rfl) (by kernel_rfl) (by kernel_rfl) L2.head3 ⟨rfl,rfl,rfl,rfl,rfl,by decide +kernel⟩ (by w_witness2) ?_
 exact L2.walkS (n:=63) (k:=9) (x:= "_law_script") (sp:=L2.spLaw) rfl (by decide) (by kernel_rfl) ⟨rfl,by decide,by decide,rfl⟩ (fun _ _ _ _ _ X e G m=>L2.all_mk X e G m) fun _ _ a ns hl _ hS=>⟨a,ns,rfl,hS,hl,fun _=>rfl⟩
