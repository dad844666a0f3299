import PyProof.Rows.All
import Wide.All
import OpenK.AllK
import Wide.FinOn
import Lean
import PyProof.EqAt
import PyProof.EqKinds
import PyProof.TupleCall
import PyProof.NeKinds
import PyProof.ReprRoads
import PyProof.ReprBulk
import PyProof.SumWalk
import PyProof.FString5
import PyProof.StrBlock2
import PyProof.StrBlockI
import PyProof.StrBlockH
import PyProof.StrWalks
import PyProof.StrLawsIn
import PyProof.AutoListH
import PyProof.CompUse
import PyProof.ListRange
import PyProof.CallFns
import PyProof.ListTruth
import PyProof.Rows.Range3
import PyProof.SeqI3
import KE.KRevSl
import PyProof.DictIter
import PyProof.DictWalks
import PyProof.DictCompW
import PyProof.Cells
import OpenK.KOwn
import PyProof.ExcClass3
import PyProof.ExcInit
import PyProof.ExcBaseAll.ValueError
import PyProof.ExcArgsOwn
import PyProof.ExcAttrAll.ValueError
import PyProof.Rows.SortWalk
import PyProof.Rows.SortStr
import PyProof.MeetsDict
import PyProof.DictUpdate
import PyProof.FactsAll.dict_3
import KE.KDictList
import PyProof.FactsAll.dict_4
import KE.KDictSum
import PyProof.IsiH_list
import PyProof.Rows.Exc
import KE.KDictOf
import PyProof.SetKind
import PyProof.Rows.SetFrom
import PyProof.FactsAll.set_1
import PyProof.FactsAll.set_2
import KE.KSortTup
import KE.KItemsList
import PyProof.Rows.SortRev
import PyProof.Rows.StrCase
import PyProof.Rows.StrLen
import KE.KPairComp
import KE.KMinKey
import PyProof.CallStr
import PyProof.StrCalls2
import PyProof.StrLawsTight
import PyProof.FString
import PyProof.StrBlock
import KE.KUnpack
import PyProof.Rows.TupMore
import PyProof.DictItems
import PySem.Challenge.RW_pickboard_k08_whole_parts_numbered_other
set_option Elab.async false
set_option linter.all false
set_option maxRecDepth 100000
def zd:=@PySem.wpAny_bind
def zo:=@List.length_map
def zK:=@List.getElem?_eq_some_iff
def zp:=@PySem.wpAny_pure
def zI:=@PySem.Heap.get?_push_of_some
def zy:=@Nat.le_refl
def qA:=@List.getElem?_eq_getElem
def zY:=@List.getElem?_map
def qv:=@PySem.Heap.get?_push_size
def zZ:=@List.size_toArray
def zA:=@PySem.Heap.lt_size
def zL:=@List.length_append
def zP:=@List.mem_singleton
def zF:=@List.map_append
def z9:=@Option.map_eq_some_iff
def zn:=@if_neg
def qm:=@List.mem_of_getElem?
def zr:=@if_pos
def qw:=@List.mem_cons_of_mem
def zQ:=@List.mem_cons
def zW:=@decide_eq_true
def qF:=@Array.length_toList
def zS:=@Nat.ne_of_lt
def qE:=@Bool.false_ne_true
def zT:=@List.mem_map
def jE:=@List.getD_eq_getElem?_getD
def qD:=@List.length_take
def jW:=@List.getElem?_append_right
def zX:=@Nat.le_trans
def qQ:=@List.length_range
def jV:=@List.getElem?_append_left
def qW:=@Bool.false_eq_true
def jz:=@List.mem_append_right
def qC:=@List.mem_range
def qP:=@decide_eq_false
def qO:=@List.mem_append
def jt:=@Nat.lt_of_lt_of_le
def jy:=@List.length_cons
def jx:=@Bool.and_eq_true
def zN:=@Ne.symm
def xR:=@Array.getElem?_eq_getElem
def jq:=@Option.some.inj
def jU:=@List.mem_cons_self
def qB:=@Nat.zero_le
def je:=@PySem.wpAny_holding
def jT:=@Int.toNat_natCast
def jS:=@List.take_length
def jn:=@List.map_cons
def vZ:=@Array.getD_eq_getD_getElem?
def jD:=@PySem.Heap.size_push
def xQ:=@List.length_replicate
def xP:=@PySem.Heap.get?_update_self
def j3:=@List.all_eq_true
def jR:=@PySem.PassesOwn.never
def qN:=@PySem.wpAny_mono
def vC:=@PySem.wpAny_callSpecial?_slot
def vB:=@PySem.F.plainAttrs_list
def xq:=@PySem.wpAny_call_entry
def jm:=@PySem.wpAny_field
def jC:=@List.map_map
def vY:=@PySem.Heap.get?_update_other
def vz:=@List.mem_append_left
def xF:=@List.lookup_cons
def wL:=@List.take_append_getElem
def xO:=@PySem.wpAny_newObj_type
def xi:=@PySem.wpAny_seqItems
def xh:=@Nat.lt_irrefl
def vk:=@of_decide_eq_true
def Zk:=@PyProof.Rows.callWith_type1
def vh:=@List.length_drop
def vX:=@decide_eq_true_iff
def vW:=@Int.emod_lt_of_pos
def vy:=@List.getElem_mem
def wK:=@PySem.mem_of_lookup
def yz:=@Array.getElem?_toList
def Qh:=@List.idxOf_lt_length_of_mem
def jZ:=@beq_iff_eq
def yy:=@PySem.Around.under_plainId
def wJ:=@Int.natCast_nonneg
def vV:=@PySem.wpAny_isInstance
def yx:=@PySem.Heap.SameBut.update
def wI:=@PySem.wpAny_truthy_bool
def Qg:=@PySem.F.slot_list_append
def Qf:=@PySem.F.type_list_append
def Zj:=@List.getElem?_eq_none
def vU:=@Bool.eq_iff_iff
def vT:=@List.nodup_cons
def vS:=@Int.emod_nonneg
def xp:=@PySem.wpAny_rule
def vg:=@Nat.ne_of_gt
def wH:=@Option.map_some
def vf:=@Sum.inl.inj
def VE:=@PySem.F.slot_dict_keyiterator_next
def Zi:=@List.nodup_append
def Zh:=@List.pairwise_map
def Zg:=@Nat.le_of_lt_succ
def yw:=@List.append_nil
def vR:=@Nat.sub_self
def vQ:=@Int.ofNat_lt
def wG:=@List.any_cons
def Qw:=@Array.getElem?_eq_some_iff
def wn:=@Nat.lt_succ_self
def wZ:=@PySem.Calls.spliced_cons
def wY:=@PySem.wpAny_setField_rec
def wm:=@List.mem_filter
def wg:=@PySem.F.slot_zip_next
def y9:=@List.replicate_succ'
def wX:=@PySem.wpAny_setState_of
def vv:=@PySem.wpAny_attempt
def wf:=@PySem.Value.type.inj
def wW:=@PySem.F.plain_min_loop
def Qv:=@List.take_of_length_le
def y8:=@PySem.wpAny_Call_Name_kw
def W4:=@PyProof.Rows.F.plain_set_update_loop
def wV:=@PySem.wpAny_passesOwn
def wU:=@PySem.wpAny_updateSeq
def we:=@PySem.wpAny_standAt
def XE:=@PySem.F.slot_tuple_iterator_next
def XD:=@List.pairwise_iff_getElem
def wc:=@Nat.le_of_eq
def wb:=@PySem.wpAny_typeOf
def XC:=@PySem.F.slot_list_getattribute
def wa:=@Nat.succ_pos
def Qu:=@List.map_congr_left
def W3:=@PyProof.Rows.slot_tuple_getitem
def XB:=@PySem.F.slot_list_index
def XA:=@PySem.F.type_list_index
def y6:=@List.length_nil
def y4:=@PySem.SeqAt.EqAt.same
def Qt:=@Nat.lt_of_le_of_lt
def y3:=@List.forIn_cons
def Qs:=@PySem.Obj.data_mapFields
def yZ:=@List.find?_cons
def yY:=@Nat.not_lt_zero
def Qr:=@List.pairwise_cons
def Xz:=@List.getElem?_set_self
def Xy:=@PySem.Calls.callWith_builtin
def v0:=@PySem.wpAny_letGo
def Xx:=@Array.getElem?_eq_none
def Xw:=@List.length_pos_of_mem
def Qq:=@PySem.Calls.spliced_nil
def Qp:=@Nat.lt_succ_of_lt
def Qo:=@Option.some.injEq
def wT:=@Nat.le_of_lt
def Xv:=@List.length_singleton
def Xu:=@PySem.F.slot_enumerate_next
def yX:=@PySem.wpAny_tryCatch
def Xt:=@List.mem_iff_getElem?
def Xr:=@List.length_filter_le
def Xq:=@List.getElem?_set_ne
def Qn:=@List.nodup_range
def yW:=@Bool.not_true
def Xp:=@List.filterMap_cons
def Xo:=@PySem.F.plain_extend_loop
def Qm:=@List.length_set
def W2:=@List.getElem?_zip_eq_some
def W1:=@Classical.byContradiction
def Xn:=@List.mem_filterMap
def W0:=@PySem.F.args_tuple_add_2
def Xm:=@List.getElem?_drop
def Xl:=@Array.forIn_toList
def zdl:=@PyProof.Rows.F.entry_set_update_loop
def yV:=@Nat.lt_or_ge
def WZ:=@List.length_erase_of_mem
def Xk:=@List.filter_append
def yU:=@Int.zero_add
def Ql:=@List.forIn_nil
def wS:=@Nat.mod_lt
def WY:=@PySem.F.entry_tuple_add
def WW:=@PySem.F.plainAttrs_dict
def Xj:=@PySem.F.args_zip_next_1
def Xi:=@Array.toList_push
def Xh:=@List.ext_getElem?
def WV:=@PySem.F.slot_tuple_add
def yT:=@PySem.wpAny_of_eq
def WU:=@List.pairwise_lt_range
def WT:=@PySem.SetTable.insertAt_perm
def Qk:=@PySem.W.mg_of
def Xg:=@List.any_eq_true
def Xf:=@PySem.F.entry_zip_next
def Xe:=@List.countP_cons
def WS:=@PySem.Obj.isFreed_of_fields
def WR:=@PySem.F.slot_dict_get
def WQ:=@PySem.Calls.evalArgs_plain
def Qj:=@List.all_map
def zdk:=@PySem.F.args_dict_keyiterator_next_1
def Qi:=@Nat.zero_add
def WP:=@List.mem_erase_of_ne
def WO:=@List.mem_of_mem_take
def zdj:=@PySem.F.entry_dict_keyiterator_next
def zdi:=@List.count_eq_zero_of_not_mem
def WN:=@Nat.add_le_add_left
def WM:=@List.length_reverse
def WL:=@List.length_pos_iff
def WK:=@List.getElem_of_mem
def WJ:=@List.getElem?_range
def Xd:=@Bool.and_false
def zdh:=@PySem.F.args_tuple_iterator_next_1
def zdg:=@PySem.F.slot_dict_setdefault
def zdf:=@PySem.F.entry_tuple_iterator_next
def WI:=@PySem.SeqAt.RcNeAt.lists
def WH:=@PySem.SeqAt.EqAt.of_refs
def WG:=@Nat.eq_zero_or_pos
def WF:=@List.getElem_idxOf
def Xb:=@PySem.Paired.length
def zde:=@PySem.Calls.Name_function_global
def zdd:=@Int.fdiv_eq_ediv_of_nonneg
def zdc:=@Int.fmod_eq_emod_of_nonneg
def Xa:=@Prod.mk.injEq
def zdb:=@Array.perm_iff_toList_perm
def zda:=@List.perm_append_singleton
def J9:=@List.map_take
def WE:=@List.take_sublist
def WD:=@PySem.Obj.cls_mapFields
def WC:=@Option.isSome_map
def WB:=@List.append_assoc
def zc9:=@List.getElem?_eq_none_iff
def zc8:=@List.drop_eq_getElem_cons
def zc7:=@List.mem_drop_iff_getElem
def zc6:=@List.mem_take_iff_getElem
def WA:=@List.getElem_inj
def yS:=@Prod.ext
def J8:=@List.map_nil
def Wz:=@List.not_mem_nil
def Wy:=@List.ext_getElem
def Wx:=@PySem.F.entry_min_loop
def Ww:=@List.of_mem_zip
def Wv:=@List.range_succ
def Wu:=@List.nil_append
def J7:=@Sum.inr.inj
def J6:=@Nat.le_succ
def Wt:=@List.nodup_nil
def Ws:=@Bool.not_false
namespace L2
open PySem PySem.Spec PyProof.Rows
theorem bG100000:100000<sizeLine:=by rw[sizeLine_eq];decide
theorem bG1000000:1000000<sizeLine:=by rw[sizeLine_eq];decide
theorem bG100:100<sizeLine:=by rw[sizeLine_eq];decide
theorem bGe:(2:Int)^62=4611686018427387904:=by decide
abbrev Key:=Sum Int Str
def Z5:Key->Value->Bool
 | .inl k,v=>Value.isInt k v
 | .inr x,v=>Value.isStrOf x v
def zhM(w:World):Key->Int
 | .inl k=>hashInt k
 | .inr x=>hashStr w x
theorem qz:∀{k:Key} {v:Value},Z5 k v=true->(∃i t,k=Sum.inl i/\v=Value.int i t)\/(∃x t,k=Sum.inr x/\v=Value.str x t)
 | .inl i,v,h=>by
  obtain⟨t,e⟩:=Value.isInt_shape (k:=i) (v:=v) h;exact .inl ⟨i,t,rfl,e⟩
 | .inr x,v,h=>by
  obtain⟨t,e⟩:=Value.isStrOf_shape (x:=x) (v:=v) h;exact .inr ⟨x,t,rfl,e⟩
theorem za0(i:Int)(t:Tok):Z5 (.inl i) (.int i t)=true:=by simp[Z5,Value.isInt]
theorem zaZ(x:Str)(t:Tok):Z5 (.inr x) (.str x t)=true:=by simp[Z5,Value.isStrOf]
theorem zf6(a b:Int):decide ((Sum.inl a:Key)=Sum.inl b)=(a==b):=by
 by_cases e:a=b
 ·subst e;simp
 ·have h:¬(Sum.inl a:Key)=Sum.inl b:=fun q=>e (vf q)
  rw[qP h];exact(beq_eq_false_iff_ne.mpr e).symm
theorem zf3(a b:Str):decide ((Sum.inr a:Key)=Sum.inr b)=decide (a=b):=by
 by_cases e:a=b
 ·subst e;simp
 ·have h:¬(Sum.inr a:Key)=Sum.inr b:=fun q=>e (J7 q)
  rw[qP h,qP e]
theorem zf5(a:Int)(b:Str):decide ((Sum.inl a:Key)=Sum.inr b)=false:=qP (fun q=>nomatch q)
theorem zf4(a:Str)(b:Int):decide ((Sum.inr a:Key)=Sum.inl b)=false:=qP (fun q=>nomatch q)
def zG(c:Program)(w:World):PySem.KeyKind c w Key where
 is:=Z5
 hash:=zhM w
 inj:=fun v a b g hb=>by
  rcases qz g with ⟨i,t,rfl,rfl⟩ | ⟨x,t,rfl,rfl⟩
  ·rcases qz hb with ⟨j,u,rfl,e⟩ | ⟨y,u,rfl,e⟩
   ·injection e with e1 _;rw[e1]
   ·exact nomatch e
  ·rcases qz hb with ⟨j,u,rfl,e⟩ | ⟨y,u,rfl,e⟩
   ·exact nomatch e
   ·injection e with e1 _;rw[e1]
 byValue:=fun k v h=>by
  rcases qz h with ⟨i,t,rfl,rfl⟩ | ⟨x,t,rfl,rfl⟩<;>rfl
 pyHash:=fun hv h=>by
  rcases qz hv with ⟨i,t,rfl,rfl⟩ | ⟨x,t,rfl,rfl⟩
  ·exact wpAny_pyHash_int h
  ·exact wpAny_pyHash_str h
 eqBool:=fun hu hv h=>by
  rcases qz hu with ⟨i,t,rfl,rfl⟩ | ⟨x,t,rfl,rfl⟩
  ·rcases qz hv with ⟨j,u,rfl,rfl⟩ | ⟨y,u,rfl,rfl⟩
   ·rw[zf6] at h;exact wpAny_eqBool_int h
   ·rw[zf5] at h;exact SeqAt.EqAt.int_str i t y u _ _ _ _ h
  ·rcases qz hv with ⟨j,u,rfl,rfl⟩ | ⟨y,u,rfl,rfl⟩
   ·rw[zf4] at h;exact SeqAt.EqAt.str_int x t j u _ _ _ _ h
   ·rw[zf3] at h;exact wpAny_eqBool_str h
 «strs»:=fun k x t v h=>by
  rcases qz h with ⟨i,u,rfl,e⟩ | ⟨y,u,rfl,e⟩
  ·exact nomatch e
  ·injection e with e1 _
   subst e1;cases v<;>rfl
theorem Wh(c:Program)(w:World)(k:Key)(v:Value):(zG c w).is k v=Z5 k v:=rfl
theorem Vk(c:Program)(w:World)(i:Int)(t:Tok):(zG c w).is (.inl i) (.int i t)=true:=za0 i t
theorem Vj(c:Program)(w:World)(x:Str)(t:Tok):(zG c w).is (.inr x) (.str x t)=true:=zaZ x t
inductive V where
 | non | bl (b:Bool) | int (i:Int) | str (x:Str) | byt (b:Array UInt8) | flt (b:UInt64) | ref (a:Addr) | ty (n:String)
 deriving DecidableEq
def RelV:V->Value->Prop
 | .non,u=>u=Value.none
 | .bl b,u=>u=Value.bool b
 | .int i,u=>∃t,u=Value.int i t
 | .str x,u=>∃t,u=Value.str x t
 | .byt b,u=>∃t,u=Value.bytes b t
 | .flt b,u=>∃t,u=Value.float b t
 | .ref a,u=>u=Value.ref a
 | .ty n,u=>u=Value.type n
abbrev Vals:List V->List Value->Prop:=Paired RelV
theorem Vals.length{g:List V}{c:List Value}(r:Vals g c):g.length=c.length:=Xb r
theorem Vals.get:∀{g:List V} {c:List Value} {i:Nat} {x:V},Vals g c->g[i]? =some x->∃u,c[i]? =some u/\RelV x u
 | _,_,_,_,.nil,e=>by simp at e
 | _,_,0,_,.cons r _,e=>by simp at e;subst e;exact⟨_,rfl,r⟩
 | _,_,i+1,x,.cons _ t,e=>by
  obtain⟨u,l,o⟩:=Vals.get (i:=i) (x:=x) t (by simpa using e)
  exact⟨u,by simpa using l,o⟩
theorem Vals.set{x:V}{u:Value}(r:RelV x u):∀{g:List V} {c:List Value} (i:Nat),Vals g c->Vals (g.set i x) (c.set i u)
 | _,_,_,.nil=>.nil
 | _,_,0,.cons _ t=>.cons r t
 | _,_,i+1,.cons q t=>.cons q (Vals.set r i t)
theorem Vals.append:∀{i l:List V} {c g:List Value},Vals i c->Vals l g->Vals (i++l) (c++g)
 | _,_,_,_,.nil,s=>s
 | _,_,_,_,.cons r t,s=>.cons r (Vals.append t s)
theorem Vals.take:∀{g:List V} {c:List Value} (n:Nat),Vals g c->Vals (g.take n) (c.take n)
 | _,_,0,_=>.nil
 | _,_,_+1,.nil=>.nil
 | _,_,n+1,.cons r t=>.cons r (Vals.take n t)
theorem Vals.drop:∀{g:List V} {c:List Value} (n:Nat),Vals g c->Vals (g.drop n) (c.drop n)
 | _,_,0,r=>r
 | _,_,_+1,.nil=>.nil
 | _,_,n+1,.cons _ t=>Vals.drop n t
theorem Vals.none_of:∀{c:List V} {g:List Value} {i:Nat},Vals c g->c[i]? =none->g[i]? =none:=fun {c g i} r e=>by
 have l:=r.length;have o:c.length<=i:=zc9.mp e;exact zc9.mpr (by omega)
def RelO:Option V->Option Value->Prop
 | some v,some u=>RelV v u
 | none,none=>True
 | _,_=>False
def KV{κ:Type}:List (κ×V)->List (κ×Value)->Prop:=Paired fun(p:κ×V) (q:κ×Value)=>p.1=q.1/\RelV p.2 q.2
def kV:Key->V
 | .inl i=>.int i
 | .inr x=>.str x
inductive HO where
  | lst (i:List V)
  | tup (i:List V)
  | dK (c:List (Key×V)) | dT (c:List (List Key×V))
  | set (S:Int->Bool) (n:Nat)
  | ins (C l:Addr) (g:List (Str×V))
  | own (x:Addr)
  | xd (g:List (Str×V))
  | met (f x:Addr)
  | rng (lo s:Int)
  | frz (o:Obj) (u:HO)
  | tbl (t:Array Value)
  | ext (φ:Heap->Prop)
abbrev Hp:=Addr->Option HO
def upd(H:Hp)(a:Addr)(o:HO):Hp:=fun b=>if b=a then some o else H b
theorem zc{H:Hp}{a:Addr}{o:HO}:upd H a o a=some o:=by unfold upd;rw[zr rfl]
theorem zk{H:Hp}{a b:Addr}{o:HO}(h:b≠a):upd H a o b=H b:=by unfold upd;rw[zn h]
theorem Vi{H:Hp}{a b:Addr}{o u:HO}(h:H a=some o)(c:H b=some u)(d:o≠u):a≠b:=by
 intro e;subst e;rw[h] at c;exact d (jq c)
theorem zm{H:Hp}{a b:Addr}{o:HO}(h:H a=some o)(c:H b=none):a≠b:=by
 intro e;subst e;rw[h] at c;cases c
section
variable(P:Program)(w:World)
def TupX(h:Heap)(a:Addr)(c:Array Value):Prop:=IsTup h a c/\∃o,h.get? a=some o/\o.dict=none
theorem TupX.by{h:Heap}{a:Addr}{c:Array Value}{n:Nat}(e:h.get? a=some { cls:=.type "tuple",data:=.seq c n }):TupX h a c:=⟨⟨_,e,rfl,n,rfl⟩,_,e,rfl⟩
def ObjOk(H:Hp)(h:Heap)(a:Addr):HO->Prop
 | .lst i=>i.length<=sizeLine/\∃(c:List Value) (n:Nat),Vals i c/\h.get? a=some { cls:=.type "list",data:=.seq c.toArray n }
 | .tup i=>i.length<=sizeLine/\∃c:List Value,Vals i c/\TupX h a c.toArray
 | .dK g=>g.length<=sizeLine/\(a==sysModules)=false/\∃G,KV g G/\h.DictOf (zG P w) a G
 | .dT g=>g.length<=sizeLine/\(a==sysModules)=false/\∃i:List (List Key×Addr×Value),
   Paired (fun(p:List Key×V) (q:List Key×Addr×Value)=>p.1=q.1/\H q.2.1=some (.tup (p.1.map kV))/\RelV p.2 q.2.2) g i /\
   ∃o B I,h.get? a=some o/\o.ExactDict/\o.data=.dict B I/\B.toList=i.map (entryOfKey (tupleKind (zG P w)))/\(i.map (·.1)).Nodup
 | .set S n=>h.SetOf (intKind P w) a S n
 | .ins C A s=>H A=some (.own a)/\s.length<=1000/\A≠a/\h.get? a=some (PySem.W.instObj C A) /\
   ∃l,h.Ns1 A l/\(∀f,RelO (s.lookup f) (l f))/\PySem.Within l (s.map (·.1))
 | .own _=>∃o,h.get? a=some o
 | .xd s=>∃l,h.Ns1 a l/\∀f,RelO (s.lookup f) (l f)
 | .rng lo J=>∃t u v,h.get? a=some { cls:=.type "range",data:=.fields #[.int lo t,.int J u,.int 1 v] }
 | .frz o u=>h.get? a=some o/\ObjOk H h a u
 | .tbl L=>h.get? a=some { cls:=.none,data:=.fields L }
 | .met f x=>h.get? a=some (PySem.W.methodObj (.ref f) (.ref x))
 | .ext φ=>φ h/\(∃o,h.get? a=some o)/\∀D E:Heap,φ D->(∀o,D.get? a=some o->E.get? a=some o)->φ E
def HOk(H:Hp)(h:Heap):Prop:=∀a o,H a=some o->ObjOk P w H h a o
end
section
variable{P:Program}{w:World}{H g:Hp}{h h':Heap}{a:Addr}{o:HO}
theorem ObjOk.lt(x:ObjOk P w H h a o):a<h.objs.size:=by
 cases o with
 | lst l=>obtain⟨_,_,_,_,e⟩:=x;exact zA e
 | tup l=>obtain⟨_,_,_,p⟩:=x;exact p.1.lt
 | dK c=>obtain⟨_,_,_,_,o,_,_,e,_⟩:=x;exact zA e
 | dT c=>obtain⟨_,_,_,_,o,_,_,e,_⟩:=x;exact zA e
 | set S n=>obtain⟨o,_,_,_,e,_⟩:=x;exact zA e
 | ins C s i=>obtain⟨_,_,_,e,_⟩:=x;exact zA e
 | own y=>obtain⟨_,e⟩:=x;exact zA e
 | xd i=>obtain⟨_,⟨_,_,_,e,_⟩,_⟩:=x;exact zA e
 | rng lo t=>obtain⟨_,_,_,e⟩:=x;exact zA e
 | frz A u=>obtain⟨e,_⟩:=x;exact zA e
 | tbl B=>exact zA (show h.get? a=some _ from x)
 | met f y=>exact zA (show h.get? a=some _ from x)
 | ext φ=>obtain⟨_,⟨_,e⟩,_⟩:=x;exact zA e
theorem Paired.mapP{α β:Type}{F G:α->β->Prop}:∀{c:List α} {i:List β},Paired F c i->(∀a b,F a b->G a b)->Paired G c i
 | _,_,.nil,_=>.nil
 | _,_,.cons r t,f=>.cons (f _ _ r) (Paired.mapP t f)
theorem ObjOk.stay(x:ObjOk P w H h a o)(k:∀b u,(b=a\/H b=some (.own a))->h.get? b=some u->h'.get? b=some u)
  (M:∀b,H b=some (.own a)->g b=some (.own a)) (N:∀b B,H b=some (.tup B)->g b=some (.tup B)):ObjOk P w g h' a o:=by
 induction o with
 | lst B=>obtain⟨z,A,n,r,e⟩:=x;exact⟨z,A,n,r,k _ _ (.inl rfl) e⟩
 | tup B=>obtain⟨z,A,r,⟨i,e,c⟩,Q,e2,J⟩:=x;exact⟨z,A,r,⟨i,k _ _ (.inl rfl) e,c⟩,Q,k _ _ (.inl rfl) e2,J⟩
 | dK D=>obtain⟨z,y,U,r,i,s,l,e,c⟩:=x;exact⟨z,y,U,r,i,s,l,k _ _ (.inl rfl) e,c⟩
 | dT D=>
  obtain⟨z,y,B,r,i,s,l,e,c⟩:=x;exact⟨z,y,B,Paired.mapP r fun p q z=>⟨z.1,N _ _ z.2.1,z.2.2⟩,i,s,l,k _ _ (.inl rfl) e,c⟩
 | set S n=>obtain⟨i,s,l,t,e,c⟩:=x;exact⟨i,s,l,t,k _ _ (.inl rfl) e,c⟩
 | ins C Y L=>
  obtain⟨d,z,ne,e,E,⟨G,s,l,e2,c⟩,r⟩:=x;exact⟨M _ d,z,ne,k _ _ (.inl rfl) e,E,⟨G,s,l,k _ _ (.inr d) e2,c⟩,r⟩
 | own y=>obtain⟨i,e⟩:=x;exact⟨i,k _ _ (.inl rfl) e⟩
 | xd L=>obtain⟨E,⟨G,s,l,e,c⟩,r⟩:=x;exact⟨E,⟨G,s,l,k _ _ (.inl rfl) e,c⟩,r⟩
 | rng lo hi=>obtain⟨t,u,v,e⟩:=x;exact⟨t,u,v,k _ _ (.inl rfl) e⟩
 | frz i u O=>obtain⟨e,q⟩:=x;exact⟨k _ _ (.inl rfl) e,O q⟩
 | tbl I=>
  have e:h.get? a=some { cls:=.none,data:=.fields I }:=x;show h'.get? a=some { cls:=.none,data:=.fields I };exact k a _ (.inl rfl) e
 | met f y=>
  have e:h.get? a=some (PySem.W.methodObj (.ref f) (.ref y)):=x;show h'.get? a=some (PySem.W.methodObj (.ref f) (.ref y));exact k a _ (.inl rfl) e
 | ext φ=>obtain⟨p,⟨o,e⟩,st⟩:=x;exact⟨st _ _ p fun o q=>k _ _ (.inl rfl) q,⟨o,k _ _ (.inl rfl) e⟩,st⟩
theorem HOk.lt(x:HOk P w H h)(e:H a=some o):a<h.objs.size:=(x a o e).lt
theorem HOk.fresh(x:HOk P w H h)(e:h.objs.size<=a):H a=none:=by
 cases q:H a with
 | none=>rfl
 | some u=>exact absurd (jt (x.lt q) e) (xh _)
theorem HOk.kept(x:HOk P w H h)(k:∀b u,h.get? b=some u->h'.get? b=some u):HOk P w H h':=fun a o e=>
 (x a o e).stay (fun b u _ q=>k b u q) (fun _ q=>q) fun _ _ q=>q
theorem HOk.laid(x:HOk P w H h)(k:∀b u,h.get? b=some u->h'.get? b=some u)(s:h.objs.size<=a)(i:ObjOk P w (upd H a o) h' a o):HOk P w (upd H a o) h':=fun b u e=>by
 have l:=x.fresh s;by_cases hb:b=a
 ·subst hb;rw[zc] at e;cases e;exact i
 ·rw[zk hb] at e
  exact(x b u e).stay (fun c v _ q=>k c v q) (fun c q=>by rw[zk (zm q l)];exact q) fun c t q=>by rw[zk (zm q l)];exact q
end
def Rd(H:Hp)(a:Addr)(u:HO):Prop:=H a=some u\/∃o,H a=some (.frz o u)
theorem Rd.of{H:Hp}{a:Addr}{u:HO}(h:H a=some u):Rd H a u:=.inl h
theorem Rd.ok{P:Program}{w:World}{H:Hp}{h:Heap}{a:Addr}{u:HO}(r:Rd H a u)(x:HOk P w H h):ObjOk P w H h a u:=by
 rcases r with r | ⟨o,r⟩
 ·exact x a u r
 ·obtain⟨_,q⟩:=x a _ r
  exact q
def Mut:Option HO->Prop
 | some (.lst _)=>True
 | some (.dK _)=>True
 | some (.dT _)=>True
 | some (.set _ _)=>True
 | some (.ins _ _ _)=>True
 | some (.ext _)=>True
 | _=>False
section
variable{P:Program}{w:World}{H:Hp}{h g:Heap}{x e:Addr}{i:HO}
theorem HOk.write(ok:HOk P w H h)(t:Mut (H x))(D:e=x\/H e=some (.own x))(k:∀b u,b≠e->h.get? b=some u->g.get? b=some u)(B:∃u,g.get? e=some u)
  (C:ObjOk P w (upd H x i) g x i):HOk P w (upd H x i) g:=fun b u q=>by
 have o:∀c y,H c=some (.own y)->c≠x:=fun c y r z=>by subst z;rw[r] at t;exact t
 have s:∀c A,H c=some (.tup A)->c≠x:=fun c A r z=>by subst z;rw[r] at t;exact t
 by_cases hb:b=x
 ·subst hb;rw[zc] at q;cases q;exact C
 ·rw[zk hb] at q
  by_cases l:b=e
  ·have E:H b=some (.own x):=by
    rcases D with z | z
    ·exact absurd (l.trans z) hb
    ·rw[l];exact z
   rw[q] at E;cases E
   obtain⟨v,hv⟩:=B;exact⟨v,by rw[l];exact hv⟩
  ·refine(ok b u q).stay (fun c v hc r=>k c v ?_ r) (fun c r=>by rw[zk (o c b r)];exact r) fun c A r=>by rw[zk (s c A r)];exact r
   rcases hc with rfl | hc
   ·exact l
   ·rintro rfl
    rcases D with z | z
    ·exact o c b hc z
    ·rw[hc] at z;cases z;exact hb rfl
end
structure Un(fs ex:List Addr)(H H':Hp)(h h':Heap):Prop where
 keep:∀b o,h.get? b=some o->H b=none->b∉fs->b∉ex->h'.get? b=some o
 slot:∀b o,h.get? b=some o->H b=none->b∈fs->b∉ex->∃sl,h'.get? b=some { o with slots:=sl }
 free:∀b o,h.get? b=some o->H b=none->b∉ex->H' b=none
 there:∀b o,h.get? b=some o->b∉ex->∃o',h'.get? b=some o'
 tups:∀b xs,H b=some (.tup xs)->H' b=some (.tup xs)
 frzs:∀b o u,H b=some (.frz o u)->H' b=some (.frz o u)
 tbls:∀b ps,H b=some (.tbl ps)->∃more,H' b=some (.tbl (ps++more))
section
variable{i w g t:List Addr}{H s A:Hp}{h l B h':Heap}{a x e:Addr}{o:HO}
theorem Un.any(u:Un i g H s h l){b:Addr}{c:Obj}(q:h.get? b=some c)(n:H b=none)(hx:b∉g):∃C,l.get? b=some { c with slots:=C }:=by
 by_cases hb:b∈i
 ·exact u.slot b c q n hb hx
 ·exact⟨c.slots,u.keep b c q n hb hx⟩
theorem Un.trans(a:Un i g H s h l)(b:Un i g s A l B):Un i g H A h B where
 keep:=fun c u q n hc hx=>b.keep c u (a.keep c u q n hc hx) (a.free c u q n hx) hc hx
 slot:=fun c u q n hc hx=>by
  obtain⟨L,e1⟩:=a.slot c u q n hc hx;obtain⟨E,e2⟩:=b.slot c _ e1 (a.free c u q n hx) hc hx;exact⟨E,e2⟩
 free:=fun c u q n hx=>by
  obtain⟨D,e1⟩:=a.there c u q hx;exact b.free c D e1 (a.free c u q n hx) hx
 there:=fun c u q hx=>by
  obtain⟨D,e1⟩:=a.there c u q hx;exact b.there c D e1 hx
 tups:=fun c C q=>b.tups c C (a.tups c C q)
 frzs:=fun c u C q=>b.frzs c u C (a.frzs c u C q)
 tbls:=fun c J q=>by
  obtain⟨G,e1⟩:=a.tbls c J q;obtain⟨I,e2⟩:=b.tbls c _ e1;exact⟨G++I,by rw[e2,Array.append_assoc]⟩
theorem Un.kept(k:∀b u,h.get? b=some u->h'.get? b=some u):Un i g H H h h':=
 ⟨fun b c q _ _ _=>k b c q,fun b c q _ _ _=>⟨c.slots,k b c q⟩,fun _ _ _ n _=>n,fun b c q _=>⟨c,k b c q⟩,fun _ _ q=>q,fun _ _ _ q=>q,fun _ C q=>⟨#[],by rw[q];simp⟩⟩
theorem Un.refl:Un i g H H h h:=Un.kept fun _ _ q=>q
theorem Un.laid(k:∀b u,h.get? b=some u->h'.get? b=some u)(C:h.objs.size<=a)(c:H a=none):Un i g H (upd H a o) h h' where
 keep:=fun b u q _ _ _=>k b u q
 slot:=fun b u q _ _ _=>⟨u.slots,k b u q⟩
 free:=fun b u q n _=>by rw[zk (zS (jt (zA q) C))];exact n
 there:=fun b u q _=>⟨u,k b u q⟩
 tups:=fun b D q=>by rw[zk (zm q c)];exact q
 frzs:=fun b u D q=>by rw[zk (zm q c)];exact q
 tbls:=fun b E q=>⟨#[],by rw[zk (zm q c),q];simp⟩
theorem Un.write(C:Mut (H x))(G:e=x\/H e=some (.own x))(k:∀b u,b≠e->h.get? b=some u->h'.get? b=some u)(D:∃u,h'.get? e=some u):Un i g H (upd H x o) h h':=by
 have hx:∀b,H b=none->b≠x:=fun b n z=>by subst z;rw[n] at C;exact C
 have hb:∀b,H b=none->b≠e:=fun b n z=>by
  subst z;rcases G with r | r
  ·exact hx b n r
  ·rw[n] at r;cases r
 have E:∀b u,H b=some u->¬Mut (some u)->b≠x:=fun b u q I z=>by subst z;rw[q] at C;exact I C
 refine⟨fun b u q n _ _=>k b u (hb b n) q,fun b u q n _ _=>⟨u.slots,k b u (hb b n) q⟩,fun b u q n _=>by rw[zk (hx b n)];exact n,fun b u q _=>?_,
  fun b J q=>by rw[zk (E b _ q fun z=>z)];exact q,fun b u J q=>by rw[zk (E b _ q fun z=>z)];exact q,fun b L q=>⟨#[],by rw[zk (E b _ q fun z=>z),q];simp⟩⟩
 by_cases c:b=e
 ·subst c;exact D
 ·exact⟨u,k b u c q⟩
theorem Un.mono(u:Un i g H s h l)(D:∀b∈i,b∈w)(hx:∀b∈g,b∈t):Un w t H s h l:=
 ⟨fun b C q n hb c=>u.keep b C q n (fun z=>hb (D b z)) fun z=>c (hx b z),fun _ _ q n _ c=>u.any q n fun z=>c (hx _ z),fun b C q n c=>u.free b C q n fun z=>c (hx b z),fun b C q c=>u.there b C q fun z=>c (hx b z),u.tups,u.frzs,u.tbls⟩
end
def trk(h:Heap)(H:Hp):List Addr:=(List.range h.objs.size).filter fun a=>(H a).isSome
def JN(h:Heap)(H:Hp):Heap:=PySem.W.hideAll h (trk h H)
theorem za2(h:Heap)(H:Hp):(JN h H).objs.size=h.objs.size:=PySem.W.hideAll_size _ _
theorem zcL{h:Heap}{H:Hp}{b:Addr}{o:Obj}(e:h.get? b=some o)(n:H b=none):(JN h H).get? b=some o:=
 PySem.W.hideAll_get _ e fun c=>by
  have q:(H b).isSome=true:=(wm.mp c).2;rw[n] at q;simp at q
theorem zdZ{h:Heap}{H:Hp}{b:Addr}{o:Obj}(e:(JN h H).get? b=some o):h.get? b=some o/\H b=none:=by
 have c:h.get? b=some o:=PySem.W.of_hideAll (trk h H) e;refine⟨c,?_⟩
 cases q:H b with
 | none=>rfl
 | some x=>
  have g:b∈trk h H:=wm.mpr ⟨qC.mpr (zA c),by simp[q]⟩
  have z:(JN h H).get? b=none:=PySem.W.hideAll_none (trk h H) g;rw[z] at e;cases e
def zes(g h:Heap)(L:Addr):List (Addr×Obj):=(List.range h.objs.size).filterMap fun a=>if a=L\/(g.get? a).isSome=true then none else(h.get? a).map fun o=>(a,o)
def rest(g h:Heap)(L d:Addr):List (Addr×Obj):=(zes g h L).filter fun p=>decide (p.1≠d)
structure Mod(K:W.Frag)(mg:Str->Option Value)(base:Heap):Prop where
 kin:K.In base
 glob:base.Ns mainGlobals mg
 blt:∃mb,base.Ns builtinsNs mb/\∀x:Str,x ≠ "__name__" -> mb x=bootBuiltins x
 nolimit:base.NoLimit
structure Cx where
 prog:Program
 w:World
 K:PySem.W.Frag
 mg:Str->Option Value
 base:Heap
 A:Around
 N:List Str
 s₀:Shared
 H₀:Hp
 env:Env
 outer:List Env
 stack:List Env
 ex:List Addr
 fn:Str->Bool
 calm:Bool
 pn:List (Addr×Obj)
 xe:Value->Shared->Prop
def frs(l:List Env):List Addr:=l.filterMap (·.frame)
abbrev Cx.fs(X:Cx):List Addr:=frs X.outer
def Vis(c:Scope)(x:Str):Prop:=c.names.lookup x=some .local\/c.names.lookup x=some .cell\/c.names.lookup x=some .free
def Loc(c:Scope)(x:Str):Prop:=c.names.lookup x=some .local\/c.names.lookup x=some .cell
def zhW(g:Env)(h:Heap)(m:Str->Option Value)(x:Str)(u:Value):Prop:=
 (g.kindOf x=some .local/\m x=some u)\/((g.kindOf x=some .cell\/g.kindOf x=some .free)/\∃c,g.cells.lookup x=some c/\h.IsCell c (some u))
structure Cx.Ok(X:Cx):Prop where
 mod:Mod X.K X.mg X.base
 kind:X.env.scope.kind=.function
 glob:X.env.globals=mainGlobals
 blt:X.env.builtins=builtinsNs
 above:X.s₀.heap.objs.size<=X.env.locals
 inj:∀x y c,X.env.cells.lookup x=some c->X.env.cells.lookup y=some c->x=y
 has:∀x,(X.env.kindOf x=some .cell\/X.env.kindOf x=some .free)->∃c,X.env.cells.lookup x=some c
 cab:∀x c,X.fn x=true->X.env.cells.lookup x=some c->X.s₀.heap.objs.size<=c
 hd:X.calm=true->X.A.handled=none
 frames:X.A.frames=some X.stack
 stk:X.stack=X.outer\/(X.stack=X.env::X.outer/\X.env.frame=some X.env.locals)
 exf:∀b∈X.ex,b≠X.env.locals/\∀x c,X.env.cells.lookup x=some c->c≠b
 bs:∀b o,X.base.get? b=some o->X.s₀.heap.get? b=some o/\X.H₀ b=none
 bsz:X.base.objs.size<=X.s₀.heap.objs.size
 noex:∀b o,X.base.get? b=some o->b∉X.ex
 exfs:∀b∈X.ex,b∉X.fs
 funs:X.s₀.heap.FunFrames X.base X.outer
 frf:∀b∈X.fs,X.H₀ b=none
structure Inv(X:Cx)(pins:List (Addr×Obj))(σ:List (Option V))(H:Hp)(s:Shared):Prop where
 ok:X.Ok
 os:s.os=X.s₀.os
 bare:AllBare s.gens
 base:Un X.fs X.ex X.H₀ H X.s₀.heap s.heap
 loc:∃m,s.heap.Ns X.env.locals m/\∀(i:Nat) (x:Str) (v:V),X.N[i]? =some x->σ[i]? =some (some v)->Vis X.env.scope x->∃u,RelV v u/\zhW X.env s.heap m x u
 cell:∀x c,X.env.cells.lookup x=some c->∃v,s.heap.IsCell c v
 free:H X.env.locals=none
 freeC:∀x c,X.env.cells.lookup x=some c->H c=none
 pin:∀p∈X.pn++pins,s.heap.get? p.1=some p.2/\H p.1=none/\p.1≠X.env.locals/\p.1∉X.fs/\∀v,p.2.data≠.cell v
 hok:HOk X.prog X.w H s.heap
 len:σ.length=X.N.length
section
variable{X:Cx}{g:List (Addr×Obj)}{σ:List (Option V)}{H B:Hp}{s:Shared}{h':Heap}
theorem Cx.Ok.nofr(ok:X.Ok){b:Addr}{o:Obj}(e:X.base.get? b=some o):b∉X.fs:=fun hb=>by
 have:=(ok.funs.mem hb).1;rw[e] at this;cases this
theorem Inv.bs(I:Inv X g σ H s):∀b o,X.base.get? b=some o->s.heap.get? b=some o/\H b=none:=fun b o e=>
 ⟨I.base.keep b o (I.ok.bs b o e).1 (I.ok.bs b o e).2 (I.ok.nofr e) (I.ok.noex b o e),I.base.free b o (I.ok.bs b o e).1 (I.ok.bs b o e).2 (I.ok.noex b o e)⟩
theorem Inv.bk(I:Inv X g σ H s):∀b o,X.base.get? b=some o->s.heap.get? b=some o:=fun b o e=>(I.bs b o e).1
theorem Inv.mod(I:Inv X g σ H s):Mod X.K X.mg X.base:=I.ok.mod
theorem Inv.kIn(I:Inv X g σ H s):X.K.In s.heap:=I.ok.mod.kin.keeps I.bk
theorem Inv.nolimit(I:Inv X g σ H s):s.heap.NoLimit:=I.ok.mod.nolimit.keeps I.bk
theorem Inv.fr(I:Inv X g σ H s):∃m,Fr X.base X.env.locals s.heap m:=
 let ⟨m,c,_⟩:=I.loc
 ⟨m,c,I.bk,zX I.ok.bsz I.ok.above⟩
theorem Inv.lt(I:Inv X g σ H s):X.env.locals<s.heap.objs.size:=let ⟨_,c,_⟩:=I.loc;c.lt
theorem Inv.sz(I:Inv X g σ H s):X.s₀.heap.objs.size<=s.heap.objs.size:=zX I.ok.above (wT I.lt)
theorem Inv.nofs(I:Inv X g σ H s){a:Addr}(h:s.heap.objs.size<=a):a∉X.fs:=fun hb=>by
 obtain⟨_,o,c,_⟩:=I.ok.funs.mem hb;exact absurd (jt (zA c) (zX I.sz h)) (xh _)
theorem Inv.cne(I:Inv X g σ H s):∀x c,X.env.cells.lookup x=some c->c≠X.env.locals:=fun x c e z=>by
 obtain⟨v,o,u,t⟩:=I.cell x c e;obtain⟨m,⟨C,A,w,l,i,_⟩,_⟩:=I.loc;rw[z,l] at u;cases u;rw[i] at t;cases t
theorem Inv.funs(I:Inv X g σ H s):s.heap.FunFrames X.base X.outer:=by
 have all:∀(l:List Env),(∀b∈frs l,b∈X.fs)->X.s₀.heap.FunFrames X.base l->s.heap.FunFrames X.base l:=by
  intro l;induction l with
  | nil=>intro _ _;trivial
  | cons u r G=>
   intro t A;obtain⟨hk,⟨L,o,i,C,D,w⟩,E⟩:=A;have c:L∈X.fs:=t L (by unfold frs;rw[Xp,i];exact jU)
   obtain⟨J,e⟩:=I.base.slot L o D (I.ok.frf L c) c fun z=>I.ok.exfs L z c
   exact⟨hk,⟨L,_,i,C,e,w⟩,G (fun b hb=>t b (by unfold frs;rw[Xp,i];exact qw _ hb)) E⟩
 exact all X.outer (fun _ hb=>hb) I.ok.funs
theorem Inv.stack(I:Inv X g σ H s):s.heap.FunFrames X.base X.stack:=by
 rcases I.ok.stk with e | ⟨e,c⟩
 ·rw[e];exact I.funs
 ·rw[e]
  obtain⟨m,i,_⟩:=I.loc;refine .cons (by rw[I.ok.kind];decide) c i ?_ I.funs
  exact Heap.get?_none_of_le (zX I.ok.bsz I.ok.above)
theorem Inv.stkSub(I:Inv X g σ H s):∀b∈frs X.stack,b∈X.env.locals::X.fs:=fun b hb=>by
 rcases I.ok.stk with e | ⟨e,c⟩
 ·rw[e] at hb;exact qw _ hb
 ·rw[e] at hb
  unfold frs at hb;rw[Xp,c] at hb;exact hb
theorem Inv.stkFree(I:Inv X g σ H s):∀b∈frs X.stack,H b=none:=fun b hb=>by
 rcases zQ.mp (I.stkSub b hb) with e | hb
 ·rw[e];exact I.free
 ·obtain⟨_,o,c,_⟩:=I.ok.funs.mem hb
  exact I.base.free b o c (I.ok.frf b hb) fun z=>I.ok.exfs b z hb
theorem Inv.step{g':Array GenState}{t':Nat}{d':Drawn}{ch:List Addr}(I:Inv X g σ H s)
  (A:∀b∈ch,(b∈X.ex\/X.s₀.heap.objs.size<=b)/\b≠X.env.locals/\(∀x c,X.env.cells.lookup x=some c->c≠b)/\∀p∈X.pn++g,p.1≠b)
  (C:∀b o,b≠X.env.locals->b∉X.fs->b∉ch->s.heap.get? b=some o->H b=none->h'.get? b=some o)
  (G:∀b o,b≠X.env.locals->b∈X.fs->b∉ch->s.heap.get? b=some o->H b=none->∃sl,h'.get? b=some { o with slots:=sl }) (t:∀b o,b∉ch->s.heap.get? b=some o->H b=none->B b=none)
  (L:∀b o,b∉ch->s.heap.get? b=some o->∃Q,h'.get? b=some Q)
  (Y:∀b J,H b=some (.tup J)->B b=some (.tup J)) (N:∀b o u,H b=some (.frz o u)->B b=some (.frz o u)) (U:∀b ps,H b=some (.tbl ps)->∃more,B b=some (.tbl (ps++more)))
  (ns:∀m,s.heap.Ns X.env.locals m->h'.Ns X.env.locals m) (a0:HOk X.prog X.w B h') (hg:AllBare g') :
  Inv X g σ B { s with heap:=h',gens:=g',drawn:=d',toks:=t' }:=by
 have O:∀b o,X.s₀.heap.get? b=some o->b≠X.env.locals:=fun b o e=>zS (jt (zA e) I.ok.above)
 have E:∀b o,X.s₀.heap.get? b=some o->b∉X.ex->b∉ch:=fun b o e hx hb=>by
  rcases(A b hb).1 with z | z
  ·exact hx z
  ·exact absurd (jt (zA e) z) (xh _)
 have w:∀x c,X.env.cells.lookup x=some c->∀v,s.heap.IsCell c v->h'.IsCell c v:=fun x c e v ⟨o,M,hd⟩=>by
  have D:c∉ch:=fun z=>(A c z).2.2.1 x c e rfl
  by_cases hc:c∈X.fs
  ·obtain⟨sl,q⟩:=G c o (I.cne x c e) hc D M (I.freeC x c e)
   exact⟨_,q,hd⟩
  ·exact⟨o,C c o (I.cne x c e) hc D M (I.freeC x c e),hd⟩
 refine⟨I.ok,I.os,hg,⟨fun b o e n hb hx=>?_,fun b o e n hb hx=>?_,fun b o e n hx=>?_,fun b o e hx=>?_,fun b J e=>Y b J (I.base.tups b J e),fun b o J e=>N b o J (I.base.frzs b o J e),fun b ps e=>?_⟩,?_,fun x c e=>?_,?_,fun x c e=>?_,fun p hp=>?_,a0,I.len⟩
 ·exact C b o (O b o e) hb (E b o e hx) (I.base.keep b o e n hb hx) (I.base.free b o e n hx)
 ·obtain⟨sl,e1⟩:=I.base.slot b o e n hb hx
  obtain⟨aa,e2⟩:=G b _ (O b o e) hb (E b o e hx) e1 (I.base.free b o e n hx);exact⟨aa,e2⟩
 ·obtain⟨Q,e1⟩:=I.base.there b o e hx
  exact t b Q (E b o e hx) e1 (I.base.free b o e n hx)
 ·obtain⟨Q,e1⟩:=I.base.there b o e hx
  exact L b Q (E b o e hx) e1
 ·obtain⟨m1,e1⟩:=I.base.tbls b ps e
  obtain⟨m2,e2⟩:=U b _ e1;exact⟨m1++m2,by rw[e2,Array.append_assoc]⟩
 ·obtain⟨m,hn,hl⟩:=I.loc
  refine⟨m,ns m hn,fun i x v e1 e2 e3=>?_⟩
  obtain⟨u,r,l⟩:=hl i x v e1 e2 e3;refine⟨u,r,?_⟩
  rcases l with l | ⟨k,c,e,z⟩
  ·exact .inl l
  ·exact .inr ⟨k,c,e,w x c e _ z⟩
 ·obtain⟨v,z⟩:=I.cell x c e
  exact⟨v,w x c e v z⟩
 ·obtain⟨m,⟨o,_,_,M,_⟩,_⟩:=I.loc
  exact t _ o (fun z=>(A _ z).2.1 rfl) M I.free
 ·obtain⟨v,o,M,hd⟩:=I.cell x c e
  exact t c o (fun z=>(A c z).2.2.1 x c e rfl) M (I.freeC x c e)
 ·obtain⟨e,n,ne,nf,d⟩:=I.pin p hp
  have D:p.1∉ch:=fun z=>(A p.1 z).2.2.2 p hp rfl
  exact⟨C p.1 p.2 ne nf D e n,t p.1 p.2 D e n,ne,nf,d⟩
theorem Inv.un{t':Nat}(I:Inv X g σ H s)(u:Un X.fs [] H B s.heap h')(t:HOk X.prog X.w B h'):Inv X g σ B { s with heap:=h',toks:=t' }:=by
 obtain⟨m,⟨o,L,J,w,r⟩,_⟩:=id I.loc;obtain⟨Q,A⟩:=u.any w I.free (by simp)
 exact I.step (g':=s.gens) (d':=s.drawn) (ch:=[]) (fun _ z=>nomatch z) (fun b o _ hb _ e n=>u.keep b o e n hb (by simp)) (fun b o _ hb _ e n=>u.slot b o e n hb (by simp)) (fun b o _ e n=>u.free b o e n (by simp)) (fun b o _ e=>u.there b o e (by simp)) u.tups u.frzs u.tbls (fun N C=>by
  obtain⟨O,l,i,c,D⟩:=C;rw[w] at c;cases c
  exact⟨_,l,i,A,D⟩) t I.bare
theorem Inv.call{g':Array GenState}{t':Nat}{d':Drawn}{ch:List Addr}(I:Inv X g σ H s)(u:Un (frs X.stack) ch H B s.heap h')(C:HOk X.prog X.w B h')(E:AllBare g')
  (i:∀b∈ch,(b∈X.ex\/X.s₀.heap.objs.size<=b)/\b≠X.env.locals/\(∀x c,X.env.cells.lookup x=some c->c≠b)/\∀p∈X.pn++g,p.1≠b) :
  Inv X g σ B { s with heap:=h',gens:=g',drawn:=d',toks:=t' }:=by
 obtain⟨m,⟨o,M,L,D,r⟩,_⟩:=id I.loc;obtain⟨Q,A⟩:=u.any D I.free fun z=>(i _ z).2.1 rfl
 exact I.step (ch:=ch) i (fun b o A hb hc e n=>u.keep b o e n (fun z=>(zQ.mp (I.stkSub b z)).elim A hb) hc) (fun b o _ _ hc e n=>u.any e n hc) (fun b o hc e n=>u.free b o e n hc) (fun b o hc e=>u.there b o e hc) u.tups u.frzs u.tbls (fun N G=>by
  obtain⟨O,w,t,l,J⟩:=G;rw[D] at l;cases l
  exact⟨_,w,t,A,J⟩) C E
theorem Inv.turned{t':Nat}{it:Addr}(I:Inv X g σ H s)(k:∀b o,b≠it->s.heap.get? b=some o->h'.get? b=some o)(G:H it=none)(l:it≠X.env.locals)
  (A:it∈X.ex\/X.s₀.heap.objs.size<=it) (C:∀x c,X.env.cells.lookup x=some c->c≠it) (D:∀p∈X.pn++g,p.1≠it):Inv X g σ H { s with heap:=h',toks:=t' }:=by
 have i:∀b u,H b=some u->b≠it:=fun b u e z=>by rw[z,G] at e;cases e
 refine I.step (g':=s.gens) (d':=s.drawn) (ch:=[it]) (fun b hb=>?_) (fun b o _ _ hc e _=>k b o (fun z=>hc (by simp[z])) e) (fun b o _ _ hc e _=>⟨o.slots,k b o (fun z=>hc (by simp[z])) e⟩) (fun _ _ _ _ n=>n)
  (fun b o hc e=>⟨o,k b o (fun z=>hc (by simp[z])) e⟩) (fun _ _ e=>e) (fun _ _ _ e=>e) (fun b O e=>⟨#[],by rw[e];simp⟩) (fun m E=>?_) (fun b u e=>?_) I.bare
 ·have e:b=it:=by simpa using hb
  subst e;exact⟨A,l,C,D⟩
 ·obtain⟨o,w,t,J,r⟩:=E
  exact⟨o,w,t,k _ o (zN l) J,r⟩
 ·refine(I.hok b u e).stay (fun c v hc q=>k c v ?_ q) (fun _ q=>q) fun _ _ q=>q
  rcases hc with z | z
  ·rw[z];exact i b u e
  ·exact i c _ z
theorem Inv.tok(I:Inv X g σ H s)(t:Nat):Inv X g σ H { s with toks:=t }:=I.un (h':=s.heap) (t':=t) Un.refl I.hok
theorem Inv.kept{t':Nat}(I:Inv X g σ H s)(k:∀b u,s.heap.get? b=some u->h'.get? b=some u):Inv X g σ H { s with heap:=h',toks:=t' }:=I.un (Un.kept k) (I.hok.kept k)
theorem Inv.laid{a:Addr}{o:HO}{t':Nat}(I:Inv X g σ H s)(k:∀b u,s.heap.get? b=some u->h'.get? b=some u)(c:s.heap.objs.size<=a)(i:ObjOk X.prog X.w (upd H a o) h' a o) :
  Inv X g σ (upd H a o) { s with heap:=h',toks:=t' }:=I.un (Un.laid k c (I.hok.fresh c)) (I.hok.laid k c i)
theorem Inv.write{x e:Addr}{o:HO}{w:Nat}(I:Inv X g σ H s)(t:Mut (H x))(l:e=x\/H e=some (.own x))(k:∀b u,b≠e->s.heap.get? b=some u->h'.get? b=some u)(c:∃u,h'.get? e=some u)
  (i:ObjOk X.prog X.w (upd H x o) h' x o):Inv X g σ (upd H x o) { s with heap:=h',toks:=w }:=I.un (Un.write t l k c) (I.hok.write t l k c i)
theorem Inv.weak{l:List (Option V)}(I:Inv X g σ H s)(t:l.length=σ.length)(w:∀(i:Nat) v,l[i]? =some (some v)->σ[i]? =some (some v)):Inv X g l H s:=
 ⟨I.ok,I.os,I.bare,I.base,let ⟨m,u,c⟩:=I.loc;⟨m,u,fun i x v e1 e2 o=>c i x v e1 (w i v e2) o⟩,I.cell,I.free,I.freeC,I.pin,I.hok,t.trans I.len⟩
theorem Inv.pins_of{c:List (Addr×Obj)}(I:Inv X g σ H s)(h:∀p∈c,s.heap.get? p.1=some p.2/\H p.1=none/\p.1≠X.env.locals/\p.1∉X.fs/\∀v,p.2.data≠.cell v):Inv X c σ H s:=
 ⟨I.ok,I.os,I.bare,I.base,I.loc,I.cell,I.free,I.freeC,fun p i=>(qO.mp i).elim (fun z=>I.pin p (vz _ z)) (h p),I.hok,I.len⟩
theorem Vh{N:List Str}(c:N.Nodup){i j:Nat}{x:Str}(a:N[i]? =some x)(b:N[j]? =some x):i=j:=by
 obtain⟨l,e1⟩:=zK.mp a;obtain⟨o,e2⟩:=zK.mp b;exact(WA c).mp (e1.trans e2.symm)
theorem zay{M:Model}{A:Around}{E:Value->Shared->Prop}{i:Nat}{x:Str}{v:V}{u:Value}{Q:Unit->Shared->Prop}(I:Inv X g σ H s)(hN:X.N.Nodup)(O:X.N[i]? =some x)(hx:Loc X.env.scope x)(r:RelV v u)
  (h:∀s',Inv X g (σ.set i (some v)) H s'->(∃a,Heap.SameBut a s.heap s'.heap/\(a=X.env.locals\/X.env.cells.lookup x=some a))->Q () s') (hf:X.fn x=true\/X.env.scope.names.lookup x=some .local:=by first| exact .inl rfl | exact .inr rfl | assumption):wpAny M A (storeName X.env x u) Q E s:=by
 obtain⟨m,hn,hl⟩:=id I.loc;have N:(X.env.scope.kind==.class||(X.env.scope.kind==.module&&X.env.locals != X.env.globals))=false:=by rw[I.ok.kind];rfl
 have U:i<σ.length:=by rw[I.len];exact(zK.mp O).1
 have C:=I.cne;have t:∀{a:Addr} {h':Heap},(∃o,s.heap.get? a=some o/\H a=none)->Heap.SameBut a s.heap h'->HOk X.prog X.w H h':=fun {a h'} ha l b ob e=>by
  obtain⟨_,_,w⟩:=ha;refine(I.hok b ob e).stay (fun c w' hc q=>(l.2 c ?_).trans q) (fun _ q=>q) fun _ _ q=>q
  rintro rfl;rcases hc with rfl | hc
  ·rw[w] at e;cases e
  ·rw[w] at hc;cases hc
 rcases hx with hk | hk
 ·refine wpAny_storeName_local hk hn (fun h' aa l=>?_) N
  obtain⟨oL,_,_,ab,_⟩:=id hn;refine h _ ⟨I.ok,I.os,I.bare,⟨fun b o e n hb hx=>?_,fun b o e n hb hx=>?_,I.base.free,fun b o e hx=>?_,I.base.tups,I.base.frzs,I.base.tbls⟩,⟨_,aa,fun j y v' e1 e2 e3=>?_⟩,fun y c e=>?_,I.free,I.freeC,fun p hp=>?_,t ⟨oL,ab,I.free⟩ l,by simpa using I.len⟩ ⟨_,l,.inl rfl⟩
  ·exact(l.2 b (zS (jt (zA e) I.ok.above))).trans (I.base.keep b o e n hb hx)
  ·obtain⟨sl,e1⟩:=I.base.slot b o e n hb hx
   exact⟨sl,(l.2 b (zS (jt (zA e) I.ok.above))).trans e1⟩
  ·obtain⟨o',e1⟩:=I.base.there b o e hx
   exact⟨o',(l.2 b (zS (jt (zA e) I.ok.above))).trans e1⟩
  ·by_cases G:j=i
   ·subst G
    rw[O] at e1;cases e1
    rw[Xz U] at e2;cases e2;exact⟨u,r,.inl ⟨hk,by simp⟩⟩
   ·rw[Xq (zN G)] at e2
    obtain⟨u',r',q⟩:=hl j y v' e1 e2 e3;refine⟨u',r',?_⟩
    rcases q with ⟨k,e⟩ | ⟨k,c,e,z⟩
    ·refine .inl ⟨k,?_⟩
     have:y≠x:=fun e=>G (Vh hN e1 (e▸O))
     simp[this,e]
    ·exact .inr ⟨k,c,e,z.sameBut l (C y c e)⟩
  ·obtain⟨w',z⟩:=I.cell y c e
   exact⟨w',z.sameBut l (C y c e)⟩
  ·obtain⟨e,n,ne,nf,d⟩:=I.pin p hp
   exact⟨(l.2 p.1 ne).trans e,n,ne,nf,d⟩
 ·have D:X.fn x=true:=by
   rcases hf with z | z
   ·exact z
   ·rw[z] at hk;cases hk
  obtain⟨c,hc⟩:=I.ok.has x (.inl hk);obtain⟨w',z⟩:=I.cell x c hc;refine wpAny_storeName_cell I.ok.kind hk hc z (fun h' J l=>?_)
  obtain⟨oc,Y,a0⟩:=id z;refine h { s with heap:=h' } ⟨I.ok,I.os,I.bare,⟨fun b o e n hb hx=>?_,fun b o e n hb hx=>?_,I.base.free,fun b o e hx=>?_,I.base.tups,I.base.frzs,I.base.tbls⟩,⟨m,hn.sameBut l (zN (C x c hc)),fun j y v' e1 e2 e3=>?_⟩,fun y c' e=>?_,I.free,I.freeC,fun p hp=>?_,t ⟨oc,Y,I.freeC x c hc⟩ l,by simpa using I.len⟩ ⟨c,l,.inr hc⟩
  ·exact(l.2 b (zS (jt (zA e) (I.ok.cab x c D hc)))).trans (I.base.keep b o e n hb hx)
  ·obtain⟨sl,e1⟩:=I.base.slot b o e n hb hx
   exact⟨sl,(l.2 b (zS (jt (zA e) (I.ok.cab x c D hc)))).trans e1⟩
  ·obtain⟨o',e1⟩:=I.base.there b o e hx
   exact⟨o',(l.2 b (zS (jt (zA e) (I.ok.cab x c D hc)))).trans e1⟩
  ·by_cases G:j=i
   ·subst G
    rw[O] at e1;cases e1
    rw[Xz U] at e2;cases e2;exact⟨u,r,.inr ⟨.inl hk,c,hc,J⟩⟩
   ·rw[Xq (zN G)] at e2
    obtain⟨u',r',q⟩:=hl j y v' e1 e2 e3;refine⟨u',r',?_⟩
    rcases q with q | ⟨k,c',e,z'⟩
    ·exact .inl q
    ·refine .inr ⟨k,c',e,z'.sameBut l ?_⟩
     rintro rfl;exact G (Vh hN e1 (I.ok.inj _ _ _ e hc▸O))
  ·by_cases L:c'=c
   ·subst L;exact⟨_,J⟩
   ·obtain⟨w2,z2⟩:=I.cell y c' e
    exact⟨w2,z2.sameBut l L⟩
  ·obtain⟨e,n,ne,nf,d⟩:=I.pin p hp
   refine⟨(l.2 p.1 ?_).trans e,n,ne,nf,d⟩
   intro q;rw[q,Y] at e;have q':oc=p.2:=jq e;exact d w' (by rw[<- q'];exact a0)
theorem yf{M:Model}{A:Around}{E:Value->Shared->Prop}{i:Nat}{x:Str}{v:V}{u:Value}{Q:Unit->Shared->Prop}(I:Inv X g σ H s)(o:X.N.Nodup)(w:X.N[i]? =some x)(hx:Loc X.env.scope x)(r:RelV v u)
  (h:∀c,Inv X g (σ.set i (some v)) H c->Q () c) (t:X.fn x=true\/X.env.scope.names.lookup x=some .local:=by first| exact .inl rfl | exact .inr rfl | assumption):wpAny M A (storeName X.env x u) Q E s:=
 zay I o w hx r (fun c l _=>h c l) t
theorem Inv.call'{s':Shared}{ch:List Addr}(I:Inv X g σ H s)(C:s'.os=s.os)(u:Un (frs X.stack) ch H B s.heap s'.heap)(l:HOk X.prog X.w B s'.heap)(A:AllBare s'.gens)
  (i:∀b∈ch,(b∈X.ex\/X.s₀.heap.objs.size<=b)/\b≠X.env.locals/\(∀x c,X.env.cells.lookup x=some c->c≠b)/\∀p∈X.pn++g,p.1≠b):Inv X g σ B s':=by
 obtain⟨h',t,o,w,D⟩:=s';have e:D=s.os:=C;subst e;exact I.call (g':=t) (t':=w) (d':=o) u l A i
end
abbrev XK:=Value->Option Addr->Hp->Prop
abbrev St:=List (Option V)
abbrev VK:=V->Hp->Prop
abbrev TE:=St->Hp->VK->Prop
abbrev TT:=St->Hp->(Bool->Hp->Prop)->Prop
abbrev TA:=St->Hp->(List V->Hp->Prop)->Prop
structure XG where
 nx:St->Hp->Prop
 rt:VK
 bk:St->Hp->Prop:=fun _ _=>False
 ct:St->Hp->Prop:=fun _ _=>False
abbrev TS:=XG->St->Hp->Prop
def EP(X:Cx)(c:List (Addr×Obj))(σ:St)(Q:VK)(u:Value)(i:Shared):Prop:=∃v g,Inv X c σ g i/\RelV v u/\Q v g
def TP(X:Cx)(c:List (Addr×Obj))(σ:St)(Q:Bool->Hp->Prop)(b:Bool)(i:Shared):Prop:=∃g,Inv X c σ g i/\Q b g
def AP(X:Cx)(c:List (Addr×Obj))(σ:St)(Q:List V->Hp->Prop)(o:List Value)(l:Shared):Prop:=∃i g,Inv X c σ g l/\Vals i o/\Q i g
def SP(X:Cx)(c:List (Addr×Obj))(D:XG)(f:Flow)(l:Shared):Prop:=
 match f with
 | .next=>∃i g,Inv X c i g l/\D.nx i g
 | .brk=>∃i g,Inv X c i g l/\D.bk i g
 | .cont=>∃i g,Inv X c i g l/\D.ct i g
 | .ret u=>∃v i g,Inv X c i g l/\RelV v u/\D.rt v g
def PE(X:Cx)(e:Expr)(t:TE):Prop:=
 ∀(c:List (Addr×Obj)) (s:Shared) (σ:St) (H:Hp) (Q:VK),Inv X c σ H s->t σ H Q->wpAny (model X.prog X.w) X.A (eval e X.env) (EP X c σ Q) X.xe s
def PT(X:Cx)(e:Expr)(t:TT):Prop:=
 ∀(c:List (Addr×Obj)) (s:Shared) (σ:St) (H:Hp) (Q:Bool->Hp->Prop),Inv X c σ H s->t σ H Q->wpAny (model X.prog X.w) X.A (isTrue e X.env (eval e X.env)) (TP X c σ Q) X.xe s
def PW(X:Cx)(e:Expr)(t:TT):Prop:=
 ∀(g:Sem Value) (c:List (Addr×Obj)) (s:Shared) (σ:St) (H:Hp) (Q:Bool->Hp->Prop),Inv X c σ H s->t σ H Q->wpAny (model X.prog X.w) X.A (isTrue e X.env g) (TP X c σ Q) X.xe s
theorem PW.pt{X:Cx}{e:Expr}{t:TT}(h:PW X e t):PT X e t:=h _
def PA(X:Cx)(i:List Expr)(t:TA):Prop:=
 ∀(g:Pos) (c:List (Addr×Obj)) (s:Shared) (σ:St) (H:Hp) (Q:List V->Hp->Prop),Inv X c σ H s->t σ H Q->wpAny (model X.prog X.w) X.A (spliced (backTo g (starEach i X.env))) (AP X c σ Q) X.xe s
def PS(X:Cx)(st:Stmt)(t:TS):Prop:=
 ∀(c:List (Addr×Obj)) (s:Shared) (σ:St) (H:Hp) (D:XG),Inv X c σ H s->t D σ H->wpAny (model X.prog X.w) X.A (exec st X.env) (SP X c D) X.xe s
def PSs(X:Cx)(st:List Stmt)(t:TS):Prop:=
 ∀(c:List (Addr×Obj)) (s:Shared) (σ:St) (H:Hp) (D:XG),Inv X c σ H s->t D σ H->wpAny (model X.prog X.w) X.A (execs st X.env) (SP X c D) X.xe s
theorem thn{α:Type}{t:Sem α}{Q c:α->Shared->Prop}{M:Model}{A:Around}{E:Value->Shared->Prop}{s:Shared}(h:wpAny M A t Q E s)(g:∀a s,Q a s->c a s):wpAny M A t c E s:=qN h g fun _ _ x=>x
section
variable{X:Cx}
inductive IsB(x:V)(H:Hp)(Q:Bool->Hp->Prop):Prop
 | mk (c:Bool) (h:x=.bl c) (q:Q c H):IsB x H Q
inductive IsI(x:V)(H:Hp)(Q:Int->Hp->Prop):Prop
 | mk (i:Int) (h:x=.int i) (q:Q i H):IsI x H Q
inductive zhv(c:List V)(H:Hp)(Q:V->V->Hp->Prop):Prop
 | mk (v w:V) (h:c=[v,w]) (q:Q v w H):zhv c H Q
inductive zfi(i:Nat)(σ:St)(H:Hp)(Q:VK):Prop
 | mk (v:_) (_:σ[i]? =some (some v)) (_:Q v H):zfi i σ H Q
def tC(v:V):TE:=fun _ H Q=>Q v H
theorem zfC{i:Nat}{x:Str}{g:Pos}(J:X.N[i]? =some x)(hv:Vis X.env.scope x)(G:(x==("__debug__":Str))=false:=by decide)(E:(x==("__classdict__":Str))=false:=by decide):PE X (.Name x g) (zfi i):=by
 intro D s σ H Q I h;obtain⟨v,e,h⟩:=h;obtain⟨m,N,L⟩:=I.loc;obtain⟨u,r,l⟩:=L i x v J e hv;have w:EP X D σ Q u s:=⟨v,H,I,r,h⟩;rcases l with ⟨hk,M⟩ | ⟨hk,c,hc,t⟩
 ·exact wpAny_Name (wpAny_loadName_local I.ok.kind hk N M w) G
 ·rcases hk with hk | hk
  ·exact wpAny_Name (wpAny_loadName_cell I.ok.kind hk hc t w) G
  ·exact wpAny_Name (wpAny_loadName_free I.ok.kind hk hc t w E) G
theorem zi{i j g}:PE X (.Constant (.int i) j g) (tC (.int i)):=fun _ _ _ H _ I h=>wpAny_Constant_int ⟨.int i,H,I.tok _,⟨_,rfl⟩,h⟩
theorem ji{b j g}:PE X (.Constant (.bool b) j g) (tC (.bl b)):=fun _ _ _ H _ I h=>Constant_bool ⟨.bl b,H,I,rfl,h⟩
theorem xB{j g}:PE X (.Constant .none j g) (tC .non):=fun _ _ _ H _ I h=>Constant_none ⟨.non,H,I,rfl,h⟩
theorem zcc{x j g}:PE X (.Constant (.str x) j g) (tC (.str x)):=fun _ _ _ H _ I h=>Calls.Constant_str ⟨.str x,H,I.tok _,⟨_,rfl⟩,h⟩
def Gl(X:Cx)(x:Str):Prop:=X.env.kindOf x=some .globalImplicit
theorem YX{E:Value->Shared->Prop}{c:List (Addr×Obj)}{s:Shared}{σ:St}{H:Hp}{x:Str}{u:Value}{g:Pos}{Q:Value->Shared->Prop}(I:Inv X c σ H s)(l:Gl X x)(t:X.mg x=some u)(h:Q u s)
  (i:(x==("__debug__":Str))=false:=by decide):wpAny (model X.prog X.w) X.A (eval (.Name x g) X.env) Q E s:=
 zde I.ok.kind l (Calls.loadGlobal_global (by rw[I.ok.glob];exact I.mod.glob.keeps I.bk) t h) i
theorem xE{E:Value->Shared->Prop}{c:List (Addr×Obj)}{s:Shared}{σ:St}{H:Hp}{x:Str}{u:Value}{g:Pos}{Q:Value->Shared->Prop}(I:Inv X c σ H s)(w:Gl X x)(D:X.mg x=none)(hv:bootBuiltins x=some u)(h:Q u s)
  (G:x ≠ "__name__" :=by decide) (t:(x==("__debug__":Str))=false:=by decide):wpAny (model X.prog X.w) X.A (eval (.Name x g) X.env) Q E s:=by
 obtain⟨J,i,l⟩:=I.mod.blt;exact zde I.ok.kind w (Calls.loadGlobal_builtin (by rw[I.ok.glob];exact I.mod.glob.keeps I.bk) D (by rw[I.ok.blt];exact i.keeps I.bk) ((l x G).trans hv) h) t
theorem xJ{x:Str}{v:V}{u:Value}{g:Pos}(i:Gl X x)(l:X.mg x=some u)(r:RelV v u)(c:(x==("__debug__":Str))=false:=by decide):PE X (.Name x g) (tC v):=
 fun _ _ _ H _ I h=>YX I i l ⟨v,H,I,r,h⟩ c
theorem xK{x:Str}{v:V}{u:Value}{g:Pos}(i:Gl X x)(l:X.mg x=none)(hv:bootBuiltins x=some u)(r:RelV v u)(s:x ≠ "__name__" :=by decide)(c:(x==("__debug__":Str))=false:=by decide):PE X (.Name x g) (tC v):=
 fun _ _ _ H _ I h=>xE I i l hv ⟨v,H,I,r,h⟩ s c
variable{a b:Expr}{A C:TE}{g:Pos}
def PC(X:Cx)(i:CmpOp)(a b:Expr)(t:TE):Prop:=
 ∀(c:List (Addr×Obj)) (s:Shared) (σ:St) (H:Hp) (Q:VK),Inv X c σ H s->t σ H Q ->
  wpAny (model X.prog X.w) X.A (eval a X.env) (fun v l=>wpAny (model X.prog X.w) X.A (eval b X.env) (fun u w=>wpAny (model X.prog X.w) X.A (compareOp i v u) (EP X c σ Q) X.xe w) X.xe l) X.xe s
theorem zcv(b:Expr){c:CmpOp}(h:c≠.In)(i:c≠.NotIn):behindInMarks c b=false:=by
 have e1:(c==CmpOp.In)=false:=by cases c<;>first| rfl | exact absurd rfl h
 have e2:(c==CmpOp.NotIn)=false:=by cases c<;>first| rfl | exact absurd rfl i
 cases b<;>simp[behindInMarks,e1,e2]
def tB(t:TE):TT:=fun σ H Q=>t σ H fun x c=>IsB x c Q
theorem zb5{w:CmpOp}{t:TE}(h:PC X w a b t)(l:behindInMarks w b=false:=by first| exact zcv _ (by decide) (by decide) | rfl):PT X (.Compare a [w] [b] g) (tB t):=by
 intro i s σ H Q I J;refine wpAny_isTrue_Compare1 (thn (h i s σ H _ I J) fun v s1 l=>thn l fun u s2 G=>thn G fun c N ⟨x,D,E,M,L⟩=>?_) l
 obtain⟨d,rfl,q⟩:=L;cases M;exact wI ⟨D,E,q⟩
theorem qS{e:Expr}{t:TE}(h:PE X e t)(w:∀c,isTrue e X.env c=(do let v<-c;standAt e.pos;holding [v] (truthy v)):=by intro _;rfl):PT X e (tB t):=by
 intro i s σ H Q I D;refine isTrue_plain (thn (h i s σ H _ I D) fun v s1 ⟨x,l,u,G,E⟩=>?_) (w _)
 obtain⟨d,rfl,q⟩:=E;cases G;exact wI ⟨l,u,q⟩
variable{o B:TT}{rest:List Expr}
def zhK(t u:TT):TT:=fun σ H Q=>t σ H fun c i=>if c=true then u σ i Q else Q false i
def tOr(t u:TT):TT:=fun σ H Q=>t σ H fun c i=>if c=true then Q true i else u σ i Q
def zhD(t:TT):TT:=fun σ H Q=>t σ H fun c i=>Q (!c) i
theorem zdH(l:PT X a o):PW X (.BoolOp .And [a] g) o:=by
 intro t i s σ H Q I h;refine isTrue_and (thn (l i s σ H Q I h) fun c s1 e=>?_)
 cases c with
 | true=>exact isTrue_and_nil e
 | false=>exact e
theorem xS(l:PT X a o):PW X (.BoolOp .Or [a] g) o:=by
 intro t i s σ H Q I h;refine isTrue_or (thn (l i s σ H Q I h) fun c s1 e=>?_)
 cases c with
 | false=>exact isTrue_or_nil e
 | true=>exact e
theorem zfu(w:PT X a o)(hb:PW X (.BoolOp .And (b::rest) g) B):PW X (.BoolOp .And (a::b::rest) g) (zhK o B):=by
 intro D i s σ H Q I h;refine isTrue_and (thn (w i s σ H _ I h) fun c s1 ⟨l,t,u⟩=>?_)
 cases c with
 | true=>exact hb D i s1 σ l Q t u
 | false=>exact⟨l,t,u⟩
theorem vw(w:PT X a o)(hb:PW X (.BoolOp .Or (b::rest) g) B):PW X (.BoolOp .Or (a::b::rest) g) (tOr o B):=by
 intro D i s σ H Q I h;refine isTrue_or (thn (w i s σ H _ I h) fun c s1 ⟨l,t,u⟩=>?_)
 cases c with
 | true=>exact⟨l,t,u⟩
 | false=>exact hb D i s1 σ l Q t u
theorem qX(t:PT X a o):PT X (.UnaryOp .Not a g) (zhD o):=by
 intro i s σ H Q I h;exact isTrue_not (t i s σ H (fun c l=>Q (!c) l) I h)
def zgw(A C:TE):TE:=fun σ H Q=>A σ H fun x i=>IsB x i fun c i=>if c=true then C σ i Q else Q (.bl false) i
def zgq(A:TE):TE:=fun σ H Q=>A σ H fun x i=>IsB x i fun c i=>Q (.bl (!c)) i
theorem xU{l}{t:TE}(h:PE X a t):PE X (.BoolOp l [a] g) t:=fun c s σ H Q I i=>BoolOp_one (h c s σ H Q I i)
theorem xC(w:PE X a A)(hb:PE X (.BoolOp .And (b::rest) g) C):PE X (.BoolOp .And (a::b::rest) g) (zgw A C):=by
 intro i s σ H Q I h;refine BoolOp_and (thn (w i s σ H _ I h) fun v s1 ⟨x,t,u,D,l⟩=>?_)
 obtain⟨c,rfl,l⟩:=l;cases D;refine wI ?_
 cases c with
 | true=>exact hb i s1 σ t Q u l
 | false=>exact⟨.bl false,t,u,rfl,l⟩
theorem zfE(w:PE X a A):PE X (.UnaryOp .Not a g) (zgq A):=by
 intro i s σ H Q I h;refine UnaryOp_ (thn (w i s σ H _ I h) fun v s1 ⟨x,t,u,D,l⟩=>?_)
 obtain⟨c,rfl,l⟩:=l;cases D;exact not_of (wI ⟨.bl (!c),t,u,rfl,l⟩)
def tIf(t:TT)(A C:TE):TE:=fun σ H Q=>t σ H fun c i=>if c=true then A σ i Q else C σ i Q
theorem vI{c:Expr}(hc:PT X c o)(w:PE X a A)(hb:PE X b C):PE X (.IfExp c a b g) (tIf o A C):=by
 intro i s σ H Q I h;refine wpAny_IfExp (thn (hc i s σ H _ I h) fun d s1 ⟨l,t,u⟩=>?_)
 cases d with
 | true=>exact w i s1 σ l Q t u
 | false=>exact hb i s1 σ l Q t u
end
def SqL(K:W.Frag)(H:Hp)(a:Addr)(g:List V):Prop:=
 Rd H a (.lst g) \/
  ∃(o:Obj) (c:Array Value) (n:Nat),K.lookup a=some o/\o.cls=.type "list" /\ o.dict=none/\o.data=.seq c n/\c.size<=sizeLine/\Vals g c.toList
def SqT(K:W.Frag)(H:Hp)(a:Addr)(g:List V):Prop:=
 Rd H a (.tup g) \/
  ∃(o:Obj) (c:Array Value) (n:Nat),K.lookup a=some o/\o.cls=.type "tuple" /\ o.data=.seq c n/\c.size<=sizeLine/\Vals g c.toList
def zhU:Value->Option V
 | .none=>some .non
 | .bool b=>some (.bl b)
 | .int i _=>some (.int i)
 | .str x _=>some (.str x)
 | .bytes b _=>some (.byt b)
 | .float b _=>some (.flt b)
 | .ref a=>some (.ref a)
 | .type n=>some (.ty n)
 | _=>none
theorem RelV.abs{x:V}{u:Value}(r:RelV x u):zhU u=some x:=by
 cases x with
 | non=>cases r;rfl
 | bl _=>cases r;rfl
 | int _=>obtain⟨t,rfl⟩:=r;rfl
 | str _=>obtain⟨t,rfl⟩:=r;rfl
 | byt _=>obtain⟨t,rfl⟩:=r;rfl
 | flt _=>obtain⟨t,rfl⟩:=r;rfl
 | ref _=>cases r;rfl
 | ty _=>cases r;rfl
theorem RelV.inj{x y:V}{u:Value}(r:RelV x u)(q:RelV y u):x=y:=jq (r.abs.symm.trans q.abs)
theorem Vals.inj:∀{g i:List V} {c:List Value},Vals g c->Vals i c->g=i
 | _,_,_,.nil,.nil=>rfl
 | _,_,_,.cons r t,.cons l o=>by rw[r.inj l,Vals.inj t o]
section
variable{X:Cx}{c:List (Addr×Obj)}{σ:St}{H:Hp}{s:Shared}{a:Addr}{g i:List V}
theorem SqL.of{K:W.Frag}(h:H a=some (.lst g)):SqL K H a g:=.inl (.inl h)
def u7:=@SqL.of
theorem SqT.of{K:W.Frag}(h:H a=some (.tup g)):SqT K H a g:=.inl (.inl h)
def u8:=@SqT.of
theorem Inv.list(I:Inv X c σ H s)(h:SqL X.K H a g):∃l:List Value,Vals g l/\PlainL s.heap a l.toArray/\g.length<=sizeLine:=by
 rcases h with h | ⟨o,l,n,hk,hc,t,u,w,r⟩
 ·obtain⟨z,l,n,r,e⟩:=h.ok I.hok
  exact⟨l,r,⟨_,n,e,rfl,rfl,rfl⟩,z⟩
 ·refine⟨l.toList,r,⟨o,n,I.kIn a o hk,hc,t,by simpa using u⟩,?_⟩
  have e:=r.length;simp only[qF] at e;omega
theorem Inv.tuple(I:Inv X c σ H s)(h:SqT X.K H a g):∃l:List Value,Vals g l/\IsTup s.heap a l.toArray/\g.length<=sizeLine:=by
 rcases h with h | ⟨o,l,n,hk,hc,t,u,r⟩
 ·obtain⟨z,l,r,p⟩:=h.ok I.hok
  exact⟨l,r,p.1,z⟩
 ·refine⟨l.toList,r,⟨o,I.kIn a o hk,hc,n,by simpa using t⟩,?_⟩
  have e:=r.length;simp only[qF] at e;omega
theorem Inv.list_inj(I:Inv X c σ H s)(h:SqL X.K H a g)(B:SqL X.K H a i):g=i:=by
 obtain⟨t,r,⟨o,n,e,_,_,d⟩,_⟩:=I.list h;obtain⟨l,C,⟨E,D,w,_,_,u⟩,_⟩:=I.list B;rw[e] at w;cases w
 rw[d] at u;injection u with A _;have:t=l:=by simpa using congrArg Array.toList A
 subst this;exact r.inj C
theorem Inv.tuple_inj(I:Inv X c σ H s)(h:SqT X.K H a g)(B:SqT X.K H a i):g=i:=by
 obtain⟨t,r,⟨o,e,_,n,d⟩,_⟩:=I.tuple h;obtain⟨l,C,⟨E,w,_,D,u⟩,_⟩:=I.tuple B;rw[e] at w;cases w
 rw[d] at u;injection u with A _;have:t=l:=by simpa using congrArg Array.toList A
 subst this;exact r.inj C
end
abbrev Cx.wish(X:Cx)(E:Value->Shared->Prop):Cx:={ X with xe:=E }
abbrev Cx.nox(X:Cx):Cx:=X.wish fun _ _=>False
theorem Cx.Ok.wish{X:Cx}(ok:X.Ok)(E:Value->Shared->Prop):(X.wish E).Ok:=
 ⟨ok.mod,ok.kind,ok.glob,ok.blt,ok.above,ok.inj,ok.has,ok.cab,ok.hd,ok.frames,ok.stk,ok.exf,ok.bs,ok.bsz,ok.noex,ok.exfs,ok.funs,ok.frf⟩
theorem Cx.Ok.unwish{X:Cx}{E:Value->Shared->Prop}(ok:(X.wish E).Ok):X.Ok:=
 ⟨ok.mod,ok.kind,ok.glob,ok.blt,ok.above,ok.inj,ok.has,ok.cab,ok.hd,ok.frames,ok.stk,ok.exf,ok.bs,ok.bsz,ok.noex,ok.exfs,ok.funs,ok.frf⟩
section
variable{X:Cx}{c:List (Addr×Obj)}{σ:St}{H:Hp}{s:Shared}{E:Value->Shared->Prop}
theorem Inv.wish(I:Inv X c σ H s)(E:Value->Shared->Prop):Inv (X.wish E) c σ H s:=⟨I.ok.wish E,I.os,I.bare,I.base,I.loc,I.cell,I.free,I.freeC,I.pin,I.hok,I.len⟩
theorem Inv.unwish(I:Inv (X.wish E) c σ H s):Inv X c σ H s:=⟨I.ok.unwish,I.os,I.bare,I.base,I.loc,I.cell,I.free,I.freeC,I.pin,I.hok,I.len⟩
theorem SP.unwish{D:XG}{f:Flow}{l:Shared}(h:SP (X.wish E) c D f l):SP X c D f l:=by
 cases f with
 | next=>obtain⟨i,g,I,q⟩:=h;exact⟨i,g,I.unwish,q⟩
 | brk=>obtain⟨i,g,I,q⟩:=h;exact⟨i,g,I.unwish,q⟩
 | cont=>obtain⟨i,g,I,q⟩:=h;exact⟨i,g,I.unwish,q⟩
 | ret u=>obtain⟨v,i,g,I,r,q⟩:=h;exact⟨v,i,g,I.unwish,r,q⟩
theorem PE.nox{e:Expr}{t:TE}(h:PE X.nox e t):PE X e t:=fun c s σ H Q I l=>
 qN (h c s σ H Q (I.wish _) l) (fun _ _ ⟨v,g,i,r,q⟩=>⟨v,g,i.unwish,r,q⟩) fun _ _ z=>False.elim z
theorem PT.nox{e:Expr}{t:TT}(h:PT X.nox e t):PT X e t:=fun c s σ H Q I l=>
 qN (h c s σ H Q (I.wish _) l) (fun _ _ ⟨g,i,q⟩=>⟨g,i.unwish,q⟩) fun _ _ z=>False.elim z
theorem PSs.nox{st:List Stmt}{t:TS}(h:PSs X.nox st t):PSs X st t:=fun c s σ H D I g=>
 qN (h c s σ H D (I.wish _) g) (fun _ _ q=>q.unwish) fun _ _ z=>False.elim z
end
section
variable{X:Cx}{st:Stmt}{rest:List Stmt}{t u:TS}{e:Expr}{i:TE}{g:Pos}
def zgs:TS:=fun D σ H=>D.nx σ H
def zhA(t u:TS):TS:=fun D σ H=>t { D with nx:=u D } σ H
theorem zR:PSs X [] zgs:=fun _ _ σ H _ I h=>wpAny_execs_nil ⟨σ,H,I,h⟩
theorem zg(w:PS X st t)(A:PSs X rest u):PSs X (st::rest) (zhA t u):=by
 intro c s σ H D I h;refine wpAny_execs_cons (thn (w c s σ H { D with nx:=u D } I h) fun f s1 q=>?_)
 cases f with
 | next=>
  obtain⟨B,l,o,q⟩:=q;exact A c s1 B l D o q
 | ret v=>exact q
 | brk=>exact q
 | cont=>exact q
theorem zj(l:PS X st t):PSs X [st] t:=by
 intro c s σ H D I h;refine wpAny_execs_cons (thn (l c s σ H D I h) fun f s1 q=>?_)
 cases f with
 | next=>exact wpAny_execs_nil q
 | ret v=>exact q
 | brk=>exact q
 | cont=>exact q
theorem Inv.quiet{c:List (Addr×Obj)}{σ:St}{H:Hp}{s:Shared}(I:Inv X c σ H s):interactive X.env=false:=by simp[interactive,I.ok.kind]
def zgt(i:TE):TS:=fun D σ H=>i σ H fun _ c=>D.nx σ c
theorem xI(w:PE X e i)(A:swapsWith e none g.line X.env=pure false:=by rfl):PS X (.Expr e g) (zgt i):=by
 intro c s σ H D I h;exact wpAny_Expr_any (thn (w c s σ H _ I h) fun v s1 ⟨x,l,o,C,B⟩=>⟨σ,l,o,B⟩) I.quiet A
def zhB(i:TE):TS:=fun D σ H=>i σ H D.rt
theorem zw(w:PE X e i):PS X (.Return (some e) g) (zhB i):=by
 intro c s σ H D I h;exact wpAny_Return_some (thn (w c s σ H _ I h) fun v s1 ⟨x,l,o,B,A⟩=>⟨x,σ,l,o,B,A⟩)
def zhF(c:TT)(t u:TS):TS:=fun D σ H=>c σ H fun b l=>if b=true then t D σ l else u D σ l
theorem qM{c:Expr}{a b:List Stmt}{B:TT}(hc:PT X c B)(C:PSs X a t)(hb:PSs X b u):PS X (.If c a b g) (zhF B t u):=by
 intro l s σ H D I h;refine wpAny_If (thn (hc l s σ H _ I h) fun d s1 ⟨o,w,A⟩=>?_)
 cases d with
 | true=>exact C l s1 σ o D w A
 | false=>exact hb l s1 σ o D w A
end
abbrev TG:=V->St->Hp->(St->Hp->Prop)->Prop
abbrev TGs:=List V->St->Hp->(St->Hp->Prop)->Prop
def PG(X:Cx)(c:Expr)(t:TG):Prop:=
 ∀(g:List (Addr×Obj)) (s:Shared) (σ:St) (H:Hp) (v:V) (u:Value) (Q:St->Hp->Prop),Inv X g σ H s->RelV v u->t v σ H Q ->
  wpAny (model X.prog X.w) X.A (assign c X.env u) (fun _ o=>∃l i,Inv X g l i o/\Q l i) X.xe s
def PGs(X:Cx)(w:List Expr)(t:TGs):Prop:=
 ∀(c:List (Addr×Obj)) (s:Shared) (σ:St) (H:Hp) (l:List V) (i:List Value) (Q:St->Hp->Prop),Inv X c σ H s->Vals l i->t l σ H Q ->
  wpAny (model X.prog X.w) X.A (assignInOrder ((assignEach w X.env).map (·.2)) i) (fun _ u=>∃o g,Inv X c o g u/\Q o g) X.xe s
abbrev zgl:=V->V->V->Hp->(Hp->Prop)->Prop
def zht(X:Cx)(t:zgl):Prop:=
 ∀(c:List (Addr×Obj)) (s:Shared) (σ:St) (H:Hp) (o i v:V) (w l u:Value) (Q:Hp->Prop),Inv X c σ H s->RelV o w->RelV i l->RelV v u->t o i v H Q ->
  wpAny (model X.prog X.w) X.A (setItem w l u) (fun _ A=>∃g,Inv X c σ g A/\Q g) X.xe s
section
variable{X:Cx}{l:Pos}
def x8(i:Nat):TG:=fun v σ H Q=>Q (σ.set i (some v)) H
theorem zD{i:Nat}{x:Str}(o:X.N.Nodup)(w:X.N[i]? =some x)(hx:Loc X.env.scope x)(t:X.fn x=true\/X.env.scope.names.lookup x=some .local:=by first| exact .inl rfl | exact .inr rfl | assumption):PG X (.Name x l) (x8 i):=by
 intro c s σ H v u Q I r h;exact wpAny_assign_Name (yf I o w hx r (fun A g=>⟨_,H,g,h⟩) t)
def zec:TGs:=fun c σ H Q=>c=[]/\Q σ H
inductive yq(t:TG)(u:TGs)(c:List V)(σ:St)(H:Hp)(Q:St->Hp->Prop):Prop
 | mk (v r:_) (_:c=v::r) (_:t v σ H fun i g=>u r i g Q):yq t u c σ H Q
theorem jM:PGs X [] zec:=by
 intro c s σ H i g Q I r h;obtain⟨e,h⟩:=h;subst e;cases r;exact assignInOrder_nil ⟨σ,H,I,h⟩
theorem zE{e:Expr}{g:List Expr}{t:TG}{u:TGs}(w:PG X e t)(A:PGs X g u)
  (B:(assignEach (e::g) X.env).map (·.2)=assign e X.env::(assignEach g X.env).map (·.2):=by rfl):PGs X (e::g) (yq t u):=by
 intro c s σ H L G Q I r h;obtain⟨v,J,e1,h⟩:=h;subst e1;cases r with
 | cons r D=>
  rw[B];refine assignInOrder_cons (thn (w c s σ H _ _ _ I r h) fun _ s1 ⟨E,i,o,C⟩=>?_)
  exact A c s1 E i _ _ Q o D C
inductive zcO(K:W.Frag)(n:Nat)(t:TGs)(v:V)(σ:St)(H:Hp)(Q:St->Hp->Prop):Prop
 | mk (a c:_) (_:v=.ref a) (_:SqT K H a c) (_:c.length=n) (_:t c σ H Q):zcO K n t v σ H Q
theorem xA{g:List Expr}{k:Nat}{t:TGs}{n:Nat}(hc:X.calm=true)(h:PGs X g t)
  (E:(assignEach g X.env).length=n:=by rfl) (i:(assignEach g X.env).findIdx? (·.1)=none:=by rfl):PG X (.Tuple g k l) (zcO X.K n t):=by
 intro c s σ H v u Q I r w;obtain⟨a,L,e1,hq,D,w⟩:=w;subst e1;cases r;obtain⟨J,A,G,M⟩:=I.tuple hq;refine assign_Tuple_tuple (I.ok.hd hc) G (by simp[E,<- D,A.length]) i fun C hx=>?_
 have B:Inv X c σ H { s with heap:=C }:=I.kept (t':=s.toks) fun b o e=>hx b o (zS (zA e)) e
 exact h c _ σ H L _ Q B (by simpa using A) w
def zhR(to u:TE)(t:zgl):TG:=fun v σ H Q=>to σ H fun o c=>u σ c fun i g=>t o i v g fun s=>Q σ s
theorem V9{o i:Expr}{to A:TE}{t:zgl}(N:PE X o to)(M:PE X i A)(O:zht X t)
  (L:∀v,assign (.Subscript o i l) X.env v=(do
   let g<-holding [v] (eval o X.env)
   let w<-holding [v,g] (eval i X.env)
   standAt l
   holding [v,g,w] (setItem g w v)
   release [v,g,w] []):=by intro _;rfl):PG X (.Subscript o i l) (zhR to A t):=by
 intro c s σ H v u Q I r h;rw[L];refine zd (je (thn (N c s σ H _ I h) fun g s1 ⟨x,B,E,r1,U⟩=>?_))
 refine zd (je (thn (M c s1 σ B _ E U) fun w s2 ⟨y,C,G,r2,Y⟩=>?_))
 refine zd (we (zd (je (thn (O c s2 σ C x y v g w u _ G r1 r2 r Y) fun _ s3 ⟨D,J,q3⟩=>?_))))
 exact wpAny_release ⟨σ,D,J,q3⟩
def zbD(i:TE)(g:TG):TS:=fun D σ H=>i σ H fun x c=>g x σ c D.nx
theorem wQ{i e:Expr}{o:TE}{g:TG}(A:PE X e o)(B:PG X i g)(C:swapsWithSole [i] e l.line X.env=pure false:=by rfl)(E:swappedStores [i] e X.env=pure none:=by rfl)
  (w:(assignEach [i] X.env).map (·.2)=[assign i X.env]:=by rfl):PS X (.Assign [i] e l) (zbD o g):=by
 intro c s σ H D I h;refine wpAny_Assign_stores (thn (A c s σ H _ I h) fun v s1 ⟨x,t,u,J,G⟩=>?_) C E
 rw[w];exact thn (B c s1 σ t x v _ u J G) fun _ s2 q=>q
theorem zx{i:Nat}{x:Str}{e:Expr}{o:TE}{c:Pos}(A:X.N.Nodup)(E:X.N[i]? =some x)(hx:Loc X.env.scope x)(B:PE X e o)(G:swapsWith e (some (.Name x c)) l.line X.env=pure false:=by rfl)(C:X.fn x=true\/X.env.scope.names.lookup x=some .local:=by first| exact .inl rfl | exact .inr rfl | assumption) :
  PS X (.Assign [.Name x c] e l) (zbD o (x8 i)):=by
 intro g s σ H D I h;refine wpAny_Assign_Name (thn (B g s σ H _ I h) fun v s1 ⟨y,t,u,L,J⟩=>?_) G
 exact yf u A E hx L (fun s2 w=>⟨_,t,w,J⟩) C
def zhC(i j:Nat)(g:TA):TS:=fun D σ H=>g σ H fun o c=>zhv o c fun v w c=>D.nx ((σ.set i (some v)).set j (some w)) c
theorem V6{i j:Nat}{x y:Str}{a b:Expr}{ta:TA}{L M J:Pos}{G E t}(hc:X.calm=true)(hN:X.N.Nodup)(hi:X.N[i]? =some x)(hj:X.N[j]? =some y)(B:i≠j)
  (hx:X.env.scope.names.lookup x=some .local) (hy:X.env.scope.names.lookup y=some .local) (ha:PA X [a,b] ta)
  (hw:swappedStores [.Tuple [.Name x L,.Name y M] G J] (.Tuple [a,b] E t) X.env=pure (some [x,y]))
  (hs:swapsWithSole [.Tuple [.Name x L,.Name y M] G J] (.Tuple [a,b] E t) l.line X.env=pure false:=by rfl) :
  PS X (.Assign [.Tuple [.Name x L,.Name y M] G J] (.Tuple [a,b] E t) l) (zhC i j ta):=by
 intro g s σ H D I h;rw[exec_Assign_arm];refine zd (we ?_)
 rw[hs];refine zd (zp ?_)
 rw[zn (by decide)]
 refine zd (Tuple_ (thn (ha _ g s σ H _ I h) fun us s1 ⟨vs,Q,I1,r1,N⟩=>?_))
 obtain⟨v,w,e1,N⟩:=N;subst e1;obtain⟨u,A,rfl,rv,O⟩:∃u A,us=[u,A]/\RelV v u/\RelV w A:=by
  cases r1 with
  | cons p q=>
   cases q with
   | cons p' q'=>
    cases q';exact⟨_,_,rfl,p,p'⟩
 refine xO ?_ (by show 2<=sizeLine;decide)
 have I2:Inv X g σ Q { s1 with heap:=s1.heap.push { cls:=.type "tuple",data:=.seq [u,A].toArray } }:=I1.kept (t':=s1.toks) fun b o e=>zI _ e
 rw[hw];refine zd (zp ?_)
 show wpAny (model X.prog X.w) X.A (do rule "assign.swapped-stores";let c<-unpackItems (.ref s1.heap.objs.size) 2 none;assignInOrder [fun v=>bindName X.env y v,fun v=>bindName X.env x v] c.reverse;pure Flow.next) _ _ _
 refine zd (xp (zd (unpackItems_tuple (items:=#[u,A]) (I.ok.hd hc) (IsTup.new s1.heap _) fun Y C=>?_)))
 have I3:=I2.kept (h':=Y) (t':=s1.toks) fun b o e=>C b o (zS (zA e)) e
 show wpAny _ _ (assignInOrder [fun v=>bindName X.env y v,fun v=>bindName X.env x v] [A,u] >>= fun _=>pure Flow.next) _ _ _
 refine zd (assignInOrder_cons (wpAny_bindName (yf I3 hN hj (.inl hy) O (fun s2 I4=>?_) (.inr hy))))
 refine assignInOrder_cons (wpAny_bindName (yf I4 hN hi (.inl hx) rv (fun s3 U=>assignInOrder_nil (zp ?_)) (.inr hx)))
 rw[List.set_comm _ _ (zN B)] at U;exact⟨_,Q,U,N⟩
def zfh(c:TT)(t:TS):TS:=fun D σ H=>∃W:Nat->St->Hp->Prop,(∃m,W m σ H)/\∀m σ H,W m σ H ->
 c σ H fun b i=>if b=true then ∃N:St->Hp->Prop,(∀s g,N s g->∃o,o<m/\W o s g)/\t { D with nx:=N,ct:=N,bk:=D.nx } σ i else D.nx σ i
theorem Vd{c:Expr}{body:List Stmt}{tc:TT}{tb:TS}(Y:PassesOwn (model X.prog X.w) X.A X.env X.xe)(hc:PT X c tc)(hb:PSs X body tb):PS X (.While c body [] l) (zfh tc tb):=by
 intro g s σ H D I h;obtain⟨W,⟨m0,w0⟩,o⟩:=h;refine wpAny_While (codeAny_whileLoop (fun n s'=>∃σ' L,Inv X g σ' L s'/\W n σ' L) ?_ m0 ⟨σ,H,I,w0⟩)
 rintro n s1 ⟨A,M,I1,w1⟩;refine wV Y (thn (hc g s1 A M _ I1 (o n A M w1)) fun b s2 ⟨O,Q,u⟩=>?_)
 cases b with
 | true=>
  obtain⟨N,U,u⟩:=u;rw[zr rfl];refine wV Y (thn (hb g s2 A O _ Q u) fun f s3 w=>?_)
  cases f with
  | next=>
   obtain⟨t,i,B,G⟩:=w;obtain⟨E,C,J⟩:=U t i G;exact⟨E,C,t,i,B,J⟩
  | cont=>
   obtain⟨t,i,B,G⟩:=w;obtain⟨E,C,J⟩:=U t i G;exact⟨E,C,t,i,B,J⟩
  | brk=>exact w
  | ret v=>exact w
 | false=>
  rw[zn qE];exact wpAny_execs_nil ⟨A,O,Q,u⟩
end
structure It where
 go:Nat->Hp->Prop
 yld:Nat->Hp->V->Hp->Prop
 stop:Nat->Hp->Prop
def jF(X:Cx)(g:List (Addr×Obj))(H:Hp)(b:Addr):Prop:=
 H b=none/\b≠X.env.locals/\b∉X.fs/\(b∈X.ex\/X.s₀.heap.objs.size<=b)/\(∀x c,X.env.cells.lookup x=some c->c≠b)/\∀p∈X.pn++g,p.1≠b
theorem Inv.fpOk{X:Cx}{g:List (Addr×Obj)}{σ:St}{H i:Hp}{s:Shared}{b:Addr}(I:Inv X g σ H s)(hb:s.heap.objs.size<=b)(l:i b=none):jF X g i b:=by
 refine⟨l,vg (jt I.lt hb),I.nofs hb,.inr (zX I.sz hb),fun x c e z=>?_,fun p o z=>?_⟩
 ·obtain⟨v,q⟩:=I.cell x c e
  exact absurd (jt q.lt (by rw[z];exact hb)) (xh _)
 ·exact absurd (jt (zA (I.pin p o).1) (by rw[z];exact hb)) (xh _)
structure QA(P:Program)(w:World)(K:W.Frag)(tg:Expr)(J:It)(fp:List Addr)(it:Addr)(tn:Nat->Heap->Prop):Prop where
 mem:it∈fp
 obj:∀i h,tn i h->∀b∈fp,∃o,h.get? b=some o/\∀v,o.data≠.cell v
 keep:∀i h h',tn i h->(∀b∈fp,∀o,h.get? b=some o->h'.get? b=some o)->tn i h'
 item:∀(X:Cx),X.prog=P->X.w=w->X.K=K->X.calm=true->∀(i:Nat) (pins:List (Addr×Obj)) (s:Shared) (σ:St) (H:Hp) (E:Value->Shared->Prop),Inv X pins σ H s->(∀b∈fp,jF X pins H b)->tn i s.heap->J.go i H ->
  wpAny (model P w) X.A (pyNext (.ref it)) (fun r s1=>∃u,r=some u /\
   wpAny (model P w) X.A (letOwnedTupleGo tg (.ref it) u) (fun _ s2=>∃x H',Inv X pins σ H' s2/\RelV x u/\J.yld i H x H'/\tn (i+1) s2.heap/\∀b∈fp,H' b=none) E s1) E s
 done:∀(X:Cx),X.prog=P->X.w=w->X.K=K->X.calm=true->∀(i:Nat) (pins:List (Addr×Obj)) (s:Shared) (σ:St) (H:Hp) (E:Value->Shared->Prop),Inv X pins σ H s->(∀b∈fp,jF X pins H b)->tn i s.heap->J.stop i H ->
  wpAny (model P w) X.A (pyNext (.ref it)) (fun r s1=>r=none/\Inv X pins σ H s1) E s
 self:∀(A:Around) (i:Nat) (s:Shared) (Q:Value->Shared->Prop) (E:Value->Shared->Prop),tn i s.heap->Q (.ref it) s->wpAny (model P w) A (pyIter (.ref it)) Q E s
abbrev TI:=St->Hp->(It->Hp->Prop)->Prop
def PIE(X:Cx)(c:List (Addr×Obj))(σ:St)(t:Expr)(R:It->Hp->Prop)(i:Value)(s2:Shared):Prop:=
 ∃(o:Addr) (l:List Addr) (s:Nat->Heap->Prop) (J:It) (g:Hp),i=.ref o/\Inv X c σ g s2/\QA X.prog X.w X.K t J l o s/\s 0 s2.heap/\(∀b∈l,jF X c g b)/\R J g
def PI(X:Cx)(i g:Expr)(l:TI):Prop:=
 ∀(c:List (Addr×Obj)) (s:Shared) (σ:St) (H:Hp) (R:It->Hp->Prop),Inv X c σ H s->l σ H R ->
  wpAny (model X.prog X.w) X.A (eval g X.env) (fun v s1=>wpAny (model X.prog X.w) X.A (pyIter v) (PIE X c σ i R) X.xe s1) X.xe s
theorem Je{M:Model}{A:Around}{E:Value->Shared->Prop}{s:Shared}{i:Expr}{g:Addr}{u:Value}{o:Obj}{n:String}{l:Array Value}{Q:Unit->Shared->Prop}(B:s.heap.get? g=some o)(hc:o.cls=.type n)(t:o.data=.fields l)
  (w:["enumerate", "zip", "dict_itemiterator", "dict_reverseitemiterator", "odict_iterator", "itertools.zip_longest", "itertools.pairwise"].contains n=false) (c:Q () s):wpAny M A (letOwnedTupleGo i (.ref g) u) Q E s:=by
 unfold letOwnedTupleGo;cases i<;>first
  | exact zp c
  | (cases u<;>first
    | exact zp c
    | (refine zd (wpAny_load B ?_)
       rw[hc,t];show wpAny M A (if(["enumerate", "zip", "dict_itemiterator", "dict_reverseitemiterator", "odict_iterator", "itertools.zip_longest", "itertools.pairwise"].contains n&&l[0]? ==some (rawInt _))=true then _ else _) Q E s
       rw[zn (by intro h;rw[w,Bool.false_and] at h;cases h)]
       exact zp c))
def Itl(K:W.Frag)(a:Addr):It:=
 ⟨fun i H=>∃c x,SqL K H a c/\c[i]? =some x,fun i H x g=>g=H/\∀c,SqL K H a c->c[i]? =some x,fun i H=>∃c,SqL K H a c/\c.length<=i⟩
def Itt(K:W.Frag)(a:Addr):It:=
 ⟨fun i H=>∃c x,SqT K H a c/\c[i]? =some x,fun i H x g=>g=H/\∀c,SqT K H a c->c[i]? =some x,fun i H=>∃c,SqT K H a c/\c.length<=i⟩
def Itr(lo:Int)(n:Nat):It:=⟨fun i _=>i<n,fun i H x c=>c=H/\x=.int (lo+i),fun i _=>n<=i⟩
theorem QR{P:Program}{w:World}{K:W.Frag}{tg:Expr}(a l:Addr):QA P w K tg (Itl K a) [l] l (fun i h=>h.IsListIter l a i) where
 mem:=by simp
 obj:=fun i h st b hb=>by
  have e:b=l:=by simpa using hb
  subst e;obtain⟨o,e,c,d⟩:=st;exact⟨o,e,fun v z=>by rw[d] at z;cases z⟩
 keep:=fun i h A st k=>st.at fun o e=>k l (by simp) o e
 item:=by
  intro X N Q M hc i g s σ H E I B st O;subst N Q M;obtain⟨xs,x,hq,hx⟩:=O;obtain⟨U,Y,p,hz⟩:=I.list hq;obtain⟨u,hu,ru⟩:=Y.get hx;obtain⟨C,D,f2,G,J,L⟩:=B l (by simp)
  refine wpAny_pyNext_list_item st p.isList (x:=u) (by simpa using hu) fun A t sb=>?_
  have I1:Inv X g σ H { s with heap:=A }:=I.turned (t':=s.toks) (fun b o hb e=>(sb.2 b hb).trans e) C D G J L
  obtain⟨o,e,c,d⟩:=id t;exact⟨u,rfl,Je (s:={ s with heap:=A }) e c d (by decide) ⟨x,H,I1,ru,⟨rfl,fun ys hy=>by rw[I.list_inj hy hq];exact hx⟩,t,fun b hb=>(B b hb).1⟩⟩
 done:=by
  intro X N Q M hc i g s σ H E I B st O;subst N Q M;obtain⟨xs,hq,hx⟩:=O;obtain⟨U,Y,p,hz⟩:=I.list hq;obtain⟨C,D,f2,G,J,L⟩:=B l (by simp)
  have hl:=Y.length;exact wpAny_pyNext_list_end (I.ok.hd hc) st p.isList (by simp;omega) fun A eb=>⟨rfl,I.turned (t':=s.toks) (fun b o hb e=>eb b o hb e) C D G J L⟩
 self:=fun _ _ _ _ _ st h=>wpAny_pyIter_listiter st h
theorem ZF{P:Program}{w:World}{K:W.Frag}{tg:Expr}(a l:Addr):QA P w K tg (Itt K a) [l] l (fun i h=>h.IsTupleIter l a i) where
 mem:=by simp
 obj:=fun i h st b hb=>by
  have e:b=l:=by simpa using hb
  subst e;obtain⟨o,e,c,d⟩:=st;exact⟨o,e,fun v z=>by rw[d] at z;cases z⟩
 keep:=fun i h B st k=>st.at fun o e=>k l (by simp) o e
 item:=by
  intro X O U N hc i g s σ H E I C st Q;subst O U N;obtain⟨xs,x,hq,hx⟩:=Q;obtain⟨t,Y,p,hz⟩:=I.tuple hq;obtain⟨u,hu,ru⟩:=Y.get hx;obtain⟨D,G,f2,J,L,M⟩:=C l (by simp)
  refine wpAny_pyNext_tuple_item st (show s.heap.IsTuple a t.toArray from p) (x:=u) (by simpa using hu) fun B A sb=>?_
  have I1:Inv X g σ H { s with heap:=B }:=I.turned (t':=s.toks) (fun b o hb e=>(sb.2 b hb).trans e) D G J L M
  obtain⟨o,e,c,d⟩:=id A;exact⟨u,rfl,Je (s:={ s with heap:=B }) e c d (by decide) ⟨x,H,I1,ru,⟨rfl,fun ys hy=>by rw[I.tuple_inj hy hq];exact hx⟩,A,fun b hb=>(C b hb).1⟩⟩
 done:=by
  intro X O U N hc i g s σ H E I C st Q;subst O U N;obtain⟨xs,hq,hx⟩:=Q;obtain⟨t,Y,p,hz⟩:=I.tuple hq;obtain⟨D,G,f2,J,L,M⟩:=C l (by simp)
  have hl:=Y.length;exact wpAny_pyNext_tuple_end (I.ok.hd hc) st (show s.heap.IsTuple a t.toArray from p) (by simp;omega) fun B eb=>⟨rfl,I.turned (t':=s.toks) (fun b o hb e=>eb b o hb e) D G J L M⟩
 self:=fun _ _ _ _ _ st h=>wpAny_pyIter_tupleiter st h
theorem VQ{P:Program}{w:World}{K:W.Frag}{tg:Expr}(c:Addr)(lo:Int)(n:Nat):QA P w K tg (Itr lo n) [c] c (fun i h=>IsRangeIter h c (lo+(i:Nat)*1) ((n:Int)-(i:Nat)) 1) where
 mem:=by simp
 obj:=fun i h st b hb=>by
  have e:b=c:=by simpa using hb
  subst e;exact⟨_,st,fun v z=>by
   have z':Data.fields _=Data.cell v:=z;cases z'⟩
 keep:=fun i h u st k=>k c (by simp) _ st
 item:=by
  intro X M O L hc i g s σ H E I A st N;subst M O L;obtain⟨B,C,f2,D,G,J⟩:=A c (by simp)
  have W:=Walks.range (prog:=X.prog) (w:=X.w) (I.ok.hd hc) c lo 1 n;refine W.item i s _ _ N st fun v u U hv l kk=>?_
  obtain⟨t,rfl⟩:=hv;have Y:Inv X g σ H { s with heap:=u,toks:=U }:=I.turned (fun b o hb e=>kk b o (by simpa using hb) e) B C D G J
  refine⟨_,rfl,Je (s:={ s with heap:=u,toks:=U }) (n:= "range_iterator") l rfl rfl (by decide) ⟨.int (lo+i),H,Y,⟨t,?_⟩,⟨rfl,rfl⟩,l,fun b hb=>(A b hb).1⟩⟩
  rw[Int.mul_one]
 done:=by
  intro X M O L hc i g s σ H E I A st N;subst M O L;obtain⟨B,C,f2,D,G,J⟩:=A c (by simp)
  exact wpAny_pyNext_range_end (I.ok.hd hc) st (by have:n<=i:=N;omega) fun u eb=>⟨rfl,I.turned (t':=s.toks) (fun b o hb e=>eb b o hb e) B C D G J⟩
 self:=fun _ _ _ _ _ st h=>wpAny_pyIter_rangeiter st h
section
variable{X:Cx}{c:Expr}
inductive InL(K:W.Frag)(x:V)(H:Hp)(R:It->Hp->Prop):Prop
 | mk (a:Addr) (h:x=.ref a) (e:∃g,SqL K H a g) (r:R (Itl K a) H):InL K x H R
inductive InT(K:W.Frag)(x:V)(H:Hp)(R:It->Hp->Prop):Prop
 | mk (a:Addr) (h:x=.ref a) (e:∃g,SqT K H a g) (r:R (Itt K a) H):InT K x H R
def zhi(K:W.Frag)(i:TE):TI:=fun σ H R=>i σ H fun x g=>InL K x g R
def zhN(K:W.Frag)(i:TE):TI:=fun σ H R=>i σ H fun x g=>InT K x g R
theorem jG{l:Expr}{t:TE}(w:PE X l t):PI X c l (zhi X.K t):=by
 intro g s σ H R I h;refine thn (w g s σ H _ I h) fun v s1 ⟨x,u,i,C,B⟩=>?_
 obtain⟨a,e,⟨J,hq⟩,q⟩:=B;subst e;cases C;obtain⟨A,E,p,D⟩:=i.list hq;refine wpAny_pyIter_list p.isList ?_
 refine⟨s1.heap.objs.size,[s1.heap.objs.size],_,_,u,rfl,i.kept (t':=s1.toks) fun b o e=>zI _ e,QR a _,⟨_,qv _ rfl,rfl,rfl⟩,fun b hb=>?_,q⟩
 have e:b=s1.heap.objs.size:=by simpa using hb
 subst e;exact i.fpOk (zy _) (i.hok.fresh (zy _))
theorem xj{l:Expr}{u:TE}(A:PE X l u):PI X c l (zhN X.K u):=by
 intro g s σ H R I h;refine thn (A g s σ H _ I h) fun v s1 ⟨x,w,i,C,B⟩=>?_
 obtain⟨a,e,⟨J,hq⟩,q⟩:=B;subst e;cases C;obtain⟨t,E,p,D⟩:=i.tuple hq;refine wpAny_pyIter_tuple (show s1.heap.IsTuple a t.toArray from p) ?_
 refine⟨s1.heap.objs.size,[s1.heap.objs.size],_,_,w,rfl,i.kept (t':=s1.toks) fun b o e=>zI _ e,ZF a _,⟨_,qv _ rfl,rfl,rfl⟩,fun b hb=>?_,q⟩
 have e:b=s1.heap.objs.size:=by simpa using hb
 subst e;exact i.fpOk (zy _) (i.hok.fresh (zy _))
theorem zb3{i:List (Addr×Obj)}{σ:St}{H:Hp}{s:Shared}{R:It->Hp->Prop}{E:Value->Shared->Prop}{lo g:Int}{t u v:Tok}{w:Nat}(I:Inv X i σ H s)(A:-(2^62)<=lo)(B:lo<2^62)(C:-(2^62)<=g)(D:g<2^62)
  (q:R (Itr lo (g-lo).toNat) H):wpAny (model X.prog X.w) X.A (pyIter (.ref s.heap.objs.size)) (PIE X i σ c R) E { s with heap:=s.heap.push { cls:=.type "range",data:=.fields #[.int lo t,.int g u,.int 1 v] },toks:=w }:=by
 refine wpAny_pyIter_range (IsRange.new ..) (small_one A B C D) ?_
 have l:Inv X i σ H { s with heap:=s.heap.push { cls:=.type "range",data:=.fields #[.int lo t,.int g u,.int 1 v] },toks:=w }:=I.kept fun b o e=>zI _ e
 refine⟨(s.heap.push { cls:=.type "range",data:=.fields #[.int lo t,.int g u,.int 1 v] }).objs.size,[(s.heap.push { cls:=.type "range",data:=.fields #[.int lo t,.int g u,.int 1 v] }).objs.size],_,_,H,rfl,
  l.kept (t':=w) fun b o e=>zI _ e,VQ _ lo (g-lo).toNat,?_,fun b hb=>?_,q⟩
 ·have e1:lo+((0:Nat):Int)*1=lo:=by simp
  have e2:(((g-lo).toNat:Nat):Int)-((0:Nat):Int)=Builtin.Range.rangeSize lo g 1:=by rw[rangeSize_one];split<;>omega
  show IsRangeIter _ _ (lo+((0:Nat):Int)*1) ((((g-lo).toNat:Nat):Int)-((0:Nat):Int)) 1;rw[e1,e2];exact qv _ rfl
 ·have e:b=(s.heap.push { cls:=.type "range",data:=.fields #[.int lo t,.int g u,.int 1 v] }).objs.size:=by simpa using hb
  subst e;exact l.fpOk (zy _) (l.hok.fresh (zy _))
inductive zhw(g:List V)(H:Hp)(R:It->Hp->Prop):Prop
 | mk (j:Int) (h:g=[.int j]) (i:-(2^62)<=j) (l:j<2^62) (r:R (Itr 0 j.toNat) H):zhw g H R
def zhh(i:TA):TI:=fun σ H R=>i σ H fun l g=>zhw l g R
theorem qI{a:Expr}{o:TA}{p i:Pos}(A:Gl X "range")(B:X.mg "range" = none)(w:PA X [a] o)(C:starEach [a] X.env=[(false,eval a X.env)]:=by rfl):PI X c (.Call (.Name "range" p) [a] [] i) (zhh o):=by
 intro g s σ H R I h;refine Call_ (xE I A B boot_range (Zk (thn (w i g s σ H _ I h) fun L s1 ⟨M,J,u,E,l⟩=>?_) C rfl))
 obtain⟨j,e,l,D,q⟩:=l;subst e;cases E with
 | cons r G=>
  cases G;obtain⟨t,rfl⟩:=r;exact call_range_1 (zb3 u (by omega) (by omega) l D (by simpa using q))
def zhG(A:TI)(g:TG)(w:TS):TS:=fun D σ H=>A σ H fun J t=>∃W:Nat->Nat->St->Hp->Prop,(∃m,W 0 m σ t)/\∀i m σ H,W i m σ H ->
 (J.stop i H/\D.nx σ H)\/(J.go i H/\∃N:St->Hp->Prop,(∀s l,N s l->∃o,o<m/\W (i+1) o s l)/\∀x l,J.yld i H x l->g x σ l fun B u=>w { D with nx:=N,ct:=N,bk:=D.nx } B u)
def qG(g:List Addr)(h:Heap):List (Addr×Obj):=g.filterMap fun b=>(h.get? b).map fun o=>(b,o)
theorem jK{g:List Addr}{h:Heap}{b:Addr}{o:Obj}(hb:b∈g)(e:h.get? b=some o):(b,o)∈qG g h:=Xn.mpr ⟨b,hb,by rw[e];rfl⟩
theorem yJ{g:List Addr}{h:Heap}{p:Addr×Obj}(l:p∈qG g h):p.1∈g/\h.get? p.1=some p.2:=by
 obtain⟨b,hb,e⟩:=Xn.mp l;cases q:h.get? b with
 | none=>rw[q] at e;cases e
 | some o=>
  rw[q] at e;have i:(b,o)=p:=jq e;subst i;exact⟨hb,q⟩
theorem Inv.pinned{g:List (Addr×Obj)}{σ:St}{H:Hp}{s:Shared}{fp:List Addr}(I:Inv X g σ H s)(w:∀b∈fp,jF X g H b)(A:∀b∈fp,∃o,s.heap.get? b=some o/\∀v,o.data≠.cell v):Inv X (g++qG fp s.heap) σ H s:=
 I.pins_of fun p B=>(qO.mp B).elim (fun z=>I.pin p (jz _ z)) fun z=>by
  obtain⟨hb,e⟩:=yJ z;obtain⟨l,t,u,_⟩:=w p.1 hb;obtain⟨o,i,d⟩:=A p.1 hb;rw[e] at i;cases i
  exact⟨e,l,t,u,d⟩
theorem Inv.unpinned{g l:List (Addr×Obj)}{σ:St}{H:Hp}{s:Shared}(I:Inv X (g++l) σ H s):Inv X g σ H s:=I.pins_of fun p i=>I.pin p (jz _ (vz _ i))
theorem jh{A:Expr}{body:List Stmt}{wi:TI}{g:TG}{tb:TS}{ac:Pos}(Q:PassesOwn (model X.prog X.w) X.A X.env X.xe)(hc:X.calm=true)(hi:PI X c A wi)(hg:PG X c g)(hb:PSs X body tb)
  (hs:∀x,foldedSetIterable A X.env x=pure x:=by intro _;rfl):PS X (.For c A body [] ac) (zhG wi g tb):=by
 intro l s σ H D I h;refine wpAny_For (thn (hi l s σ H _ I h) fun v s1 h1=>thn h1 fun af s2 h2=>?_) hs
 obtain⟨it,M,tn,J,H2,e,I2,T,ae,f2,W,⟨m0,w0⟩,a0⟩:=h2;subst e;have B:∀{E:Hp},(∀b∈M,E b=none)->∀b∈M,jF X l E b:=fun hn b hb=>⟨hn b hb,(f2 b hb).2⟩
 refine codeAny_forLoop_any (fun n s'=>∃i σ' E,Inv X l σ' E s'/\tn i s'.heap/\(∀b∈M,E b=none)/\W i n σ' E) ?_ m0 ⟨0,σ,H2,I2,ae,fun b hb=>(f2 b hb).1,w0⟩
 rintro n s3 ⟨i,σ3,H3,I3,Y,O,w3⟩;rcases a0 i n σ3 H3 w3 with ⟨stop,qn⟩ | ⟨go,N,hN,step⟩
 ·refine wV Q (thn (T.done X rfl rfl rfl hc i l s3 σ3 H3 X.xe I3 (B O) Y stop) fun r s4 ⟨hr,I4⟩=>?_)
  subst hr;exact wpAny_execs_nil ⟨σ3,H3,I4,qn⟩
 ·refine wV Q (thn (T.item X rfl rfl rfl hc i l s3 σ3 H3 X.xe I3 (B O) Y go) fun r s4 ⟨u,hr,h4⟩=>?_)
  subst hr;refine wV Q (thn h4 fun _ s5 ⟨x,H5,I5,r5,y5,L,ab⟩=>?_)
  have aa:=I5.pinned (B ab) (T.obj _ _ L);refine wV Q (thn (hg _ s5 σ3 H5 x u _ aa r5 (step x H5 y5)) fun _ s6 ⟨σ6,H6,I6,q6⟩=>?_)
  refine wV Q (thn (hb _ s6 σ6 H6 _ I6 q6) fun f s7 G=>?_)
  have again:∀{C:St} {t:Hp},Inv X (l++qG M s5.heap) C t s7->N C t->∃m,m<n/\∃i σ' E,Inv X l σ' E s7/\tn i s7.heap/\(∀b∈M,E b=none)/\W i m σ' E:=fun {C t} w U=>by
   obtain⟨m',hm,w7⟩:=hN C t U;refine⟨m',hm,i+1,C,t,w.unpinned,T.keep _ _ _ L fun b hb o e=>(w.pin (b,o) (jz _ (jz _ (jK hb e)))).1,fun b hb=>?_,w7⟩
   obtain⟨o,e,d⟩:=T.obj _ _ L b hb;exact(w.pin (b,o) (jz _ (jz _ (jK hb e)))).2.1
  cases f with
  | next=>obtain⟨C,t,w,U⟩:=G;exact again w U
  | cont=>obtain⟨C,t,w,U⟩:=G;exact again w U
  | brk=>obtain⟨C,t,w,G⟩:=G;exact⟨C,t,w.unpinned,G⟩
  | ret v=>obtain⟨x7,C,t,w,r7,G⟩:=G;exact⟨x7,C,t,w.unpinned,r7,G⟩
end
theorem vN{K:W.Frag}{a:Addr}{xs:List V}{g:TG}{w:TS}{D:XG}{σ:St}{H:Hp}(Pv:Nat->St->Hp->Prop)(A:Pv 0 σ H)(E:∀i σ H,i<=xs.length->Pv i σ H->SqL K H a xs)
  (G:∀i x σ H,xs[i]? =some x->Pv i σ H->g x σ H fun t o=>w { D with nx:=Pv (i+1),ct:=Pv (i+1),bk:=D.nx } t o) (B:∀σ H,Pv xs.length σ H->D.nx σ H) :
  ∃W:Nat->Nat->St->Hp->Prop,(∃m,W 0 m σ H)/\∀i m σ H,W i m σ H ->
   ((Itl K a).stop i H/\D.nx σ H)\/((Itl K a).go i H/\∃N:St->Hp->Prop,(∀s c,N s c->∃u,u<m/\W (i+1) u s c)/\∀x c,(Itl K a).yld i H x c->g x σ c fun t o=>w { D with nx:=N,ct:=N,bk:=D.nx } t o):=by
 refine⟨fun i m σ H=>m=xs.length-i/\i<=xs.length/\Pv i σ H,⟨xs.length,by simp,qB _,A⟩,?_⟩
 rintro i m σ H ⟨rfl,C,p⟩;have q:=E i σ H C p;by_cases l:i<xs.length
 ·refine .inr ⟨⟨xs,xs[i],q,by simp[l]⟩,Pv (i+1),fun s c I=>⟨xs.length-(i+1),by omega,rfl,l,I⟩,fun x c y=>?_⟩
  obtain⟨e,y⟩:=y;subst e;exact G i x σ _ (y xs q) p
 ·have e:i=xs.length:=by omega
  subst e;exact .inl ⟨⟨xs,q,zy _⟩,B σ H p⟩
theorem JQ{K:W.Frag}{a:Addr}{xs:List V}{g:TG}{w:TS}{D:XG}{σ:St}{H:Hp}(Pv:Nat->St->Hp->Prop)(A:Pv 0 σ H)(E:∀i σ H,i<=xs.length->Pv i σ H->SqT K H a xs)
  (G:∀i x σ H,xs[i]? =some x->Pv i σ H->g x σ H fun t o=>w { D with nx:=Pv (i+1),ct:=Pv (i+1),bk:=D.nx } t o) (B:∀σ H,Pv xs.length σ H->D.nx σ H) :
  ∃W:Nat->Nat->St->Hp->Prop,(∃m,W 0 m σ H)/\∀i m σ H,W i m σ H ->
   ((Itt K a).stop i H/\D.nx σ H)\/((Itt K a).go i H/\∃N:St->Hp->Prop,(∀s c,N s c->∃u,u<m/\W (i+1) u s c)/\∀x c,(Itt K a).yld i H x c->g x σ c fun t o=>w { D with nx:=N,ct:=N,bk:=D.nx } t o):=by
 refine⟨fun i m σ H=>m=xs.length-i/\i<=xs.length/\Pv i σ H,⟨xs.length,by simp,qB _,A⟩,?_⟩
 rintro i m σ H ⟨rfl,C,p⟩;have q:=E i σ H C p;by_cases l:i<xs.length
 ·refine .inr ⟨⟨xs,xs[i],q,by simp[l]⟩,Pv (i+1),fun s c I=>⟨xs.length-(i+1),by omega,rfl,l,I⟩,fun x c y=>?_⟩
  obtain⟨e,y⟩:=y;subst e;exact G i x σ _ (y xs q) p
 ·have e:i=xs.length:=by omega
  subst e;exact .inl ⟨⟨xs,q,zy _⟩,B σ H p⟩
theorem jv{lo:Int}{n:Nat}{g:TG}{w:TS}{D:XG}{σ:St}{H:Hp}(Pv:Nat->St->Hp->Prop)(A:Pv 0 σ H)
  (C:∀i σ H,i<n->Pv i σ H->g (.int (lo+i)) σ H fun t o=>w { D with nx:=Pv (i+1),ct:=Pv (i+1),bk:=D.nx } t o) (B:∀σ H,Pv n σ H->D.nx σ H) :
  ∃W:Nat->Nat->St->Hp->Prop,(∃m,W 0 m σ H)/\∀i m σ H,W i m σ H ->
   ((Itr lo n).stop i H/\D.nx σ H)\/((Itr lo n).go i H/\∃N:St->Hp->Prop,(∀s c,N s c->∃u,u<m/\W (i+1) u s c)/\∀x c,(Itr lo n).yld i H x c->g x σ c fun t o=>w { D with nx:=N,ct:=N,bk:=D.nx } t o):=by
 refine⟨fun i m σ H=>m=n-i/\i<=n/\Pv i σ H,⟨n,by simp,qB _,A⟩,?_⟩
 rintro i m σ H ⟨rfl,G,p⟩;by_cases l:i<n
 ·refine .inr ⟨l,Pv (i+1),fun s c E=>⟨n-(i+1),by omega,rfl,l,E⟩,fun x c y=>?_⟩
  obtain⟨e,y⟩:=y;subst e y;exact C i σ _ l p
 ·have e:i=n:=by omega
  subst e;exact .inl ⟨zy _,B σ H p⟩
abbrev R2:=V->V->Hp->VK->Prop
def OpR(X:Cx)(f:Value->Value->Sem Value)(r:R2):Prop:=
 ∀(c:List (Addr×Obj)) (s:Shared) (σ:St) (H:Hp) (x y:V) (v u:Value) (Q:VK),Inv X c σ H s->RelV x v->RelV y u->r x y H Q ->
  wpAny (model X.prog X.w) X.A (f v u) (EP X c σ Q) X.xe s
def CallR(X:Cx)(f:Value)(r:List V->Hp->VK->Prop):Prop:=
 ∀(c:List (Addr×Obj)) (s:Shared) (σ:St) (H:Hp) (i:List V) (g:List Value) (Q:VK),Inv X c σ H s->Vals i g->r i H Q ->
  wpAny (model X.prog X.w) X.A (call f g) (EP X c σ Q) X.xe s
def tOp(r:R2)(i l:TE):TE:=fun σ H Q=>i σ H fun x c=>l σ c fun y g=>r x y g Q
inductive rI(C:Int->Int->Prop)(g:Int->Int->V)(x:V)(y:V)(H:Hp)(Q:VK):Prop
 | mk (i j:_) (_:x=.int i) (_:y=.int j) (_:C i j) (_:Q (g i j) H):rI C g x y H Q
inductive rI0(g:Int->Int->V)(x:V)(y:V)(H:Hp)(Q:VK):Prop
 | mk (i j:_) (_:x=.int i) (_:y=.int j) (_:Q (g i j) H):rI0 g x y H Q
section
variable{X:Cx}{a b c:Expr}{l o A:TE}{w:Pos}
theorem zgj(D:PE X a l)(hb:PE X b o){g:List (Addr×Obj)}{s:Shared}{σ:St}{H:Hp}{R:V->V->Hp->Prop}(I:Inv X g σ H s)
  (h:l σ H fun x t=>o σ t fun y i=>R x y i) {Q:Value->Shared->Prop} {f:Value->Value->Sem Value}
  (E:∀v u s2 x y i,Inv X g σ i s2->RelV x v->RelV y u->R x y i->wpAny (model X.prog X.w) X.A (f v u) Q X.xe s2) :
  wpAny (model X.prog X.w) X.A (eval a X.env) (fun v N=>wpAny (model X.prog X.w) X.A (eval b X.env) (fun u O=>wpAny (model X.prog X.w) X.A (f v u) Q X.xe O) X.xe N) X.xe s:=by
 refine thn (D g s σ H _ I h) fun v s1 ⟨x,t,B,L,G⟩=>?_
 refine thn (hb g s1 σ t _ B G) fun u s2 ⟨y,i,C,M,J⟩=>?_
 exact E v u s2 x y i C L M J
theorem zC{i:Operator}{r:R2}(D:OpR X (binaryOp i) r)(C:PE X a l)(hb:PE X b o):PE X (.BinOp a i b w) (tOp r l o):=by
 intro g s σ H Q I h;exact wpAny_BinOp (zgj C hb I h fun v u s2 x y t B E G q=>D g s2 σ t x y v u Q B E G q)
theorem opI{f:Value->Value->Sem Value}{C:Int->Int->Prop}{g:Int->Int->Int}
  (rule:∀(i j:Int) (t u:Tok) (s:Shared) (Q:Value->Shared->Prop) (E:Value->Shared->Prop),C i j->Q (.int (g i j) s.toks) { s with toks:=s.toks+1 }->wpAny (model X.prog X.w) X.A (f (.int i t) (.int j u)) Q E s) :
  OpR X f (rI C fun i j=>.int (g i j)):=by
 intro B s σ H x y v u Q I D G h;obtain⟨i,j,rfl,rfl,hc,q⟩:=h;obtain⟨t,rfl⟩:=D;obtain⟨J,rfl⟩:=G;exact rule i j t J s _ _ hc ⟨.int (g i j),H,I.tok _,⟨_,rfl⟩,q⟩
theorem zgY{f:Value->Value->Sem Value}{g:Int->Int->Int}
  (rule:∀(i j:Int) (t u:Tok) (s:Shared) (Q:Value->Shared->Prop) (E:Value->Shared->Prop),Q (.int (g i j) s.toks) { s with toks:=s.toks+1 }->wpAny (model X.prog X.w) X.A (f (.int i t) (.int j u)) Q E s) :
  OpR X f (rI0 fun i j=>.int (g i j)):=by
 intro B s σ H x y v u Q I C D h;obtain⟨i,j,rfl,rfl,q⟩:=h;obtain⟨t,rfl⟩:=C;obtain⟨G,rfl⟩:=D;exact rule i j t G s _ _ ⟨.int (g i j),H,I.tok _,⟨_,rfl⟩,q⟩
theorem zdR{f:Value->Value->Sem Value}{g:Int->Int->Bool}
  (rule:∀(i j:Int) (t u:Tok) (s:Shared) (Q:Value->Shared->Prop) (E:Value->Shared->Prop),Q (.bool (g i j)) s->wpAny (model X.prog X.w) X.A (f (.int i t) (.int j u)) Q E s) :
  OpR X f (rI0 fun i j=>.bl (g i j)):=by
 intro B s σ H x y v u Q I C D h;obtain⟨i,j,rfl,rfl,q⟩:=h;obtain⟨t,rfl⟩:=C;obtain⟨G,rfl⟩:=D;exact rule i j t G s _ _ ⟨.bl (g i j),H,I,rfl,q⟩
def zhx(i j:Int):Prop:=0<j/\j<1073741824
def zhX(i j:Int):Prop:=0<=j/\j<=1000000/\i.natAbs<2^64
def CMul(i j:Int):Prop:=(-(2^64)<i/\i<2^64)\/(-(2^64)<j/\j<2^64)
theorem CMul.ok{i j:Int}(h:CMul i j):IntMulOk i j:=by
 rcases h with ⟨g,s⟩ | ⟨g,s⟩
 ·exact .of_left (intBits_le_64 g s)
 ·exact .of_right (intBits_le_64 g s)
theorem qr:OpR X (binaryOp .Add) (rI0 fun i j=>.int (i+j)):=zgY fun _ _ _ _ _ _ _ q=>add_int q
theorem yH:OpR X (binaryOp .Sub) (rI0 fun i j=>.int (i-j)):=zgY fun _ _ _ _ _ _ _ q=>sub_int q
theorem xD:OpR X (binaryOp .Mult) (rI CMul fun i j=>.int (i*j)):=opI fun _ _ _ _ _ _ _ hc q=>mul_int q hc.ok
theorem YS:OpR X (binaryOp .FloorDiv) (rI zhx fun i j=>.int (i/j)):=opI fun i j _ _ _ _ _ hc q=>by
 have g:(0:Int)<j:=hc.1;have s:j<1073741824:=hc.2;exact floordiv_int (by omega) (by rw[zdd i (by omega)];exact q) (.inl (PyProof.noPylong_small (by omega)))
theorem xm:OpR X (binaryOp .Mod) (rI (fun _ j=>0<j) fun i j=>.int (i % j)):=opI fun i j _ _ _ _ _ hc q=>by
 have g:(0:Int)<j:=hc;exact mod_int' (by omega) (by rw[zdc i (by omega)];exact q)
theorem zfJ:OpR X (binaryOp .Pow) (rI zhX fun i j=>.int (i^j.toNat)):=opI fun _ _ _ _ _ _ _ hc q=>pow_int_small hc.1 hc.2.1 hc.2.2 q
end
def zgD:V->V->Bool
 | .non,.non=>true | .non,.int _=>true | .int _,.non=>true | .non,.bl _=>true | .bl _,.non=>true | .non,.str _=>true | .str _,.non=>true
 | .int _,.int _=>true | .bl _,.bl _=>true | .str _,.str _=>true | .byt _,.byt _=>true
 | .int _,.str _=>true | .str _,.int _=>true | .bl _,.str _=>true | .str _,.bl _=>true
 | _,_=>false
def rEq:R2:=fun x y H Q=>zgD x y=true/\Q (.bl (decide (x=y))) H
def rNe:R2:=fun x y H Q=>zgD x y=true/\Q (.bl (!decide (x=y))) H
theorem Y8{i j:Int}:decide (V.int i=V.int j)=(i==j):=by
 rw[vU];simp
theorem zcT{i j:Bool}:decide (V.bl i=V.bl j)=(i==j):=by
 rw[vU];simp
theorem Y7{i j:Str}:decide (V.str i=V.str j)=(i==j):=by
 rw[vU];simp
theorem Y9{i j:Array UInt8}:decide (V.byt i=V.byt j)=(i.toList==j.toList):=by
 rw[vU];cases i;cases j;simp
section
variable{X:Cx}{a b c:Expr}{g l A:TE}{w:Pos}
theorem zU{i:List (Addr×Obj)}{σ:St}{H:Hp}{s:Shared}{Q:VK}{k o:Bool}(I:Inv X i σ H s)(q:Q (.bl k) H)(e:k=o):EP X i σ Q (.bool o) s:=by
 subst e;exact⟨.bl k,H,I,rfl,q⟩
theorem yj:OpR X (compareOp .Eq) rEq:=by
 intro E s σ H x y v u Q I D o h;obtain⟨C,q⟩:=h;cases x with
 | non=>
  cases D;cases y with
  | non=>cases o;exact PySem.EqNone.eq_none_none (zU I q (by simp))
  | bl j=>cases o;exact PySem.EqNone.eq_none_bool (zU I q (by simp))
  | int j=>obtain⟨B,rfl⟩:=o;exact PySem.EqNone.eq_none_int (zU I q (by simp))
  | str j=>obtain⟨B,rfl⟩:=o;exact PySem.EqNone.eq_none_str (zU I q (by simp))
  | _=>exact absurd (show false=true from C) qE
 | bl i=>
  cases D;cases y with
  | non=>cases o;exact PySem.EqNone.eq_bool_none (zU I q (by simp))
  | bl j=>cases o;exact eq_bool (zU I q zcT)
  | str j=>obtain⟨B,rfl⟩:=o;exact PySem.EqMixed.eq_bool_str (zU I q (by simp))
  | _=>exact absurd (show false=true from C) qE
 | int i=>
  obtain⟨t,rfl⟩:=D;cases y with
  | non=>cases o;exact PySem.EqNone.eq_int_none (zU I q (by simp))
  | int j=>obtain⟨B,rfl⟩:=o;exact eq_int (zU I q Y8)
  | str j=>obtain⟨B,rfl⟩:=o;exact PySem.EqMixed.eq_int_str (zU I q (by simp))
  | _=>exact absurd (show false=true from C) qE
 | str i=>
  obtain⟨t,rfl⟩:=D;cases y with
  | non=>cases o;exact PySem.EqNone.eq_str_none (zU I q (by simp))
  | bl j=>cases o;exact PySem.EqMixed.eq_str_bool (zU I q (by simp))
  | int j=>obtain⟨B,rfl⟩:=o;exact PySem.EqMixed.eq_str_int (zU I q (by simp))
  | str j=>obtain⟨B,rfl⟩:=o;exact eq_str (zU I q Y7)
  | _=>exact absurd (show false=true from C) qE
 | byt i=>
  obtain⟨t,rfl⟩:=D;cases y with
  | byt j=>obtain⟨B,rfl⟩:=o;exact PySem.W.eq_bytes (zU I q Y9)
  | _=>exact absurd (show false=true from C) qE
 | _=>cases y<;>exact absurd (show false=true from C) qE
theorem Ja:OpR X (compareOp .NotEq) rNe:=by
 intro E s σ H x y v u Q I D o h;obtain⟨C,q⟩:=h;cases x with
 | non=>
  cases D;cases y with
  | non=>cases o;exact PySem.EqNone.ne_none_none (zU I q (by simp))
  | bl j=>cases o;exact PySem.EqNone.ne_none_bool (zU I q (by simp))
  | int j=>obtain⟨B,rfl⟩:=o;exact PySem.EqNone.ne_none_int (zU I q (by simp))
  | str j=>obtain⟨B,rfl⟩:=o;exact PySem.EqNone.ne_none_str (zU I q (by simp))
  | _=>exact absurd (show false=true from C) qE
 | bl i=>
  cases D;cases y with
  | non=>cases o;exact PySem.EqNone.ne_bool_none (zU I q (by simp))
  | bl j=>cases o;exact ne_bool (zU I q (congrArg not zcT))
  | str j=>obtain⟨B,rfl⟩:=o;exact PySem.EqMixed.ne_bool_str (zU I q (by simp))
  | _=>exact absurd (show false=true from C) qE
 | int i=>
  obtain⟨t,rfl⟩:=D;cases y with
  | non=>cases o;exact PySem.EqNone.ne_int_none (zU I q (by simp))
  | int j=>obtain⟨B,rfl⟩:=o;exact ne_int (zU I q (congrArg not Y8))
  | str j=>obtain⟨B,rfl⟩:=o;exact PySem.EqMixed.ne_int_str (zU I q (by simp))
  | _=>exact absurd (show false=true from C) qE
 | str i=>
  obtain⟨t,rfl⟩:=D;cases y with
  | non=>cases o;exact PySem.EqNone.ne_str_none (zU I q (by simp))
  | bl j=>cases o;exact PySem.EqMixed.ne_str_bool (zU I q (by simp))
  | int j=>obtain⟨B,rfl⟩:=o;exact PySem.EqMixed.ne_str_int (zU I q (by simp))
  | str j=>obtain⟨B,rfl⟩:=o;exact ne_str (zU I q (congrArg not Y7))
  | _=>exact absurd (show false=true from C) qE
 | byt i=>
  obtain⟨t,rfl⟩:=D;cases y with
  | byt j=>obtain⟨B,rfl⟩:=o;exact PySem.W.ne_bytes (zU I q (congrArg not Y9))
  | _=>exact absurd (show false=true from C) qE
 | _=>cases y<;>exact absurd (show false=true from C) qE
theorem zci:OpR X (compareOp .Lt) (rI0 fun i j=>.bl (decide (i<j))):=zdR fun _ _ _ _ _ _ _ q=>lt_int q
theorem Vg:OpR X (compareOp .LtE) (rI0 fun i j=>.bl (decide (i<=j))):=zdR fun _ _ _ _ _ _ _ q=>le_int q
theorem ze3:OpR X (compareOp .Gt) (rI0 fun i j=>.bl (decide (j<i))):=zdR fun _ _ _ _ _ _ _ q=>gt_int q
theorem ze4:OpR X (compareOp .GtE) (rI0 fun i j=>.bl (decide (j<=i))):=zdR fun _ _ _ _ _ _ _ q=>ge_int q
inductive Zm(x:V)(y:V)(H:Hp)(Q:VK):Prop
 | mk (i j:_) (_:x=.str i) (_:y=.str j) (_:Q (.bl (!(Builtin.Str.occurrences j i 0 j.length 1).isEmpty)) H):Zm x y H Q
theorem zaO:OpR X (compareOp .In) (Zm):=by
 intro o s σ H x y v u Q I B C h;obtain⟨i,j,rfl,rfl,q⟩:=h;obtain⟨t,rfl⟩:=B;obtain⟨D,rfl⟩:=C;exact in_str (zU I q rfl)
theorem yI:OpR X (compareOp .Is) (fun x y H Q=>y=.non/\Q (.bl (decide (x=.non))) H):=by
 intro i s σ H x y v u Q I o B h;obtain⟨rfl,q⟩:=h;cases B;refine is_none_gen (zU I q ?_)
 cases x<;>first
  | (cases o;rfl)
  | (obtain⟨t,rfl⟩:=o;rfl)
theorem zdO:OpR X (compareOp .IsNot) (fun x y H Q=>y=.non/\Q (.bl (!decide (x=.non))) H):=by
 intro i s σ H x y v u Q I o B h;obtain⟨rfl,q⟩:=h;cases B;refine isnot_none_gen (zU I q ?_)
 cases x<;>first
  | (cases o;rfl)
  | (obtain⟨t,rfl⟩:=o;rfl)
theorem OpR.or{f:Value->Value->Sem Value}{r o:R2}(h:OpR X f r)(C:OpR X f o):OpR X f (fun x y H Q=>r x y H Q\/o x y H Q):=by
 intro i s σ H x y v u Q I t B q;rcases q with q | q
 ·exact h i s σ H x y v u Q I t B q
 ·exact C i s σ H x y v u Q I t B q
theorem zJ(b:Expr){i:CmpOp}(h:i≠.In:=by decide)(o:i≠.NotIn:=by decide):behindInMarks i b=false:=by
 have e1:(i==CmpOp.In)=false:=by cases i<;>first| rfl | exact absurd rfl h
 have e2:(i==CmpOp.NotIn)=false:=by cases i<;>first| rfl | exact absurd rfl o
 cases b<;>simp[behindInMarks,e1,e2]
theorem qR{o:CmpOp}{r:R2}(E:OpR X (compareOp o) r)(C:PE X a g)(hb:PE X b l)(D:behindInMarks o b=false):PE X (.Compare a [o] [b] w) (tOp r g l):=by
 intro i s σ H Q I h;exact wpAny_Compare1 (zgj C hb I h fun v u s2 x y t B G J q=>E i s2 σ t x y v u Q B G J q) D
def zey(t:TE):TT:=fun σ H Q=>t σ H fun x i=>IsB x i Q
theorem zO{o:CmpOp}{r:R2}(M:OpR X (compareOp o) r)(J:PE X a g)(hb:PE X b l)(L:behindInMarks o b=false):PT X (.Compare a [o] [b] w) (zey (tOp r g l)):=by
 intro i s σ H Q I h;refine wpAny_isTrue_Compare1 (thn (J i s σ H _ I h) fun v s1 ⟨x,t,D,Y,N⟩=>thn (hb i s1 σ t _ D N) fun u s2 ⟨y,B,E,r2,O⟩=>
  thn (M i s2 σ B x y v u _ E Y r2 O) fun c s3 ⟨z,C,G,r3,k,e,U⟩=>?_) L
 subst e;cases r3;exact wI ⟨C,G,U⟩
def zbC(r u:R2)(g l A:TE):TE:=fun σ H Q=>g σ H fun x o=>l σ o fun y s=>r x y s fun z i=>∃k,z=.bl k /\
 (if k=true then A σ i fun B t=>u y B t Q else Q (.bl false) i)
theorem zce{B o:CmpOp}{r G:R2}(ho:OpR X (compareOp B) r)(t:OpR X (compareOp o) G)(ha:PE X a g)(hb:PE X b l)(hc:PE X c A)
  (hm:lastMarks [B,o] [b,c]=false:=by with_unfolding_all rfl):PE X (.Compare a [B,o] [b,c] w) (zbC r G g l A):=by
 intro i s σ H Q I h;refine Compare_chain (thn (ha i s σ H _ I h) fun v s1 ⟨x,L,O,r1,q1⟩=>chain_link (thn (hb i s1 σ L _ O q1) fun u s2 ⟨y,M,U,J,q2⟩=>
  thn (ho i s2 σ M x y v u _ U r1 J q2) fun d s3 ⟨z,C,D,r3,k,e,E⟩=>?_)) hm
 subst e;cases r3;refine wI ?_
 cases k with
 | false=>exact ite_ff ⟨.bl false,C,D,rfl,E⟩
 | true=>exact ite_tt (chain_last (thn (hc i s3 σ C _ D E) fun w' s4 ⟨z',N,Y,r4,q4⟩=>t i s4 σ N y z' u w' Q Y J r4 q4))
theorem zb6{B o:CmpOp}{r G:R2}(ho:OpR X (compareOp B) r)(t:OpR X (compareOp o) G)(ha:PE X a g)(hb:PE X b l)(hc:PE X c A)
  (hm:lastMarks [B,o] [b,c]=false:=by with_unfolding_all rfl):PT X (.Compare a [B,o] [b,c] w) (zey (zbC r G g l A)):=by
 intro i s σ H Q I h;refine isTrue_chain (thn (ha i s σ H _ I h) fun v s1 ⟨x,L,U,r1,q1⟩=>test_link (thn (hb i s1 σ L _ U q1) fun u s2 ⟨y,M,Y,J,q2⟩=>
  thn (ho i s2 σ M x y v u _ Y r1 J q2) fun d s3 ⟨z,C,D,r3,k,e,E⟩=>?_)) hm
 subst e;cases r3;refine wI ?_
 cases k with
 | false=>
  obtain⟨k',e',q'⟩:=E;cases e';exact ite_ff ⟨C,D,q'⟩
 | true=>
  refine ite_tt (test_last (thn (hc i s3 σ C _ D E) fun w' s4 ⟨z',N,I4,r4,q4⟩=>thn (t i s4 σ N y z' u w' _ I4 J r4 q4) fun d' s5 ⟨z2,O,I5,r5,k2,e2,q5⟩=>?_))
  subst e2;cases r5;exact wI ⟨O,I5,q5⟩
theorem yM:(sizeLine:Nat)<2^63:=by rw[sizeLine_eq];decide
inductive yB(x:V)(y:V)(H:Hp)(Q:VK):Prop
 | mk (i j:_) (_:x=.str i) (_:y=.str j) (_:i.length+j.length<=sizeLine) (_:Q (.str (i++j)) H):yB x y H Q
theorem Wf:OpR X (binaryOp .Add) (yB):=by
 intro o s σ H x y v u Q I C D h;obtain⟨i,j,rfl,rfl,B,q⟩:=h;obtain⟨t,rfl⟩:=C;obtain⟨E,rfl⟩:=D;exact add_str (fun E G=>⟨.str (i++j),H,I.tok _,⟨_,rfl⟩,q⟩) B
theorem vG{x:V}{i:List Value}(r:Vals [x] i):∃u,i=[u]/\RelV x u:=by
 cases r with
 | cons o s=>cases s;exact⟨_,rfl,o⟩
theorem XN{x y:V}{i:List Value}(r:Vals [x,y] i):∃u o,i=[u,o]/\RelV x u/\RelV y o:=by
 cases r with
 | cons s t=>
  cases t with
  | cons B C=>cases C;exact⟨_,_,rfl,s,B⟩
inductive QD(o:List V)(H:Hp)(Q:VK):Prop
 | mk (i:_) (_:o=[.int i]) (_:Q (.int (if i<0 then -i else i)) H):QD o H Q
theorem VA:CallR X (.builtin "abs") (QD):=by
 intro o s σ H D C Q I r h;obtain⟨i,rfl,q⟩:=h;obtain⟨u,rfl,t,rfl⟩:=vG r;exact call_abs_int fun u B=>⟨.int (if i<0 then -i else i),H,I.tok _,⟨_,rfl⟩,q⟩
inductive Zp(o:List V)(H:Hp)(Q:VK):Prop
 | mk (i j:_) (_:o=[.int i,.int j]) (_:Q (.int (if j>i then j else i)) H):Zp o H Q
theorem zbe(hc:X.calm=true):CallR X (.builtin "max") (Zp):=by
 intro B s σ H L G Q I r h;obtain⟨i,j,rfl,q⟩:=h;obtain⟨u,J,rfl,⟨t,rfl⟩,⟨D,rfl⟩⟩:=XN r;refine max_two_ints (I.ok.hd hc) fun C E k=>⟨_,H,I.kept k,?_,q⟩
 by_cases o:j>i
 ·rw[zr o,zr o];exact⟨_,rfl⟩
 ·rw[zn o,zn o];exact⟨_,rfl⟩
theorem Ji:CallR X (.type "int") (fun o H Q=>(∃i,o=[.int i]/\Q (.int i) H)\/∃k,o=[.bl k]/\Q (.int (if k then 1 else 0)) H):=by
 intro B s σ H o D Q I r h;rcases h with ⟨i,rfl,q⟩ | ⟨k,rfl,q⟩
 ·obtain⟨u,rfl,t,rfl⟩:=vG r
  exact call_int_int ⟨.int i,H,I,⟨_,rfl⟩,q⟩
 ·obtain⟨u,rfl,C⟩:=vG r
  cases C;exact call_int_bool ⟨.int (if k then 1 else 0),H,I.tok _,⟨_,rfl⟩,q⟩
inductive wM(o:List V)(H:Hp)(Q:VK):Prop
 | mk (i j:_) (_:o=[.int i,.int j]) (_:zhx i j) (_:∀p,H p=none->Q (.ref p) (upd H p (.tup [.int (i/j),.int (i % j)]))):wM o H Q
theorem Vz:CallR X (.builtin "divmod") (wM):=by
 intro B s σ H M J Q I r h;obtain⟨i,j,rfl,⟨D,E⟩,q⟩:=h;obtain⟨u,L,rfl,⟨t,rfl⟩,⟨G,rfl⟩⟩:=XN r;refine divmod_int (by omega) ?_ (.inl (PyProof.noPylong_small (by omega)))
 rw[zdd i (by omega),zdc i (by omega)]
 have C:H s.heap.objs.size=none:=I.hok.fresh (zy _);refine⟨.ref s.heap.objs.size,_,?_,rfl,q _ C⟩
 refine I.laid (fun b o e=>zI _ e) (zy _) ⟨by simp only[jy,y6];rw[sizeLine_eq];decide,[.int (i/j) s.toks,.int (i % j) (s.toks+1)],.cons ⟨_,rfl⟩ (.cons ⟨_,rfl⟩ .nil),?_⟩
 exact⟨⟨_,qv s.heap rfl,rfl,0,rfl⟩,_,qv s.heap rfl,rfl⟩
end
structure ObjM(h:Heap)(x dx C:Addr)(mA:Str->Option Value):Prop where
 obj:h.get? x=some (PySem.W.instObj C dx)
 ns:h.Ns1 dx mA
 ne:dx≠x
section
variable{g:Program}{w:World}{A:Around}{E:Value->Shared->Prop}{s:Shared}{K:W.Frag}{x i C f:Addr}{l:Str->Option Value}{c:Str}{v:Value}
end
theorem RelO.some_of{v:V}{o:Option Value}(r:RelO (some v) o):∃u,o=some u/\RelV v u:=by
 cases o with
 | none=>exact(show False from r).elim
 | some u=>exact⟨u,rfl,r⟩
theorem RelO.none_of{o:Option Value}(r:RelO none o):o=none:=by
 cases o with
 | none=>rfl
 | some u=>exact(show False from r).elim
section
variable{P:Program}{w:World}{H g:Hp}{h o:Heap}{a C i:Addr}{l c:List (Str×V)}
end
structure Cls(K:W.Frag)(C:Addr):Prop where
 pg:PySem.W.plainGet K C Str.empty=true
 hd:PySem.W.hasDictIn K C=true
 po:PySem.W.plainOver K C=true
 sa:PySem.W.findIn K (.ref C) "__setattr__" = some (some (.builtin "object.__setattr__"))
theorem Cls.get{K:W.Frag}{C:Addr}(c:Cls K C)(f:Str):PySem.W.plainGet K C f=true:=c.pg
structure Con(K:W.Frag)(C:Addr)(f:Str)(v:V)(u:Value):Prop where
 at_:PySem.W.findIn K (.ref C) f=some (some u)
 rel:RelV v u
 get:PySem.W.specialIn K u "__get__" = some none
 cp:PySem.W.copiedNames.contains f=false
structure Meth(K:W.Frag)(C:Addr)(m:Str)(f:Addr):Prop where
 at_:PySem.W.findIn K (.ref C) m=some (some (.ref f))
 fn:PySem.W.isFn K (.ref f)=true
 kp:PySem.W.keepIn K (.ref f)=true
section
variable{X:Cx}{c:List (Addr×Obj)}{σ:St}{H:Hp}{s:Shared}{a C g:Addr}{i:List (Str×V)}{f:Str}{v:V}{A:Around}{E:Value->Shared->Prop}
theorem Inv.made(I:Inv X c σ H s):Inv X c σ (upd (upd H s.heap.objs.size (.own (s.heap.objs.size+1))) (s.heap.objs.size+1) (.ins C s.heap.objs.size []))
  { s with heap:=(s.heap.push PySem.W.emptyDict).push (PySem.W.instObj C s.heap.objs.size) }:=by
 have e1:(s.heap.push PySem.W.emptyDict).get? s.heap.objs.size=some PySem.W.emptyDict:=qv s.heap rfl;have e2:((s.heap.push PySem.W.emptyDict).push (PySem.W.instObj C s.heap.objs.size)).get? (s.heap.objs.size+1)=some (PySem.W.instObj C s.heap.objs.size):=by
  have:=qv (s.heap.push PySem.W.emptyDict) (o:=PySem.W.instObj C s.heap.objs.size) rfl;rwa[jD] at this
 have t:(s.heap.push PySem.W.emptyDict).Ns s.heap.objs.size (fun _=>none):=⟨PySem.W.emptyDict,#[],_,e1,rfl,(fun e w=>absurd w (by simp)),fun _=>rfl⟩
 have l:=I.laid (a:=s.heap.objs.size) (o:=.own (s.heap.objs.size+1)) (h':=s.heap.push PySem.W.emptyDict) (t':=s.toks) (fun b u q=>zI _ q) (zy _) ⟨_,e1⟩
 refine l.laid (a:=s.heap.objs.size+1) (o:=.ins C s.heap.objs.size []) (t':=s.toks) (fun b u q=>zI _ q) (wc (jD _ _)) ?_
 have ne:s.heap.objs.size≠s.heap.objs.size+1:=zS (wn _);refine⟨by rw[zk ne,zc],qB _,ne,e2,fun _=>none,(Heap.Ns1.of_empty t).at fun o q=>zI _ q,fun _=>True.intro,fun y hy=>absurd rfl hy⟩
end
section
variable{X:Cx}{o e c:Expr}{f:Str}{l g i:Pos}{s t:TE}
end
section
variable{X:Cx}{g:List (Addr×Obj)}{σ:St}{H:Hp}{s:Shared}{A:Around}{E:Value->Shared->Prop}{Q:Value->Shared->Prop}{c:Value}{b:Bool}
inductive Qz(K:W.Frag)(H:Hp):V->Value->Prop where
 | non:Qz K H .non (.type "NoneType")
 | bl (x:Bool):Qz K H (.bl x) (.type "bool")
 | int (i:Int):Qz K H (.int i) (.type "int")
 | str (x:Str):Qz K H (.str x) (.type "str")
 | flt (x:UInt64):Qz K H (.flt x) (.type "float")
 | lst {a:Addr} {t:List V} (e:H a=some (.lst t)):Qz K H (.ref a) (.type "list")
 | frz {a:Addr} {o:Obj} {t:List V} (e:H a=some (.frz o (.lst t))):Qz K H (.ref a) (.type "list")
 | tup {a:Addr} {t:List V} (e:H a=some (.tup t)):Qz K H (.ref a) (.type "tuple")
 | dK {a:Addr} {l:List (Key×V)} (e:H a=some (.dK l)):Qz K H (.ref a) (.type "dict")
 | dT {a:Addr} {l:List (List Key×V)} (e:H a=some (.dT l)):Qz K H (.ref a) (.type "dict")
 | ins {a C u:Addr} {w:List (Str×V)} (e:H a=some (.ins C u w)) (D:Cls K C) (G:PySem.W.findIn K (.ref C) "__class__" = some (some (.builtin "object.__class__")))
   (J:PySem.W.specialIn K (.builtin "object.__class__") "__get__" = some (some (.builtin "getset_descriptor.__get__"))) (B:PySem.W.takesIn K (.builtin "object.__class__")=some true)
   (I:PySem.W.mroIn K C (.type "object")=some true):Qz K H (.ref a) (.ref C)
end
structure Room(k:Nat)(A:Around):Prop where
 hd:A.handled=none
 dp:A.depth+3*k+5<recursionLimit
 un:A.units+16*k+200<cLine
 gd:A.guards=some []
theorem Room.mono{j k:Nat}{A:Around}(r:Room k A)(h:j<=k):Room j A:=⟨r.hd,by have:=r.dp;omega,by have:=r.un;omega,r.gd⟩
theorem Room.m{j k:Nat}{A:Around}(r:Room k A)(h:j<=k:=by decide):Room j A:=r.mono h
theorem Room.deeper{k:Nat}{A:Around}(r:Room (k+1) A)(c:Env):Room k (A.deeper c):=
 ⟨r.hd,by have:=r.dp;show A.depth+1+3*k+5<_;omega,by have:=r.un;show A.units+3+16*k+200<_;omega,r.gd⟩
theorem Room.in1{k:Nat}{A:Around}(r:Room (k+1) A):Room k A.in1:=
 ⟨r.hd,by have:=r.dp;show A.depth+3*k+5<_;omega,by have:=r.un;show A.units+1+16*k+200<_;omega,r.gd⟩
theorem Room.depth{k:Nat}{A:Around}(r:Room k A):A.depth<recursionLimit:=by have:=r.dp;omega
theorem Room.units{k:Nat}{A:Around}(r:Room k A):A.units+64<cLine:=by have:=r.un;omega
theorem Room.units0{k:Nat}{A:Around}(r:Room k A):A.units<cLine:=by have:=r.un;omega
def zgr:TA:=fun _ H Q=>Q [] H
def QT(i:TE)(l:TA):TA:=fun σ H Q=>i σ H fun x c=>l σ c fun o g=>Q (x::o) g
section
variable{X:Cx}{e:Expr}{g:List Expr}{i:TE}{t:TA}{c:Pos}
theorem zb:PA X [] zgr:=fun _ _ _ _ H Q I h=>Qq ⟨[],H,I,.nil,h⟩
theorem za(C:PE X e i)(D:PA X g t)(E:starEach (e::g) X.env=(false,eval e X.env)::starEach g X.env:=by rfl):PA X (e::g) (QT i t):=by
 intro c l s σ H Q I h;rw[E];show wpAny _ _ (spliced ((false,eval e X.env)::backTo c (starEach g X.env))) _ _ s;refine wZ (thn (C l s σ H _ I h) fun u s1 ⟨x,o,A,L,G⟩=>?_)
 exact thn (D c l s1 σ o _ A G) fun O s2 ⟨N,w,B,M,J⟩=>⟨x::N,w,B,.cons L M,J⟩
def zhz(t:TA):TE:=fun σ H Q=>t σ H fun o l=>o.length<=sizeLine/\∀p,l p=none->Q (.ref p) (upd l p (.tup o))
def zhE(t:TA):TE:=fun σ H Q=>t σ H fun o l=>o.length<=sizeLine/\∀p,l p=none->Q (.ref p) (upd l p (.lst o))
theorem jH{C}(h:PA X g t):PE X (.Tuple g C c) (zhz t):=by
 intro l s σ H Q I hq;refine wpAny_Tuple_spliced (thn (h c l s σ H _ I hq) fun B s1 ⟨D,o,w,r,z,q⟩=>⟨by rw[<- r.length];exact z,?_⟩)
 have A:o s1.heap.objs.size=none:=w.hok.fresh (zy _);refine⟨.ref s1.heap.objs.size,upd o s1.heap.objs.size (.tup D),w.laid (t':=s1.toks) (fun b u e=>zI _ e) (zy _) ?_,rfl,q _ A⟩
 exact⟨z,B,r,⟨_,qv _ rfl,rfl,_,rfl⟩,_,qv _ rfl,rfl⟩
theorem qU(h:PA X g t):PE X (.List g c) (zhE t):=by
 intro l s σ H Q I hq;refine wpAny_List_spliced (thn (h c l s σ H _ I hq) fun B s1 ⟨C,o,w,r,z,q⟩=>⟨by rw[<- r.length];exact z,?_⟩)
 have A:o s1.heap.objs.size=none:=w.hok.fresh (zy _);refine⟨.ref s1.heap.objs.size,upd o s1.heap.objs.size (.lst C),w.laid (t':=s1.toks) (fun b u e=>zI _ e) (zy _) ?_,rfl,q _ A⟩
 exact⟨z,B,0,r,qv _ rfl⟩
end
abbrev Sp:=List V->Hp->VK->XK->Prop
abbrev CXT:=List Env->Hp->Shared->XK->Value->Shared->Prop
structure Env0(P:Program)(w:World)(K:W.Frag)(mg:Str->Option Value)(base:Heap)(A:Around)(outer:List Env)(s:Shared)(H:Hp):Prop where
 frames:A.frames=some outer
 mod:Mod K mg base
 bs:∀b o,base.get? b=some o->s.heap.get? b=some o/\H b=none
 bsz:base.objs.size<=s.heap.objs.size
 funs:s.heap.FunFrames base outer
 frf:∀b∈frs outer,H b=none
 hok:HOk P w H s.heap
 bare:AllBare s.gens
def CE(c:List Env)(P:Program)(w:World)(H:Hp)(s:Shared)(Q:VK)(u:Value)(g:Shared):Prop:=
 ∃v i,g.os=s.os/\AllBare g.gens/\Un (frs c) [] H i s.heap g.heap/\HOk P w i g.heap/\RelV v u/\Q v i
def CR(i:CXT)(c:List Env)(P:Program)(w:World)(H:Hp)(s:Shared)(Q:VK)(E:XK)(r:Result)(g:Shared):Prop:=
 match r with
 | .ok (.ret u)=>CE c P w H s Q u g
 | .ok _=>False
 | .error e=>i c H s E e g
structure FnOk(P:Program)(w:World)(K:W.Frag)(mg:Str->Option Value)(base:Heap)(CX:CXT)(k:Nat)(f:Addr)(fd:FuncData)(ps:List Str)(sp:Sp):Prop where
 len:∀vs H Q E,sp vs H Q E->vs.length=ps.length
 run:∀(A:Around) (outer:List Env) (s:Shared) (H:Hp) (args:Args) (us:List Value) (vs:List V) (Q:VK) (E:XK),Room k A->Env0 P w K mg base A outer s H->BindsTo s fd args (ps.zip us)->Vals vs us->sp vs H Q E ->
  codeAny (model P w) A (.call (.ref f) args) (CR CX outer P w H s Q E) s
theorem FnOk.mono{P:Program}{w:World}{K:W.Frag}{o:Str->Option Value}{c:Heap}{i:CXT}{j k:Nat}{f:Addr}{l:FuncData}{t:List Str}{u:Sp}(F:FnOk P w K o c i j f l t u)(h:j<=k) :
  FnOk P w K o c i k f l t u:=⟨F.len,fun A g s H args C D Q E B=>F.run A g s H args C D Q E (B.mono h)⟩
theorem FnOk.imp{P:Program}{w:World}{K:W.Frag}{u:Str->Option Value}{c:Heap}{o:CXT}{k:Nat}{f:Addr}{t:FuncData}{B:List Str}{C l:Sp}(F:FnOk P w K u c o k f t B C)
  (h:∀i H Q E,l i H Q E->C i H Q E):FnOk P w K u c o k f t B l:=
 ⟨fun i H Q E q=>F.len i H Q E (h _ _ _ _ q),fun A g s H args J i Q E G D hb hv I=>F.run A g s H args J i Q E G D hb hv (h _ _ _ _ I)⟩
theorem Env0.in1{P:Program}{w:World}{K:W.Frag}{i:Str->Option Value}{g:Heap}{A:Around}{c:List Env}{s:Shared}{H:Hp}(e:Env0 P w K i g A c s H) :
  Env0 P w K i g A.in1 c s H:=⟨e.frames,e.mod,e.bs,e.bsz,e.funs,e.frf,e.hok,e.bare⟩
section
variable{X:Cx}{c:List (Addr×Obj)}{σ:St}{H:Hp}{s i:Shared}
theorem Inv.env0(I:Inv X c σ H s):Env0 X.prog X.w X.K X.mg X.base X.A X.stack s H:=
 ⟨I.ok.frames,I.ok.mod,I.bs,zX I.ok.bsz I.sz,I.stack,I.stkFree,I.hok,I.bare⟩
theorem Inv.after{Q:VK}{u:Value}(I:Inv X c σ H s)(h:CE X.stack X.prog X.w H s Q u i):EP X c σ Q u i:=by
 obtain⟨v,A,os,l,un,o,r,q⟩:=h;obtain⟨B,g,d,t,w⟩:=i;obtain rfl:w=s.os:=os;exact⟨v,A,I.call (h':=B) (g':=g) (d':=d) (t':=t) (ch:=[]) un o l (fun b z=>absurd z (by simp)),r,q⟩
end
def zez(i:Sp)(c:List V)(E:XK)(t:TA):TE:=fun σ H Q=>t σ H fun l g=>i (l++c) g Q E
def Binds(K:W.Frag)(l:FuncData)(i:List Str)(g:List Value):Prop:=
 ∀(s:Shared) (c:List Value),K.In s.heap->(c++g).length=i.length->BindsTo s l ⟨c,[]⟩ (i.zip (c++g))
theorem Binds.all{K:W.Frag}{i:FuncData}{g:List Str}(h:∀c:List Value,c.length=g.length->bindArgs i ⟨c,[]⟩=pure (g.zip c)):Binds K i g []:=fun s c _ l=>by
 rw[yw] at l ⊢;exact .of_eq (h c l)
def W6(i:CXT)(X:Cx)(E:XK):Prop:=∀(c:List (Addr×Obj)) (σ:St) (H:Hp) (s:Shared) (e:Value) (g:Shared),Inv X c σ H s->i X.stack H s E e g->X.xe e g
section
variable{X:Cx}{A:CXT}{k:Nat}{f C:Addr}{B:FuncData}{w:List Str}{D:Sp}{c:List V}{g:List Value}{E:XK}{x m:Str}{p i G:Pos}{e o:Expr}{l:List Expr}{J:TE}{t:TA}
theorem zfp{L:List (Addr×Obj)}{σ:St}{H:Hp}{s:Shared}{Q:VK}{M:List Value}{N:List V}(F:FnOk X.prog X.w X.K X.mg X.base A k f B w D)(hr:Room k X.A)(hb:Binds X.K B w g)(Y:Vals c g)(hx:W6 A X E)
  (I:Inv X L σ H s) (r:Vals N M) (h:D (N++c) H Q E):wpAny (model X.prog X.w) X.A (call (.ref f) M) (EP X L σ Q) X.xe s:=by
 have O:Vals (N++c) (M++g):=r.append Y;have hl:(M++g).length=w.length:=by rw[<- O.length];exact F.len _ _ _ _ h
 refine wpAny_call (codeAny_mono (F.run X.A X.stack s H ⟨M,[]⟩ (M++g) (N++c) Q E hr I.env0 (hb s M I.kIn hl) O h) fun r s' hq=>?_)
 cases r with
 | error e=>exact hx L σ H s e s' I hq
 | ok U=>
  cases U with
  | ret u=>exact I.after hq
  | next=>exact False.elim hq
  | brk=>exact False.elim hq
  | cont=>exact False.elim hq
theorem zdN(F:FnOk X.prog X.w X.K X.mg X.base A k f B w D)(hr:Room k X.A)(hg:Gl X x)(hm:X.mg x=some (.ref f))(hk:PySem.W.keepIn X.K (.ref f)=true)(hb:Binds X.K B w g)(U:Vals c g)(hx:W6 A X E)
  (O:PA X (e::l) t) (L:(x==("__debug__":Str))=false:=by decide) (Y:starEach (e::l) X.env=(false,eval e X.env)::starEach l X.env:=by rfl) (M:(backTo i (starEach l X.env)).any (·.1)=false:=by rfl) :
  PE X (.Call (.Name x p) (e::l) [] i) (zez D c E t):=by
 intro u s σ H Q I h;refine y8 (YX I hg hm ?_ L)
 refine PySem.W.callWith_K (h₀:=X.base) I.ok.mod.kin hk (thn (O i u s σ H _ I h) fun us s1 ⟨vs,H1,N,r,q⟩=>⟨N.kIn,?_⟩) Y M
 exact zfp F hr hb U hx N r q
structure Mk(K:W.Frag)(C f:Addr):Prop where
 makes:PySem.W.makesIn K C=true
 init:PySem.W.findIn K (.ref C) "__init__" = some (some (.ref f))
 fn:PySem.W.isFn K (.ref f)=true
 kp:PySem.W.keepIn K (.ref C)=true
end
section
variable{X:Cx}{w:CXT}{k:Nat}{f C:Addr}{fd:FuncData}{ps ks:List Str}{D:Sp}{E:XK}{x m:Str}{p u c i:Pos}{e o:Expr}{A:List Expr}{l:List Keyword}{H G:TE}{t I:TA}{B:Option Str}
structure KBinds(K:W.Frag)(fd:FuncData)(ps ks:List Str)(g:List Value->List Value->List Value)(gV:List V->List V->List V):Prop where
 to:∀(s:Shared) (us ws:List Value),K.In s.heap->(g us ws).length=ps.length->BindsTo s fd ⟨us,ks.zip ws⟩ (ps.zip (g us ws))
 rel:∀{vs:List V} {us:List Value} {zs:List V} {ws:List Value},Vals vs us->Vals zs ws->Vals (gV vs zs) (g us ws)
variable{g:List Value->List Value->List Value}{gV:List V->List V->List V}
end
structure zB(N P:List Str)(sc:Scope):Prop where
 kind:sc.kind=.function
 co:sc.isCoroutine=false
 gen:sc.isGenerator=false
 nd:N.Nodup
 pre:N.take P.length=P
 par:∀x∈P,sc.names.lookup x=some .local\/sc.names.lookup x=some .cell
 nofree:∀y∈sc.names,y.2≠.free
theorem Jj{kindOf:Str->Option NameKind}{x:Str}:∀{c:List (Str×Value)} {m:Str->Option Value},(∀v,(x,v)∉c)->bindL kindOf c m x=m x
 | [],_,_=>rfl
 | (n,v)::r,m,h=>by
  unfold bindL;rw[Jj fun w g=>h w (qw _ g)]
  split
  ·have:x≠n:=by rintro rfl;exact h v jU
   simp[this]
  ·rfl
theorem Jl{kindOf:Str->Option NameKind}{x:Str}:∀{c:List (Str×Value)} {m:Str->Option Value},(∀v,(x,v)∉c)->bindC kindOf c m x=m x
 | [],_,_=>rfl
 | (n,v)::r,m,h=>by
  unfold bindC;rw[Jl fun w g=>h w (qw _ g)]
  split
  ·rfl
  ·have:x≠n:=by rintro rfl;exact h v jU
   simp[this]
theorem Jk{kindOf:Str->Option NameKind}{x:Str}{v:Value}:∀{P:List Str} {c:List Value} {i:Nat} {m:Str->Option Value},P.Nodup->P[i]? =some x->c[i]? =some v->kindOf x=some .local ->
  bindL kindOf (P.zip c) m x=some v
 | [],_,_,_,_,h,_,_=>by simp at h
 | _::_,[],_,_,_,_,h,_=>by simp at h
 | p::P,w::c,0,m,o,g,l,hk=>by
  simp at g l;subst g;subst l
  show bindL kindOf ((p,w)::P.zip c) m p=_;unfold bindL;rw[Jj fun v hv=>(vT.mp o).1 (Ww hv).1,zr hk]
  simp
 | p::P,w::c,i+1,m,o,g,l,hk=>by
  show bindL kindOf ((p,w)::P.zip c) m x=_;unfold bindL;exact Jk (i:=i) (vT.mp o).2 (by simpa using g) (by simpa using l) hk
theorem Jm{kindOf:Str->Option NameKind}{x:Str}{v:Value}:∀{P:List Str} {c:List Value} {i:Nat} {m:Str->Option Value},P.Nodup->P[i]? =some x->c[i]? =some v->kindOf x≠some .local ->
  bindC kindOf (P.zip c) m x=some v
 | [],_,_,_,_,h,_,_=>by simp at h
 | _::_,[],_,_,_,_,h,_=>by simp at h
 | p::P,w::c,0,m,o,g,l,hk=>by
  simp at g l;subst g;subst l
  show bindC kindOf ((p,w)::P.zip c) m p=_;unfold bindC;rw[Jl fun v hv=>(vT.mp o).1 (Ww hv).1,zn hk]
  simp
 | p::P,w::c,i+1,m,o,g,l,hk=>by
  show bindC kindOf ((p,w)::P.zip c) m x=_;unfold bindC;exact Jm (i:=i) (vT.mp o).2 (by simpa using g) (by simpa using l) hk
def Za(N:List Str)(c:List V):St:=c.map some++List.replicate (N.length-c.length) none
def za8(o:CXT)(P:Program)(w:World)(K:W.Frag)(mg:Str->Option Value)(base:Heap)(N:List Str)(g:Str)(c:Scope)(f:Addr)(l:Value)(A:Around)(outer:List Env)(s:Shared)(H:Hp)(E:XK):Cx where
 prog:=P
 w:=w
 K:=K
 mg:=mg
 base:=base
 A:=A.deeper (envOfC g c s.heap.objs.size f l)
 N:=N
 s₀:=s
 H₀:=H
 env:=envOfC g c s.heap.objs.size f l
 outer:=outer
 stack:=envOfC g c s.heap.objs.size f l::outer
 ex:=[]
 calm:=true
 fn:=fun _=>true
 pn:=[]
 xe:=fun e u=>wpAny (model P w) (A.deeper (envOfC g c s.heap.objs.size f l)) (leaving (envOfC g c s.heap.objs.size f l) e) (fun _ i=>o outer H s E e i) (fun t i=>o outer H s E t i) u
theorem Vy{g:Scope}{n:Nat}{x:Str}(h:g.names.lookup x=some .cell):∃c,(cellsFrom n g.names []).lookup x=some c:=by
 have q:=PySem.W.cellsFrom_some g.names n [] (.inl h);exact Option.isSome_iff_exists.mp q
theorem za1{CX:CXT}{P:Program}{w:World}{K:W.Frag}{U:Str->Option Value}{B:Heap}{N G:List Str}{o:Str}{g:Scope}{f:Addr}{M:Value}{A:Around}{l:List Env}{s s1:Shared}{H:Hp}{E:XK}{Y:List Value}{I:List V}
  (S:zB N G g) (hd:A.handled=none) (C:Env0 P w K U B A l s H) (hl:I.length=G.length) (r:Vals I Y)
  (x:InCallC s s.heap.objs.size (bindL (envOfC o g s.heap.objs.size f M).kindOf (G.zip Y) fun _=>none) (cellsFrom (s.heap.objs.size+1) g.names []) (bindC (envOfC o g s.heap.objs.size f M).kindOf (G.zip Y) fun _=>none) s1) :
  Inv (za8 CX P w K U B N o g f M A l s H E) [] (Za N I) H s1:=by
 have a0:G.length<=N.length:=by have:=congrArg List.length S.pre;rw[qD] at this;omega
 obtain⟨O,tk,rfl,hk⟩:=x.done;have D:∀b:Addr,b∉(za8 CX P w K U B N o g f M A l s H E).ex:=fun b z=>absurd (show b∈([]:List Addr) from z) (by simp)
 refine⟨⟨C.mod,S.kind,rfl,rfl,zy _,fun y z c O t=>?_,fun y hy=>?_,fun y c _ h=>?_,fun _=>hd,Around.frames_deeper C.frames,.inr ⟨rfl,rfl⟩,fun b z=>absurd z (D b),C.bs,C.bsz,fun b _ _=>D b,fun b z=>absurd z (D b),C.funs,C.frf⟩,
  rfl,C.bare,Un.kept hk,⟨_,x.toInCall.ns,fun i y v O t h3=>?_⟩,fun y c h=>⟨_,x.cell y c h⟩,C.hok.fresh (zy _),fun y c h=>?_,fun p J=>absurd (show p∈([]:List (Addr×Obj)) from J) (by simp),C.hok.kept hk,?_⟩
 ·exact name_of_addr x.apart (wK O) (wK t)
 ·have hy:g.names.lookup y=some .cell\/g.names.lookup y=some .free:=hy
  rcases hy with hy | hy
  ·exact Vy hy
  ·exact absurd rfl (S.nofree _ (wK hy))
 ·exact wT (x.above y c (wK h))
 ·have Q:i<I.length:=by
   unfold Za at t;by_cases Q:i<I.length
   ·exact Q
   ·rw[jW (by simpa using Q)] at t
    rw[List.getElem?_replicate] at t
    split at t<;>cases t
  have ha:I[i]? =some v:=by
   unfold Za at t;rw[jV (by simpa using Q),zY] at t
   cases e:I[i]? with
   | none=>rw[e] at t;cases t
   | some a=>rw[e] at t;cases t;rfl
  obtain⟨u,hu,rv⟩:=r.get ha;have J:G[i]? =some y:=by
   rw[<- S.pre,List.getElem?_take_of_lt (by omega)];exact O
  have L:G.Nodup:=by rw[<- S.pre];exact S.nd.sublist (WE _ _)
  refine⟨u,rv,?_⟩
  rcases S.par y (qm J) with k | k
  ·exact .inl ⟨k,Jk L J hu k⟩
  ·obtain⟨c,e⟩:=Vy (n:=s.heap.objs.size+1) k
   refine .inr ⟨.inl k,c,e,?_⟩
   have q:=x.cell y c e;rw[Jm L J hu (by show g.names.lookup y≠_;rw[k];decide)] at q
   exact q
 ·exact C.hok.fresh (wT (x.above y c (wK h)))
 ·unfold Za
  show _=N.length;rw[zL,zo,xQ];omega
theorem zhl{CX:CXT}{P:Program}{w:World}{K:W.Frag}{mg:Str->Option Value}{B:Heap}{k:Nat}{f:Addr}{L i:Str}{C:Arguments}{body:List Stmt}{c:Scope}{dV kV Y pm l ct oc:Value}{an od:Option Addr}
  {af:Array (Option Value)} {N ps:List Str} {sp:Sp} (lk:K.lookup f=some ⟨oc,od,.func (PySem.W.fnOf L i C body c dV kV Y pm an l ct),af⟩) (ac:PySem.W.codeIn K l i=true) (S:zB N ps c)
  (ab:∀D H Q E,sp D H Q E->D.length=ps.length)
  (M:∀(A:Around) (g:List Env) (s:Shared) (H:Hp) (D:List V) (Q:VK) (E:XK),Room k (A.deeper (envOfC i c s.heap.objs.size f l))->sp D H Q E ->
   ∃t,PSs (za8 CX P w K mg B N i c f l A g s H E) body t/\t { nx:=fun _ G=>Q .non G,rt:=Q } (Za N D) H) :
  FnOk P w K mg B CX (k+1) f (PySem.W.fnOf L i C body c dV kV Y pm an l ct) ps sp:=by
 refine⟨ab,fun A g s H args us D Q E hr e0 hb r aa=>?_⟩
 have hl:=ab _ _ _ _ aa;have KX:K.In s.heap:=e0.mod.kin.keeps fun b o e=>(e0.bs b o e).1
 have ae:s.heap.NoLimit:=e0.mod.nolimit.keeps fun b o e=>(e0.bs b o e).1
 have O:∀y∈ps.zip us,c.names.lookup y.1=some .local\/(c.names.lookup y.1=some .cell/\((cellsFrom (s.heap.objs.size+1) c.names []).lookup y.1).isSome=true):=fun ⟨n,v⟩ hy=>by
  rcases S.par n (Ww hy).1 with q | q
  ·exact .inl q
  ·exact .inr ⟨q,PySem.W.cellsFrom_some _ _ _ (.inl q)⟩
 refine codeAny_call_function hr.depth (KX _ _ lk) rfl S.co S.gen rfl (PySem.W.codeRec_of KX ac) (hb _ _ _ _ ?_)
 refine wpAny_newFunctionEnv_cells S.kind O fun ag he s1 x=>?_
 subst he;refine⟨ae.keeps x.toInCall.keep,codeAny_func ?_⟩
 obtain⟨t,ht,hq⟩:=M A g s H D Q E (hr.deeper _) aa;have I:Inv (za8 CX P w K mg B N i c f l A g s H E) [] (Za N D) H s1:=za1 S hr.hd e0 hl r x;refine qN (ht [] s1 (Za N D) H _ I hq) (fun fl s' U=>?_) fun e s' U=>U
 have a0:∀{σ':St} {G:Hp} {v:V} {u:Value},Inv (za8 CX P w K mg B N i c f l A g s H E) [] σ' G s'->RelV v u->Q v G->CE g P w H s Q u s':=
  fun {σ' G v u} J rv q=>⟨v,G,J.os,J.bare,J.base,J.hok,rv,q⟩
 cases fl with
 | ret u=>
  obtain⟨v,σ',G,J,rv,q⟩:=U;exact a0 J rv q
 | next=>
  obtain⟨σ',G,J,q⟩:=U;exact a0 (v:=V.non) (u:=Value.none) J rfl q
 | brk=>
  obtain⟨_,_,_,q⟩:=U;exact False.elim q
 | cont=>
  obtain⟨_,_,_,q⟩:=U;exact False.elim q
section
variable{X:Cx}{x:Str}{p c:Pos}{e:Expr}{g:List Expr}{t:TA}{id T:String}{r:List V->Hp->VK->Prop}
def tCB(r:List V->Hp->VK->Prop)(t:TA):TE:=fun σ H Q=>t σ H fun l i=>r l i Q
theorem zq(hc:CallR X (.builtin id) r)(C:Gl X x)(D:X.mg x=none)(hv:bootBuiltins x=some (.builtin id))(A:PA X (e::g) t)(E:x ≠ "__name__" :=by decide)(l:(x==("__debug__":Str))=false:=by decide)
  (B:starEach (e::g) X.env=(false,eval e X.env)::starEach g X.env:=by rfl) (o:(backTo c (starEach g X.env)).any (·.1)=false:=by rfl):PE X (.Call (.Name x p) (e::g) [] c) (tCB r t):=by
 intro i s σ H Q I h;refine y8 (xE I C D hv ?_ E l)
 exact PyProof.Rows.callWith_builtin1 (thn (A c i s σ H _ I h) fun L s1 ⟨M,u,w,J,G⟩=>hc i s1 σ u M L Q w J G) B o
theorem qe(hc:CallR X (.type T) r)(C:Gl X x)(D:X.mg x=none)(hv:bootBuiltins x=some (.type T))(A:PA X (e::g) t)(E:x ≠ "__name__" :=by decide)(l:(x==("__debug__":Str))=false:=by decide)
  (B:starEach (e::g) X.env=(false,eval e X.env)::starEach g X.env:=by rfl) (o:(backTo c (starEach g X.env)).any (·.1)=false:=by rfl):PE X (.Call (.Name x p) (e::g) [] c) (tCB r t):=by
 intro i s σ H Q I h;refine y8 (xE I C D hv ?_ E l)
 exact Zk (thn (A c i s σ H _ I h) fun L s1 ⟨M,u,w,J,G⟩=>hc i s1 σ u M L Q w J G) B o
end
end L2
namespace HT
open PySem PyProof.Rows
section
open PySem.SeqAt
open PySem.AutoSeq1 (wpAny_loadPart')
open PySem.MeetsSeq PySem.MeetsSeq2 PySem.MeetsSeq3
end
section
variable{c:Program}{w:World}{A:Around}{E:Value->Shared->Prop}{s:Shared}
theorem cat_tup{t b:Addr}{l g:List Value}{Q:Value->Shared->Prop}(Y:IsTup s.heap t l.toArray)(hb:IsTup s.heap b g.toArray)(hv:l≠[])
  (O:g=[]->Q (.ref t) s) (U:g≠[]->Q (.ref s.heap.objs.size) { s with heap:=s.heap.push { cls:=.type "tuple",data:=.seq (l++g).toArray } })
  (H:l.length+g.length<=sizeLine):wpAny (model c w) A (binaryOp .Add (.ref t) (.ref b)) Q E s:=by
 obtain⟨⟨cls,J,data,N⟩,D,hc,n,L⟩:=id Y;obtain⟨⟨I,o,data2,C⟩,i,u,M,B⟩:=id hb;simp only at hc L u B;subst hc L u B;have e:l.toArray++g.toArray=(l++g).toArray:=by simp
 by_cases G:g=[]
 ·exact concat_meets ⟨_,D,rfl⟩ ⟨_,i,rfl⟩ noFill_tuple_add seq_tuple_add WV WY (W0 _ _)
   (tuple_addW1 t b l.toArray g.toArray n M J o N C (by simpa using hv) (by simp[G])) ⟨D,i,O G⟩
 ·refine concat_meets ⟨_,D,rfl⟩ ⟨_,i,rfl⟩ noFill_tuple_add seq_tuple_add WV WY (W0 _ _)
   (tuple_addW2 t b l.toArray g.toArray n M J o N C (by simpa using hv) (by simpa using G) (by rw[zZ,zZ];exact H)) ⟨D,i,?_⟩
  rw[e];exact U G
def sIx(n d:Nat):Option Int->Nat
 | none=>d
 | some v=>if v<0 then(v+(n:Int)).toNat else min v.toNat n
theorem sIx_none(n d:Nat):sIx n d none=d:=rfl
theorem sIx_nat(n d k:Nat):sIx n d (some (k:Int))=min k n:=by
 show(if(k:Int)<0 then((k:Int)+(n:Int)).toNat else min (k:Int).toNat n)=min k n
 rw[zn (by omega),jT]
theorem zfo(n d:Nat)(g:d<=n)(o:Option Int):sIx n d o<=n:=by
 cases o with
 | none=>exact g
 | some v=>
  show(if v<0 then(v+(n:Int)).toNat else min v.toNat n)<=n
  by_cases hv:v<0
  ·rw[zr hv];omega
  ·rw[zn hv];exact Nat.min_le_right _ _
theorem zab(v:Int)(n d:Nat):(if v<0 then max (v+(n:Int)) 0 else min v (n:Int))=((sIx n d (some v):Nat):Int):=by
 show(if v<0 then max (v+(n:Int)) 0 else min v (n:Int))=(((if v<0 then(v+(n:Int)).toNat else min v.toNat n):Nat):Int)
 by_cases hv:v<0
 ·simp only[zr hv];omega
 ·simp only[zn hv];omega
theorem W5(lo g:Option Int)(n:Nat):Builtin.Slice.sliceAdjust lo g 1 (n:Int)=(((sIx n 0 lo:Nat):Int),((sIx n n g:Nat):Int)):=by
 have i:¬((1:Int)<0):=by omega
 unfold Builtin.Slice.sliceAdjust;simp only[i,if_false];refine yS ?_ ?_
 ·cases lo with
  | none=>rfl
  | some v=>exact zab v n 0
 ·cases g with
  | none=>rfl
  | some v=>exact zab v n n
theorem V7(i j:Nat):Builtin.Slice.slicePlaces (i:Int) (j:Int) 1=j-i:=by
 unfold Builtin.Slice.slicePlaces;have g:(1:Int)>0:=by omega
 simp only[g,if_true,Int.ediv_one];split<;>omega
theorem ZN{v:Value}{o:Option Int}{Q:Option Int->Shared->Prop}(p:IsPart v o)(h:Q o s):wpAny (model c w) A (Builtin.Slice.slicePartIndex v) Q E s:=by
 cases p with
 | none=>exact slicePart_none h
 | int i t=>exact slicePart_int h
theorem sliceApplied_gen{u:Addr}{o t:Value}{lo i:Option Int}{n:Nat}{Q:Int×Int×Nat->Shared->Prop}(C:s.heap.IsSliceOf u o t .none)(D:IsPart o lo)(G:IsPart t i)
  (h:Q (((sIx n 0 lo:Nat):Int),1,sIx n n i-sIx n 0 lo) s):wpAny (model c w) A (Builtin.Slice.sliceApplied (.ref u) (pure (n:Int))) Q E s:=by
 obtain⟨os,l,B,g⟩:=id C;unfold Builtin.Slice.sliceApplied Builtin.Slice.sliceFields;refine zd (zd (jm l g (x:=o) rfl (zd (jm l g (x:=t) rfl (zd (jm l g (x:=.none) rfl (zp ?_)))))))
 refine zd (slicePart_none ?_)
 show wpAny _ _ (if((1:Int)==0)=true then _ else _) _ _ s
 rw[zn (by decide)]
 refine zd (ZN D (zd (ZN G (zd (zp ?_)))))
 show wpAny _ _ (match Builtin.Slice.sliceAdjust lo i 1 (n:Int) with | (lo,i)=>pure (lo,(1:Int),Builtin.Slice.slicePlaces lo i 1)) _ _ s
 rw[W5 lo i n];show wpAny _ _ (pure (((sIx n 0 lo:Nat):Int),(1:Int),Builtin.Slice.slicePlaces ((sIx n 0 lo:Nat):Int) ((sIx n n i:Nat):Int) 1)) _ _ s;rw[V7];exact zp h
theorem zb8(g:Array Value)(i k:Nat):((List.range k).filterMap fun(m:Nat)=>g[((i:Int)+(m:Int)*1).toNat]?).toArray=((g.toList.drop i).take k).toArray:=by
 have e:(fun(m:Nat)=>g[((i:Int)+(m:Int)*1).toNat]?)=fun m=>g[i+m]?:=by
  funext m
  have:((i:Int)+(m:Int)*1).toNat=i+m:=by omega
  rw[this]
 rw[e];have:=pick_run g i k;rw[List.filterMap_map] at this;have e2:((fun x=>g[x]?)∘fun x=>i+x)=fun m=>g[i+m]?:=rfl
 rw[e2] at this;rw[this]
theorem getItem_tuple_cut{t G:Addr}{g:Array Value}{J L:Value}{lo l:Option Int}{Q:Value->Shared->Prop}(o:IsTup s.heap t g)(H:s.heap.IsSliceOf G J L .none)(U:IsPart J lo)(Y:IsPart L l)
  (O:¬(sIx g.size 0 lo=0/\sIx g.size g.size l=g.size))
  (h:Q (.ref s.heap.objs.size) { s with heap:=s.heap.push { cls:=.type "tuple",data:=.seq ((g.toList.drop (sIx g.size 0 lo)).take (sIx g.size g.size l-sIx g.size 0 lo)).toArray } })
  (N:g.size<=sizeLine):wpAny (model c w) A (getItem (.ref t) (.ref G)) Q E s:=by
 have i:sizeOk (.seq ((g.toList.drop (sIx g.size 0 lo)).take (sIx g.size g.size l-sIx g.size 0 lo)).toArray):=by
  show((g.toList.drop (sIx g.size 0 lo)).take (sIx g.size g.size l-sIx g.size 0 lo)).toArray.size<=sizeLine;rw[zZ,qD,vh,qF];omega
 have hj:sIx g.size g.size l<=g.size:=zfo _ _ (zy _) l;obtain⟨os,D,B,M⟩:=id H;have u:s.TypeIs (.ref G) "slice" :=⟨os,D,B⟩;unfold getItem;try with_reducible refine je ?_
 first| refine zd (zp ?_) | skip
 refine zd (wpAny_sequenceKey o.typeIs (by decide) ?_)
 refine zd (vC (name:=Str.ofString "__getitem__") o.typeIs W3
  (xq W3 o.typeIs entry_tuple_getitem ?_ (args_tuple_getitem _ _)))
 show wpAny _ _ (Builtin.Tuple.tupleItemsOf (.ref t) >>= _) _ _ s;refine zd (tupleItemsOf_ o ?_)
 refine zd (wb u ?_)
 rw[zr (by decide)]
 refine zd (sliceApplied_gen H U Y ?_)
 have C:¬((((sIx g.size 0 lo:Nat):Int)==0&&(1:Int)==1&&(sIx g.size g.size l-sIx g.size 0 lo)==g.size)=true):=by
  intro q;rw[jx,jx] at q;have q1:((sIx g.size 0 lo:Nat):Int)=0:=eq_of_beq q.1.1;have q2:sIx g.size g.size l-sIx g.size 0 lo=g.size:=eq_of_beq q.2;exact O ⟨by omega,by omega⟩
 show wpAny _ _ (if(((sIx g.size 0 lo:Nat):Int)==0&&(1:Int)==1&&(sIx g.size g.size l-sIx g.size 0 lo)==g.size)=true then _ else _) _ _ s
 rw[zn C,zb8];first
  | exact zd (m:=Builtin.Tuple.tupleExact _) (xO (zp ⟨_,rfl,zp h⟩) i)
  | exact zd (m:=Builtin.Tuple.tupleExact _) (xO (zd (zp (zp ⟨_,rfl,zp h⟩))) i)
  | exact zd (zd (m:=Builtin.Tuple.tupleExact _) (xO (zp (zp ⟨_,rfl,zp h⟩)) i))
  | exact zd (zd (m:=Builtin.Tuple.tupleExact _) (xO (zp ⟨_,rfl,zp h⟩) i))
end
end HT
namespace L2
open PySem PySem.Spec PyProof.Rows
abbrev TO:=St->Hp->(Option Int->Hp->Prop)->Prop
def PO(X:Cx)(e:Option Expr)(t:TO):Prop:=
 ∀(c:List (Addr×Obj)) (s:Shared) (σ:St) (H:Hp) (Q:Option Int->Hp->Prop),Inv X c σ H s->t σ H Q ->
  wpAny (model X.prog X.w) X.A (evalPart e X.env) (fun u i=>∃o g,Inv X c σ g i/\IsPart u o/\Q o g) X.xe s
def zdx:TO:=fun _ H Q=>Q none H
def zgp(t:TE):TO:=fun σ H Q=>t σ H fun x c=>IsI x c fun i c=>Q (some i) c
theorem Wl{c:List Int}:∀{g:List Value},Vals (c.map V.int) g->IntsAre g c:=by
 induction c with
 | nil=>intro g r;rw[J8] at r;cases r;exact .nil
 | cons n c i=>
  intro g r;rw[jn] at r;cases r with
  | cons l o=>
   obtain⟨t,e⟩:=l;subst e;exact .cons n t (i o)
section
variable{X:Cx}{e:Expr}{g:TE}{lo c:Option Expr}{C B:TO}{D A:Pos}
theorem vn:PO X none zdx:=by
 intro i s σ H Q I h;rw[evalPart_none];exact zp ⟨none,H,I,.none,h⟩
theorem xr(h:PE X e g):PO X (some e) (zgp g):=by
 intro l s σ H Q I E;rw[evalPart_some];refine thn (h l s σ H _ I E) fun u s1 ⟨x,o,w,J,G⟩=>?_
 obtain⟨i,rfl,q⟩:=G;obtain⟨t,rfl⟩:=J;exact⟨some i,o,w,.int i t,q⟩
def SlR(X:Cx)(r:V->Option Int->Option Int->Hp->VK->Prop):Prop:=
 ∀(i:List (Addr×Obj)) (s:Shared) (σ:St) (H:Hp) (x:V) (v o t:Value) (lo c:Option Int) (l:Addr) (Q:VK),Inv X i σ H s->RelV x v->s.heap.IsSliceOf l o t .none->IsPart o lo->IsPart t c->r x lo c H Q ->
  ∃T id,typeLookup (.type T) "__getitem__" = pure (some (.builtin id))/\s.TypeIs v T/\wpAny (model X.prog X.w) X.A (getItem v (.ref l)) (EP X i σ Q) X.xe s
theorem SlR.or{r u:V->Option Int->Option Int->Hp->VK->Prop}(h:SlR X r)(L:SlR X u):SlR X (fun x lo c H Q=>r x lo c H Q\/u x lo c H Q):=by
 intro i s σ H x v G J lo c E Q I w l o t q;rcases q with q | q
 ·exact h i s σ H x v G J lo c E Q I w l o t q
 ·exact L i s σ H x v G J lo c E Q I w l o t q
def tSl(r:V->Option Int->Option Int->Hp->VK->Prop)(g:TE)(C B:TO):TE:=fun σ H Q=>g σ H fun x i=>C σ i fun l o=>B σ o fun u s=>r x l u s Q
theorem xa{r:V->Option Int->Option Int->Hp->VK->Prop}(hr:SlR X r)(Y:PE X e g)(hl:PO X lo C)(hu:PO X c B):PE X (.Subscript e (.Slice lo c none A) D) (tSl r g C B):=by
 intro i s σ H Q I h;refine Subscript_ (thn (Y i s σ H _ I h) fun v s1 ⟨x,G,L,r1,q1⟩=>?_)
 refine wpAny_Slice (thn (hl i s1 σ G _ L q1) fun t s2 ⟨l,J,M,pl,q2⟩=>thn (hu i s2 σ J _ M q2) fun w o ⟨u,E,N,pu,q3⟩=>?_)
 rw[evalPart_none];refine zp ?_
 have O:Inv X i σ E { o with heap:=o.heap.push { cls:=.type "slice",data:=.fields #[t,w,.none] } }:=N.kept (t':=o.toks) fun b ob q=>zI _ q
 obtain⟨T,id,U,ht,hg⟩:=hr i { o with heap:=o.heap.push { cls:=.type "slice",data:=.fields #[t,w,.none] } } σ E x v t w l u o.heap.objs.size Q O r1 (Heap.IsSliceOf.new ..) pl pu q3;show wpAny (model X.prog X.w) X.A (subscriptTail e (.Slice lo c none A) v (.ref o.heap.objs.size)) (EP X i σ Q) X.xe { o with heap:=o.heap.push { cls:=.type "slice",data:=.fields #[t,w,.none] } };exact tail_any (ops:=[.ref o.heap.objs.size,v]) ht U hg (by with_unfolding_all rfl)
def jd(i:List V)(lo c:Option Int):List V:=(i.drop (HT.sIx i.length 0 lo)).take (HT.sIx i.length i.length c-HT.sIx i.length 0 lo)
theorem xN(i:List V)(lo c:Option Int):(jd i lo c).length<=i.length:=by
 unfold jd;rw[qD,vh];omega
inductive zgO(K:W.Frag)(x:V)(lo:Option Int)(c:Option Int)(H:Hp)(Q:VK):Prop
 | mk (a i:_) (_:x=.ref a) (_:SqT K H a i) (_:¬(HT.sIx i.length 0 lo=0/\HT.sIx i.length i.length c=i.length)) (_:∀p,H p=none->Q (.ref p) (upd H p (.tup (jd i lo c)))):zgO K x lo c H Q
theorem zfm:SlR X (zgO X.K):=by
 intro E s σ H x v vl vu lo c U Q I N G L M h;obtain⟨a,l,rfl,hx,J,q⟩:=h;cases N;obtain⟨t,r,u,w⟩:=I.tuple hx;have i:t.toArray.size=l.length:=by rw[zZ];exact r.length.symm
 refine⟨"tuple",_,W3.lookup,u.typeIs,?_⟩
 refine HT.getItem_tuple_cut u G L M (by rw[i];exact J) ?_ (by rw[i];exact w)
 rw[i];refine⟨.ref s.heap.objs.size,_,I.laid (t':=s.toks) (o:=.tup (jd l lo c)) (fun b O q=>zI _ q) (zy _) ?_,rfl,q _ (I.hok.fresh (zy _))⟩
 exact⟨zX (xN l lo c) w,_,(r.drop (HT.sIx l.length 0 lo)).take (HT.sIx l.length l.length c-HT.sIx l.length 0 lo),⟨IsTup.new _ _,_,qv _ rfl,rfl⟩⟩
inductive ze0(K:W.Frag)(x:V)(y:V)(H:Hp)(Q:VK):Prop
 | mk (a b l i:_) (_:x=.ref a) (_:y=.ref b) (_:SqT K H a l) (_:SqT K H b i) (_:l≠[]) (_:l.length+i.length<=sizeLine) (_:(i=[]->Q (.ref a) H)) (_:(i≠[]->∀p,H p=none->Q (.ref p) (upd H p (.tup (l++i))))):ze0 K x y H Q
theorem Vals.nil_iff{l:List V}{i:List Value}(r:Vals l i):i=[]↔l=[]:=by
 cases r with
 | nil=>simp
 | cons _ _=>simp
theorem zdQ:OpR X (binaryOp .Add) (ze0 X.K):=by
 intro G s σ H x y v u Q I U Y h;obtain⟨a,b,xs,ys,rfl,rfl,J,hb,hx,t,N,O⟩:=h;cases U;cases Y;obtain⟨L,l,M,_⟩:=I.tuple J;obtain⟨E,i,A,_⟩:=I.tuple hb;refine HT.cat_tup M A (fun z=>hx (l.nil_iff.mp z)) (fun z=>⟨.ref a,H,I,rfl,N (i.nil_iff.mp z)⟩) (fun z=>?_) (by rw[<- l.length,<- i.length];exact t)
 refine⟨.ref s.heap.objs.size,_,I.laid (t':=s.toks) (o:=.tup (xs++ys)) (fun b ob q=>zI _ q) (zy _) ?_,rfl,O (fun w=>z (i.nil_iff.mpr w)) _ (I.hok.fresh (zy _))⟩
 exact⟨by rw[zL];exact t,_,l.append i,⟨IsTup.new _ _,_,qv _ rfl,rfl⟩⟩
end
def ixN(n:Nat)(i:Int):Option Nat:=if 0<=i then(if i<n then some i.toNat else none) else if -(n:Int)<=i then some (i+n).toNat else none
def atI{α:Type}(c:List α)(i:Int):Option α:=(ixN c.length i).bind fun j=>c[j]?
theorem YZ{n:Nat}{i:Int}{j:Nat}(h:ixN n i=some j):seqIndex? i n=some j/\j<n/\ -(n:Int)<=i/\i<n:=by
 unfold ixN at h;by_cases g:0<=i
 ·rw[zr g] at h
  by_cases c:i<n
  ·rw[zr c] at h
   have e:i.toNat=j:=jq h;exact⟨by rw[seqIndex_of g c,e],by omega,by omega,c⟩
  ·rw[zn c] at h;cases h
 ·rw[zn g] at h
  by_cases c:-(n:Int)<=i
  ·rw[zr c] at h
   have e:(i+n).toNat=j:=jq h;exact⟨by rw[seqIndex_neg (by omega) c,e],by omega,c,by omega⟩
  ·rw[zn c] at h;cases h
theorem JY{α:Type}{c:List α}{i:Int}{v:α}(h:atI c i=some v):∃j,seqIndex? i c.length=some j/\c[j]? =some v/\j<c.length/\ -(c.length:Int)<=i/\i<c.length:=by
 unfold atI at h;cases e:ixN c.length i with
 | none=>rw[e] at h;cases h
 | some j=>
  rw[e] at h;obtain⟨g,l,o,s⟩:=YZ e;exact⟨j,g,h,l,o,s⟩
theorem j9{α:Type}{xs:List α}{j:Nat}{v:α}(h:xs[j]? =some v):atI xs (j:Int)=some v:=by
 have c:j<xs.length:=(zK.mp h).1;have e:ixN xs.length (j:Int)=some j:=by
  unfold ixN;rw[zr (by omega),zr (by omega)];simp
 unfold atI;rw[e];exact h
def zeu(b:Expr):Prop:=∀o i,subscripted b false o i=operate [o,i] (getItem o i)
def IxR(X:Cx)(r:R2):Prop:=
 ∀(i c:Expr) (g:List (Addr×Obj)) (s:Shared) (σ:St) (H:Hp) (x y:V) (v u:Value) (Q:VK),Inv X g σ H s->RelV x v->RelV y u->r x y H Q ->
  subscripted c false v u=operate [v,u] (getItem v u)->wpAny (model X.prog X.w) X.A (subscriptTail i c v u) (EP X g σ Q) X.xe s
def MtR(X:Cx)(id:String)(r:V->List V->Hp->VK->Prop):Prop:=
 ∀(c:List (Addr×Obj)) (s:Shared) (σ:St) (H:Hp) (x:V) (i:List V) (v:Value) (g:List Value) (Q:VK),Inv X c σ H s->RelV x v->Vals i g->r x i H Q ->
  wpAny (model X.prog X.w) X.A (call (.builtin id) (v::g)) (EP X c σ Q) X.xe s
section
variable{X:Cx}{a b:Expr}{G J:TE}{E:Pos}
theorem IxR.or{r A:R2}(h:IxR X r)(N:IxR X A):IxR X (fun x y H Q=>r x y H Q\/A x y H Q):=by
 intro i c l s σ H x y v u Q I L M q w;rcases q with q | q
 ·exact h i c l s σ H x y v u Q I L M q w
 ·exact N i c l s σ H x y v u Q I L M q w
theorem MtR.or{id:String}{r l:V->List V->Hp->VK->Prop}(h:MtR X id r)(L:MtR X id l):MtR X id (fun x i H Q=>r x i H Q\/l x i H Q):=by
 intro c s σ H x i v A Q I w u q;rcases q with q | q
 ·exact h c s σ H x i v A Q I w u q
 ·exact L c s σ H x i v A Q I w u q
theorem zH{r:R2}(A:IxR X r)(w:PE X a G)(hb:PE X b J)(L:zeu b):PE X (.Subscript a b E) (tOp r G J):=by
 intro c s σ H Q I h;exact Subscript_ (zgj w hb I h fun v u s2 x y i l M N q=>A a b c s2 σ i x y v u Q l M N q (L _ _))
inductive zfs(K:W.Frag)(x:V)(y:V)(H:Hp)(Q:VK):Prop
 | mk (p c i v:_) (_:x=.ref p) (_:y=.int i) (_:SqL K H p c) (_:atI c i=some v) (_:Q v H):zfs K x y H Q
inductive zfr(K:W.Frag)(x:V)(y:V)(H:Hp)(Q:VK):Prop
 | mk (p c i v:_) (_:x=.ref p) (_:y=.int i) (_:SqT K H p c) (_:atI c i=some v) (_:Q v H):zfr K x y H Q
inductive zgR(x:V)(y:V)(H:Hp)(Q:VK):Prop
 | mk (z i c:_) (_:x=.str z) (_:y=.int i) (_:z.length<=sizeLine) (_:atI z.cps.toList i=some c) (_:Q (.str ⟨#[c]⟩) H):zgR  x y H Q
theorem qo:IxR X (zfs X.K):=by
 intro Y U c s σ H x y v u Q I rx ry h hs;obtain⟨p,xs,i,z,rfl,rfl,hq,he,q⟩:=h;cases rx;obtain⟨t,rfl⟩:=ry;obtain⟨M,r,N,hz⟩:=I.list hq;obtain⟨j,A,h2,h3,h4,h5⟩:=JY he;obtain⟨w,ew,O⟩:=r.get h2;have hl:=r.length;have hn:=yM;have l:EP X c σ Q w s:=⟨z,H,I,O,q⟩;by_cases h0:0<=i
 ·have L:i.toNat=j:=by
   rw[seqIndex_of h0 h5] at A;exact jq A
  exact item_listR N.isList h0 (by omega) (by rw[L];simpa using ew) l hs
 ·have L:(i+(M.toArray.size:Int)).toNat=j:=by
   rw[seqIndex_neg (by omega) h4] at A
   rw[zZ,<- hl];exact jq A
  exact subscriptTail_builtinR (x:=w) N.isList.typeIs slot_list_getitem.lookup
   (wpAny_getItem_list_neg (Q:=fun r s'=>r=w/\EP X c σ Q r s') N.isList (by omega) (by rw[zZ]<;>omega) (by omega) (by rw[L];simpa using ew) ⟨rfl,l⟩) hs
theorem qH:IxR X (zfr X.K):=by
 intro M L c s σ H x y v u Q I rx ry h hs;obtain⟨p,xs,i,z,rfl,rfl,hq,he,q⟩:=h;cases rx;obtain⟨t,rfl⟩:=ry;obtain⟨a0,r,N,hz⟩:=I.tuple hq;obtain⟨j,U,Y,h3,h4,h5⟩:=JY he;obtain⟨w,O,A⟩:=r.get Y;have hl:=r.length;have hn:=yM;have l:EP X c σ Q w s:=⟨z,H,I,A,q⟩;exact subscriptTail_builtinR (x:=w) N.typeIs slot_tuple_getitem.lookup
  (getItem_tuple (j:=j) (Q:=fun r s'=>r=w/\EP X c σ Q r s') N (by omega) (by omega) (by rw[zZ,<- hl];exact U) (by simpa using O) ⟨rfl,l⟩) hs
theorem zf7:IxR X zgR:=by
 intro w l L s σ H x y v u Q I rx ry h hs;obtain⟨z,i,c,rfl,rfl,hz,U,q⟩:=h;obtain⟨t,rfl⟩:=rx;obtain⟨t',rfl⟩:=ry;obtain⟨j,A,M,h3,N,O⟩:=JY U;have Y:z.cps.toList.length=z.length:=by simp[Str.length]
 rw[Y] at A N O;have hn:=yM;exact tail_any (typeIs_str s z t) slot_str_getitem.lookup (getItem_str (c:=c) (by
  have e1:decide (i< -(2^63:Int))=false:=qP (by omega)
  have e2:decide (i≥2^63)=false:=qP (by omega)
  rw[e1,e2,Bool.or_false]) (by rw[A];simpa using M) ⟨.str ⟨#[c]⟩,H,I.tok _,⟨_,rfl⟩,q⟩) hs
theorem Wj(c:List Value)(n j:Nat)(u:Value):Obj.mapSeq (·.setIfInBounds j u) { cls:=.type "list",data:=.seq c.toArray n }={ cls:=.type "list",data:=.seq (c.set j u).toArray n }:=by
 simp[Obj.mapSeq]
theorem Inv.lst{i:List (Addr×Obj)}{σ:St}{H:Hp}{s:Shared}{p:Addr}{l:List V}(I:Inv X i σ H s)(h:H p=some (.lst l)) :
  ∃(c:List Value) (n:Nat),Vals l c/\s.heap.get? p=some { cls:=.type "list",data:=.seq c.toArray n }/\l.length<=sizeLine:=by
 obtain⟨z,c,n,r,e⟩:=I.hok p _ h;exact⟨c,n,r,e,z⟩
theorem Inv.lstUpd{i:List (Addr×Obj)}{σ:St}{H:Hp}{s:Shared}{p:Addr}{O A:List V}{l c:List Value}{n w:Nat}{f:Obj->Obj}(I:Inv X i σ H s)(h:H p=some (.lst O))
  (M:s.heap.get? p=some { cls:=.type "list",data:=.seq l.toArray n }) (L:f { cls:=.type "list",data:=.seq l.toArray n }={ cls:=.type "list",data:=.seq c.toArray w }) (r:Vals A c) (N:A.length<=sizeLine) (t:Nat) :
  Inv X i σ (upd H p (.lst A)) { s with heap:=s.heap.update p f,toks:=t }:=by
 have e:(s.heap.update p f).get? p=some { cls:=.type "list",data:=.seq c.toArray w }:=by
  rw[xP f M (by rw[L]<;>rfl),L]
 refine I.write (x:=p) (e:=p) (by rw[h];trivial) (.inl rfl) (fun b u hb q=>(vY _ _ (zN hb)).trans q) ⟨_,e⟩ ?_
 exact⟨N,c,w,r,e⟩
inductive zeY(o:V)(i:V)(v:V)(H:Hp)(Q:Hp->Prop):Prop
 | mk (p c k j:_) (_:o=.ref p) (_:i=.int k) (_:H p=some (.lst c)) (_:ixN c.length k=some j) (_:Q (upd H p (.lst (c.set j v)))):zeY  o i v H Q
theorem ZO:zht X zeY:=by
 intro l s σ H o i v ov iv u Q I ro ri rv h;obtain⟨p,xs,k,j,rfl,rfl,Y,hj,q⟩:=h;cases ro;obtain⟨t,rfl⟩:=ri;obtain⟨c,n,r,L,hz⟩:=I.lst Y;obtain⟨w,h2,O,U⟩:=YZ hj;have A:=r.length;have hn:=yM;have M:Inv X l σ (upd H p (.lst (xs.set j v))) { s with heap:=s.heap.update p (Obj.mapSeq (·.setIfInBounds j u)) }:=
  I.lstUpd Y L (Wj c n j u) (r.set rv j) (by rw[Qm];exact hz) s.toks
 by_cases N:0<=k
 ·have hk:k.toNat=j:=by
   rw[seqIndex_of N U] at w;exact jq w
  exact PySem.W.ki_setAt L N (by omega) (by rw[zZ,<- A];exact U) (by rw[hk];exact⟨_,M,q⟩)
 ·have hk:(k+(c.toArray.size:Int)).toNat=j:=by
   rw[seqIndex_neg (by omega) O] at w
   rw[zZ,<- A];exact jq w
  exact PySem.W.ki_setBack L (by omega) (by rw[zZ,<- A];exact O) (by omega) (by rw[hk];exact⟨_,M,q⟩)
theorem Jw(lo c:Option Int)(n:Nat):(sliceBounds lo c none n).1=((HT.sIx n 0 lo:Nat):Int)/\(sliceBounds lo c none n).2.1=((HT.sIx n n c:Nat):Int)/\(sliceBounds lo c none n).2.2=1:=by
 refine⟨?_,?_,rfl⟩
 ·cases lo with
  | none=>simp[sliceBounds,HT.sIx]
  | some i=>
   simp only[sliceBounds,HT.sIx,Option.getD_none,show(1:Int)>0 by decide,if_true]
   by_cases h:i<0
   ·simp only[h,if_true]<;>omega
   ·simp only[h,if_false]<;>omega
 ·cases c with
  | none=>simp[sliceBounds,HT.sIx]
  | some i=>
   simp only[sliceBounds,HT.sIx,Option.getD_none,show(1:Int)>0 by decide,if_true]
   by_cases h:i<0
   ·simp only[h,if_true]<;>omega
   ·simp only[h,if_false]<;>omega
theorem QH(c:List Value)(lo i:Option Int):slicePick c.toArray lo i none=((c.drop (HT.sIx c.length 0 lo)).take (HT.sIx c.length c.length i-HT.sIx c.length 0 lo)).toArray:=by
 obtain⟨l,s,u⟩:=Jw lo i c.toArray.size;unfold slicePick;rw[l,s,u];simp only[sliceRange_one,pick_run,zZ]<;>rfl
inductive zgQ(K:W.Frag)(x:V)(lo:Option Int)(c:Option Int)(H:Hp)(Q:VK):Prop
 | mk (a i:_) (_:x=.ref a) (_:SqL K H a i) (_:∀p,H p=none->Q (.ref p) (upd H p (.lst (jd i lo c)))):zgQ K x lo c H Q
theorem ww:SlR X (zgQ X.K):=by
 intro w s σ H x v vl vu lo l sl Q I U A N O h;obtain⟨a,c,rfl,hx,q⟩:=h;cases U;obtain⟨M,r,u,L⟩:=I.list hx;have i:=r.length;refine⟨"list",_,slot_list_getitem.lookup,u.isList.typeIs,?_⟩
 refine wpAny_getItem_list_slice u.isList A N O .none (by simp) ?_ (by rw[zZ]<;>omega)
 rw[QH,<- i];refine⟨.ref s.heap.objs.size,_,I.laid (t':=s.toks) (o:=.lst (jd c lo l)) (fun b Y q=>zI _ q) (zy _) ?_,rfl,q _ (I.hok.fresh (zy _))⟩
 exact⟨zX (xN c lo l) L,_,0,(r.drop (HT.sIx c.length 0 lo)).take (HT.sIx c.length c.length l-HT.sIx c.length 0 lo),qv _ rfl⟩
def x9:V->Bool
 | .non=>true
 | .bl _=>true
 | .int _=>true
 | .str _=>true
 | _=>false
def eqV:V->V->Bool
 | .non,.non=>true
 | .bl a,.bl b=>a==b
 | .bl a,.int b=>(if a then 1 else 0)==b
 | .int a,.bl b=>a==(if b then 1 else 0)
 | .int a,.int b=>a==b
 | .str a,.str b=>a==b
 | _,_=>false
theorem Wm{A:Around}{s:Shared}{y x:V}{u v:Value}(w:RelV y u)(c:RelV x v)(H:x9 y=true)(l:x9 x=true):SeqAt.EqAt A s u v (eqV y x):=by
 cases y with
 | non=>
  cases w;cases x with
  | non=>cases c;exact y4 _
  | bl b=>cases c;exact SeqAt.EqAt.none_bool b
  | int b=>obtain⟨t,rfl⟩:=c;exact SeqAt.EqAt.none_int b t
  | str b=>obtain⟨t,rfl⟩:=c;exact SeqAt.EqAt.none_str b t
  | _=>exact absurd (show false=true from l) qE
 | bl a=>
  cases w;cases x with
  | non=>cases c;exact SeqAt.EqAt.bool_none a
  | bl b=>cases c;exact SeqAt.EqAt.bool_bool a b
  | int b=>obtain⟨t,rfl⟩:=c;exact SeqAt.EqAt.bool_int a b t
  | str b=>obtain⟨t,rfl⟩:=c;exact SeqAt.EqAt.bool_str a b t
  | _=>exact absurd (show false=true from l) qE
 | int a=>
  obtain⟨i,rfl⟩:=w;cases x with
  | non=>cases c;exact SeqAt.EqAt.int_none a i
  | bl b=>cases c;exact SeqAt.EqAt.int_bool a i b
  | int b=>obtain⟨t,rfl⟩:=c;exact SeqAt.EqAt.int_int a i b t
  | str b=>obtain⟨t,rfl⟩:=c;exact SeqAt.EqAt.int_str a i b t
  | _=>exact absurd (show false=true from l) qE
 | str a=>
  obtain⟨i,rfl⟩:=w;cases x with
  | non=>cases c;exact SeqAt.EqAt.str_none a i
  | bl b=>cases c;exact SeqAt.EqAt.str_bool a i b
  | int b=>obtain⟨t,rfl⟩:=c;exact SeqAt.EqAt.str_int a i b t
  | str b=>obtain⟨t,rfl⟩:=c;exact SeqAt.EqAt.str_str a i b t
  | _=>exact absurd (show false=true from l) qE
 | _=>exact absurd (show false=true from H) qE
def eqU(x:V)(u:Value):Bool:=match u with
 | .none=>eqV .non x
 | .bool b=>eqV (.bl b) x
 | .int i _=>eqV (.int i) x
 | .str z _=>eqV (.str z) x
 | _=>false
theorem zcQ{x y:V}{u:Value}(r:RelV y u)(f:x9 y=true):eqU x u=eqV y x:=by
 cases y with
 | non=>cases r;rfl
 | bl b=>cases r;rfl
 | int i=>obtain⟨t,rfl⟩:=r;rfl
 | str z=>obtain⟨t,rfl⟩:=r;rfl
 | _=>exact absurd (show false=true from f) qE
theorem J5{x:V}:∀{c:List V} {i:List Value},Vals c i->c.all x9=true->i.any (eqU x)=c.any fun y=>eqV y x
 | _,_,.nil,_=>rfl
 | y::c,u::i,.cons r t,f=>by
  rw[List.all_cons,jx] at f;rw[wG,wG,zcQ r f.1,J5 t f.2]
theorem ZW{A:Around}{s:Shared}{x:V}{v:Value}(w:RelV x v)(l:x9 x=true):∀{i:List V} {c:List Value},Vals i c->i.all x9=true->∀u∈c,SeqAt.EqAt A s u v (eqU x u)
 | _,_,.nil,_=>fun u hu=>by cases hu
 | y::i,u::c,.cons r t,f=>fun H hu=>by
  rw[List.all_cons,jx] at f;rcases zQ.mp hu with rfl | hu
  ·rw[zcQ r f.1];exact Wm r w f.1 l
  ·exact ZW w l t f.2 H hu
def inV(x:V)(c:List V):Bool:=c.any fun y=>eqV y x
inductive rIn(K:W.Frag)(c:Bool)(x:V)(y:V)(H:Hp)(Q:VK):Prop
 | mk (p i:_) (_:y=.ref p) (_:(SqL K H p i\/SqT K H p i)) (_:x9 x=true) (_:i.all x9=true) (_:Q (.bl (if c then !inV x i else inV x i)) H):rIn K c x y H Q
theorem Jb:OpR X (compareOp .In) (rIn X.K false):=by
 intro M s σ H x y v u Q I N U h;obtain⟨p,Y,rfl,hq,L,i,q⟩:=h;cases U;rcases hq with hq | hq
 ·obtain⟨c,r,A,O⟩:=I.list hq
  refine SeqAt.in_listAt (eqU x) A.isList (fun w l=>ZW N L r i w (by simpa using l)) ⟨.bl _,H,I,rfl,?_⟩
  rw[show c.toArray.any (eqU x)=c.any (eqU x) by simp,J5 r i]
  exact q
 ·obtain⟨c,r,A,O⟩:=I.tuple hq
  refine SeqAt.in_tupleAt (eqU x) A (fun w l=>ZW N L r i w (by simpa using l)) ⟨.bl _,H,I,rfl,?_⟩
  rw[show c.toArray.any (eqU x)=c.any (eqU x) by simp,J5 r i]
  exact q
inductive xG(K:W.Frag)(i:List V)(H:Hp)(Q:VK):Prop
 | mk (p c:_) (_:i=[.ref p]) (_:(SqL K H p c\/SqT K H p c)) (_:Q (.int c.length) H):xG K i H Q
theorem zu:CallR X (.builtin "len") (xG X.K):=by
 intro A s σ H Y U Q I r h;obtain⟨p,L,rfl,hq,q⟩:=h;obtain⟨u,rfl,N⟩:=vG r;cases N;have O:=yM;rcases hq with hq | hq
 ·obtain⟨i,w,l,M⟩:=I.list hq
  have c:=w.length;exact Calls.call_len_list l.isList (by simp only[zZ]<;>omega) ⟨.int L.length,H,I.tok _,⟨s.toks+1,by rw[zZ,c]⟩,q⟩
 ·obtain⟨i,w,l,M⟩:=I.tuple hq
  have c:=w.length;exact len_tuple l (by simp only[zZ]<;>omega) ⟨.int L.length,H,I.tok _,⟨s.toks+1,by rw[zZ,c]⟩,q⟩
inductive wu(c:List V)(H:Hp)(Q:VK):Prop
 | mk (z:_) (_:c=[.str z]) (_:z.length<=sizeLine) (_:Q (.int z.length) H):wu c H Q
theorem JW:CallR X (.builtin "len") (wu):=by
 intro c s σ H A w Q I r h;obtain⟨z,rfl,l,q⟩:=h;obtain⟨u,rfl,t,rfl⟩:=vG r;have i:=yM;exact len_str (by omega) ⟨.int z.length,H,I.tok _,⟨_,rfl⟩,q⟩
theorem CallR.or{f:Value}{r l:List V->Hp->VK->Prop}(h:CallR X f r)(A:CallR X f l):CallR X f (fun i H Q=>r i H Q\/l i H Q):=by
 intro c s σ H i w Q I u q;rcases q with q | q
 ·exact h c s σ H i w Q I u q
 ·exact A c s σ H i w Q I u q
inductive wq(K:W.Frag)(i:List V)(H:Hp)(Q:VK):Prop
 | mk (p c:_) (_:i=[.ref p]) (_:(SqL K H p c\/SqT K H p c)) (_:∀l,H l=none->Q (.ref l) (upd H l (.lst c))):wq K i H Q
theorem jQ:CallR X (.type "list") (wq X.K):=by
 intro O s σ H xs us Q I r h;obtain⟨p,ys,rfl,hq,q⟩:=h;obtain⟨u,rfl,rx⟩:=vG r;cases rx;have A:∀(c:List Value),Vals ys c->ys.length<=sizeLine->∀(i:Heap) (l:Nat),(∀b o',s.heap.get? b=some o'->i.get? b=some o') ->
   i.get? s.heap.objs.size=some { cls:=.type "list",dict:=none,data:=.seq c.toArray l,slots:=#[] }->EP X O σ Q (.ref s.heap.objs.size) { s with heap:=i }:=fun c w M i l N e=>
  ⟨.ref s.heap.objs.size,_,I.laid (t':=s.toks) N (zy _) (show ObjOk X.prog X.w _ i _ (.lst ys) from ⟨M,c,l,w,e⟩),rfl,q _ (I.hok.fresh (zy _))⟩
 rcases hq with hq | hq
 ·obtain⟨c,w,pl,M⟩:=I.list hq
  have L:=w.length;obtain⟨o,Y,hc,n,U⟩:=pl.isList;exact call_list_seq p (.inl rfl) Y hc U (fun i l N e=>A c w M i l N e) (by simp only[zZ]<;>omega)
 ·obtain⟨c,w,pl,M⟩:=I.tuple hq
  have L:=w.length;obtain⟨o,Y,hc,n,U⟩:=pl;exact call_list_seq p (.inr rfl) Y hc U (fun i l N e=>A c w M i l N e) (by simp only[zZ]<;>omega)
inductive vD(K:W.Frag)(i:List V)(H:Hp)(Q:VK):Prop
 | mk (p c:_) (_:i=[.ref p]) (_:((SqL K H p c/\∀l,H l=none->Q (.ref l) (upd H l (.tup c)))\/(SqT K H p c/\Q (.ref p) H))):vD K i H Q
theorem jf:CallR X (.type "tuple") (vD X.K):=by
 intro c s σ H xs us Q I r h;obtain⟨p,O,rfl,h⟩:=h;obtain⟨u,rfl,rx⟩:=vG r;cases rx;rcases h with ⟨hq,q⟩ | ⟨hq,q⟩
 ·obtain⟨i,A,w,N⟩:=I.list hq
  have M:=A.length;refine call_tuple_list w.isList (fun l Y=>?_) (by simp only[zZ]<;>omega)
  have L:Inv X c σ H { s with heap:=l }:=I.kept (t':=s.toks) Y;have U:Inv X c σ (upd H l.objs.size (.tup O)) { s with heap:=l.push { cls:=.type "tuple",data:=.seq i.toArray } }:=
   L.laid (t':=s.toks) (fun b o e=>zI _ e) (zy _) (show ObjOk X.prog X.w _ _ _ (.tup O) from ⟨N,i,A,⟨IsTup.new _ _,_,qv _ rfl,rfl⟩⟩)
  exact⟨.ref l.objs.size,_,U,rfl,q _ (L.hok.fresh (zy _))⟩
 ·obtain⟨i,A,w,N⟩:=I.tuple hq
  exact call_tuple_same w ⟨.ref p,H,I,rfl,q⟩
def tyV(K:W.Frag)(T:String)(x:V)(H:Hp):Prop:=match x with
 | .str _=>T = "str"
 | .int _=>T = "int"
 | .ref p=>(T = "list" /\ ∃i,SqL K H p i)\/(T = "tuple" /\ ∃o,K.lookup p=some o/\o.cls=.type "tuple" /\ o.dict=none) \/
   (T = "dict" /\ ((∃c,H p=some (.dK c))\/∃c,H p=some (.dT c)))\/(T = "set" /\ ∃S n,H p=some (.set S n))
 | _=>False
theorem zbz{u:List (Addr×Obj)}{σ:St}{H:Hp}{s:Shared}{T:String}{x:V}{v:Value}(I:Inv X u σ H s)(r:RelV x v)(ty:tyV X.K T x H) :
  s.TypeIs v T/\∀a,v=.ref a->∃L,s.heap.get? a=some L/\L.dict=none:=by
 cases x with
 | str z=>
  obtain⟨t,rfl⟩:=r;cases(show T = "str" from ty)
  exact⟨typeIs_str s z t,fun _ e=>nomatch e⟩
 | int i=>
  obtain⟨t,rfl⟩:=r;cases(show T = "int" from ty)
  exact⟨typeIs_int s i t,fun _ e=>nomatch e⟩
 | ref p=>
  cases r;rcases ty with ⟨rfl,O,hq⟩ | ⟨rfl,o,hk,hc,w⟩ | ⟨rfl,hk⟩ | ⟨rfl,S,n,hk⟩
  ·obtain⟨N,_,M,_⟩:=I.list hq
   refine⟨M.isList.typeIs,fun a e=>?_⟩
   cases e;obtain⟨o,n,e,c,w,_⟩:=M;exact⟨o,e,w⟩
  ·refine⟨⟨o,I.kIn p o hk,hc⟩,fun a e=>?_⟩
   cases e;exact⟨o,I.kIn _ o hk,w⟩
  ·have z:∃o,s.heap.get? p=some o/\o.ExactDict:=by
    rcases hk with ⟨A,hk⟩ | ⟨A,hk⟩
    ·obtain⟨_,_,_,_,o,_,_,e,l,_⟩:=I.hok p _ hk
     exact⟨o,e,l⟩
    ·obtain⟨_,_,_,_,o,_,_,e,l,_⟩:=I.hok p _ hk
     exact⟨o,e,l⟩
   obtain⟨o,e,l⟩:=z;refine⟨⟨o,e,l.1⟩,fun a e2=>?_⟩
   cases e2;exact⟨o,e,l.2.1⟩
  ·obtain⟨o,_,_,_,e,l,_⟩:=I.hok p _ hk
   refine⟨⟨o,e,l.1⟩,fun a e2=>?_⟩
   cases e2;exact⟨o,e,l.2.1⟩
 | _=>exact False.elim ty
def zhJ(K:W.Frag)(T:String)(r:V->List V->Hp->VK->Prop)(to:TE):TE:=fun σ H Q=>to σ H fun x c=>tyV K T x c/\r x [] c Q
def tBM(K:W.Frag)(T:String)(r:V->List V->Hp->VK->Prop)(to:TE)(t:TA):TE:=fun σ H Q=>to σ H fun x c=>tyV K T x c/\t σ c fun l i=>r x l i Q
variable{o e:Expr}{D:List Expr}{to:TE}{t:TA}{B:Str}{C g:Pos}{T id:String}{r:V->List V->Hp->VK->Prop}
theorem zfH(pa:PlainAttrs T)(u:Slot T B id)(w:typeOf (.builtin id)=pure (.type "method_descriptor"))(U:MtR X id r)(Y:PE X o to)
  (i:attributeBase o B X.env (eval o X.env)=eval o X.env:=by rfl) (l:(C.endLine==g.line)=true:=by rfl):PE X (.Call (.Attribute o B C) [] [] g) (zhJ X.K T r to):=by
 intro c s σ H Q I h;refine wpAny_Call_method0_late i l (thn (Y c s σ H _ I h) fun v s1 ⟨x,M,A,L,ty,q1⟩=>?_)
 obtain⟨N,O⟩:=zbz A L ty;exact⟨T,id,pa,u,w,N,O,Xy rfl (PySem.evalArgs_none (U c s1 σ M x [] v [] Q A L .nil q1))⟩
theorem yi(pa:PlainAttrs T)(A:Slot T B id)(L:typeOf (.builtin id)=pure (.type "method_descriptor"))(hm:MtR X id r)(ho:PE X o to)(ha:PA X (e::D) t)
  (l:attributeBase o B X.env (eval o X.env)=eval o X.env:=by rfl)
  (w:((backTo g (starEach (e::D) X.env)).all (fun x=>!x.1)&&(backToKw g (keywordEach [] X.env)).all (fun x=>x.1.isSome)
   && decide ((e::D).length+([]:List Keyword).length+(if([]:List Keyword).isEmpty then 0 else 1)<30))=true:=by rfl)
  (u:(C.endLine==g.line)=true:=by rfl) (hs:starEach (e::D) X.env=(false,eval e X.env)::starEach D X.env:=by rfl) (i:(backTo g (starEach D X.env)).any (·.1)=false:=by rfl) :
  PE X (.Call (.Attribute o B C) (e::D) [] g) (tBM X.K T r to t):=by
 intro c s σ H Q I h;refine wpAny_Call_method_late l w u rfl (thn (ho c s σ H _ I h) fun v s1 ⟨x,U,M,O,ty,q1⟩=>?_)
 obtain⟨h1,h2⟩:=zbz M O ty;refine⟨T,id,pa,A,L,h1,h2,?_⟩
 have N:=ha g c s1 σ U _ M q1;rw[hs] at N ⊢;refine Xy (by show(false||(backTo g (starEach D X.env)).any (·.1))=false;rw[i]<;>rfl) (WQ ?_)
 exact thn N fun us s2 ⟨vs,Y,I2,r2,q2⟩=>hm c s2 σ Y x vs v us Q I2 O r2 q2
end
def MtM(X:Cx)(id:String)(r:V->List V->Hp->VK->Prop):Prop:=
 ∀(c:List (Addr×Obj)) (s:Shared) (σ:St) (H:Hp) (x:V) (i:List V) (v:Value) (g:List Value) (Q:VK),Inv X c σ H s->RelV x v->Vals i g->r x i H Q ->
  wpAny (model X.prog X.w) X.A (call (.builtin id) (v::g)) (EP X c σ Q) X.xe s
theorem Vals.one:∀{x:V} {c:List Value},Vals [x] c->∃u,c=[u]/\RelV x u
 | _,_,.cons r .nil=>⟨_,rfl,r⟩
theorem Vals.two:∀{x y:V} {c:List Value},Vals [x,y] c->∃u v,c=[u,v]/\RelV x u/\RelV y v
 | _,_,_,.cons r (.cons q .nil)=>⟨_,_,rfl,r,q⟩
theorem Vals.zero:∀{c:List Value},Vals [] c->c=[]
 | _,.nil=>rfl
theorem Vals.dropLast{g:List V}{c:List Value}(h:Vals g c):Vals g.dropLast c.dropLast:=by
 induction h with
 | nil=>exact .nil
 | cons r t i=>
  cases t with
  | nil=>exact .nil
  | cons q l=>exact .cons r i
theorem Vals.reverse{g:List V}{c:List Value}(h:Vals g c):Vals g.reverse c.reverse:=by
 induction h with
 | nil=>exact .nil
 | cons r t i=>rw[List.reverse_cons,List.reverse_cons];exact Vals.append i (.cons r .nil)
section
variable{X:Cx}{c:List (Addr×Obj)}{σ:St}{H:Hp}{s:Shared}{l b:Addr}{i g o:List V}
theorem Inv.lset{t its':List Value}{n:Nat}{f:Array Value->Array Value}{C:Nat}(I:Inv X c σ H s)(w:H l=some (.lst i))
  (e:s.heap.get? l=some { cls:=.type "list",data:=.seq t.toArray n }) (A:f t.toArray=its'.toArray) (hv:Vals g its') (B:g.length<=sizeLine) :
  Inv X c σ (upd H l (.lst g)) { s with heap:=s.heap.update l (Obj.mapSeq f),toks:=C }:=by
 have q:=PySem.IsL.update e f;rw[A] at q;refine I.write (x:=l) (e:=l) (by rw[w];exact trivial) (.inl rfl) (fun D u hb hu=>(vY s.heap (Obj.mapSeq f) (zN hb)).trans hu) ⟨_,q⟩ ?_
 exact⟨B,its',_,hv,q⟩
theorem Inv.lnew{t:List Value}{t':Nat}(I:Inv X c σ H s)(hv:Vals g t)(u:g.length<=sizeLine) :
  Inv X c σ (upd H s.heap.objs.size (.lst g)) { s with heap:=s.heap.push { cls:=.type "list",data:=.seq t.toArray },toks:=t' }:=
 I.laid (fun _ _ q=>zI _ q) (zy _) ⟨u,t,0,hv,qv _ rfl⟩
theorem Inv.fresh(I:Inv X c σ H s):H s.heap.objs.size=none:=I.hok.fresh (zy _)
theorem Inv.lstM(I:Inv X c σ H s)(u:H l=some (.lst i)):i.length<=sizeLine/\∃(t:List Value) (n:Nat),Vals i t/\i.length=t.length/\s.heap.get? l=some { cls:=.type "list",data:=.seq t.toArray n }:=by
 obtain⟨z,t,n,r,e⟩:=I.hok l _ u;exact⟨z,t,n,r,r.length,e⟩
end
section
variable{X:Cx}
inductive YM(x:V)(g:List V)(H:Hp)(Q:VK):Prop
 | mk (l c y:_) (_:x=.ref l) (_:g=[y]) (_:H l=some (.lst c)) (_:c.length<sizeLine) (_:Q .non (upd H l (.lst (c++[y])))):YM  x g H Q
theorem j7:MtM X "list.append" YM:=by
 intro o s σ H x E v D Q I A w h;obtain⟨l,G,y,rfl,rfl,g,C,q⟩:=h;cases A;obtain⟨u,rfl,t⟩:=w.one;obtain⟨z,c,n,r,B,e⟩:=I.lstM g;refine call_meets F.slot_list_append ⟨_,e,rfl⟩ F.entry_list_append (F.args_list_append_2 _ _) (PySem.list_append l c.toArray n u (by rw[zZ];omega)) ⟨e,?_⟩
 refine⟨.non,_,I.lset (its':=c++[u]) g e (by simp) (r.append (.cons t .nil)) ?_,rfl,q⟩
 rw[zL,Xv];omega
inductive zgS(x:V)(y:V)(H:Hp)(Q:VK):Prop
 | mk (l b c g:_) (_:x=.ref l) (_:y=.ref b) (_:H l=some (.lst c)) (_:H b=some (.lst g)) (_:c.length+g.length<=sizeLine) (_:∀p,H p=none->Q (.ref p) (upd H p (.lst (c++g)))):zgS  x y H Q
theorem We:OpR X (binaryOp .Add) zgS:=by
 intro i s σ H x y v u Q I C D h;obtain⟨l,b,M,O,rfl,rfl,w,t,G,q⟩:=h;cases C;cases D;obtain⟨z,g,n,r,E,e⟩:=I.lstM w;obtain⟨N,c,J,B,A,e2⟩:=I.lstM t;refine PySem.P.add_list e e2 ?_ (by rw[zZ,zZ];omega)
 have o:g.toArray++c.toArray=(g++c).toArray:=by simp
 rw[o];exact⟨.ref _,_,I.lnew (t':=s.toks) (r.append B) (by rw[zL];omega),rfl,q _ I.fresh⟩
end
section
variable{c:Program}{w:World}{A:Around}{E:Value->Shared->Prop}{s:Shared}
end
section
variable{X:Cx}
end
end L2
namespace Att
open PySem PySem.W PySem.Calls PyProof.Rows
theorem Zx{P:Params}{h:Heap}:∀(c:List Int) (g:List Value),WellAll P h g (c.map WData.int)->IntsAre g c:=by
 intro c;induction c with
 | nil=>
  intro g w;rw[J8] at w;cases w;exact .nil
 | cons n c i=>
  intro g w;rw[jn] at w;cases w with
  | cons a b=>
   cases a;exact .cons _ _ (i _ b)
theorem zaD{l:OpenLaw}{n:Nat}(G:l.most=some n){P:Params}{h:Heap}{args:List WData}{i:List Value}
  (g:l.row.toRowW.claim.pre args=true) (A:WellAll P h i args) :
  ∃a B c,i=[Value.ref a]/\args=[WData.list (c.map WData.int)]/\h.get? a=some { cls:=.type "list",data:=.seq B.toArray }/\IntsAre B c/\c.length<=n:=by
 have w:WShape.hasAll [] args [.list .int]=true:=(pre_splitW g).1;have hc:l.pre.holds [] { args:=args }=true:=(pre_splitW g).2;obtain⟨d,r,rfl,C,D⟩:=hasAllW_cons w;obtain rfl:=hasAllW_nil D;obtain⟨L,rfl,E⟩:=hasW_list C;obtain⟨c,rfl⟩:=items_int E;have s:c.length<=n:=by
  unfold OpenLaw.pre at hc;have t:(WTm.not (.lt (.lit (.int (n:Int))) (.len (.arg 0)))).holds [] { args:=[.list (c.map .int)] }=true:=by
   have t:=(holds_andW hc).1;rw[G] at t;exact t
  have u:=condW_of t (w_not (w_lt w_lit (w_len_list (w_arg rfl))));rw[zo] at u;refine Nat.le_of_not_lt fun q=>?_
  have I:(n:Int)<((c.length:Nat):Int):=by omega
  first
   | (rw[zW I] at u;exact absurd u (by decide))
   | (simp at u;omega)
 cases A with
 | cons w1 J=>
  cases J;cases w1 with
  | list H o=>exact⟨_,_,c,rfl,rfl,H,Zx c _ o,s⟩
theorem zaI(l:OpenLaw)(args:List WData):l.row.toRowW.claim.post args (.bool true) args=true:=
 postW_of (r:=l.row.toRowW) (X:=(true==true))
  (show WShape.has [] (.bool true) .bool=true by first| rfl | decide | simp[WShape.has,WShape.arms,WShape.armsAll])
  (show(WTm.eq .res (.lit (.bool true))).value [] { args:=args,res:=some (.bool true),after:=args }=some (.bool (true==true)) from w_eq_bool (w_res rfl) w_lit) rfl
theorem attach_call{l:OpenLaw}{n:Nat}{q:Program}{c:List Str}{XP:(Str->Option Value)->Heap->Prop}{YP:World->Heap->Prop}{d:DefRec}
  (hn:l.most=some n) (L:d.params.defaults=[])
  (call:∀(w:World) (U g:Shared) (E O:Str->Option Value) (u:Addr) (o:Obj) (Q D i:Value) (a:Addr) (t:List Value) (H:List Int),
   Ground q c [] XP w U E O g.heap->YP w g.heap ->
   g.heap.get? u=some o->o.data=.func (docDef d.name d.params d.body d.scope Q D i)->g.heap.CodeRec D d.name->E d.name=some (.ref u) ->
   g.heap.get? a=some { cls:=.type "list",data:=.seq t.toArray }->IntsAre t H->H.length<=n->g.gens=#[] ->
   codeAny (model l.prog w) callerA (.call (.ref u) ⟨[.ref a],[]⟩) (fun r I=>r=.ok (.ret (.bool true))/\OldK g.heap I.heap/\I.os=g.os/\AllBare I.gens) g) :
  WalkO q c XP YP l.row.toRowW d [] (fun f t=>PySem.call f t):=by
 intro w U g E O G Y u o Q D i dV kV ho hd J hD M hg args aa as C a0 ac N ab;obtain rfl:dV=.none:=Dflts.none hD L;obtain rfl:kV=.none:=Dflts.noKw hD;obtain⟨a,t,H,rfl,rfl,B,s,A⟩:=zaD hn C N;refine enter_call (codeAny_mono (call w U g E O u o Q D i a t H G Y ho (fd_plain hd) J M B s A hg) fun r I hq=>?_)
 obtain⟨rfl,h2,h3,h4⟩:=hq;exact⟨.inl ⟨.bool true,.bool true,[],rfl,fun _=>rfl,.bool true,zaI l _,fun _=>⟨List.Pairwise.nil,fun _ hm=>(nomatch hm)⟩⟩,h2,h3,h4⟩
section
variable{c:Program}{w:World}{A:Around}{E:Value->Shared->Prop}{s:Shared}{K:Frag}
def ledger(h:Heap)(L d:Addr):List (Addr×Obj):=(List.range h.objs.size).filterMap fun a=>if a=L\/a=d then none else(h.get? a).map fun o=>(a,o)
end
end Att
namespace L2
open PySem PySem.Spec PyProof.Rows
theorem QN:∀{g:List Value} {c:List Int},IntsAre g c->Vals (c.map V.int) g
 | _,_,.nil=>.nil
 | _,_,.cons n t h=>.cons ⟨t,rfl⟩ (QN h)
def zev(H:Hp):Prop:=∀b,H b=none\/∃o c,H b=some (.frz o (.lst c))
theorem Vp{P:Program}{w:World}{K:W.Frag}{Q mb:Str->Option Value}{CX:CXT}{k:Nat}{fa a:Addr}{fd:FuncData}{x:Str}{sp:Sp}{c:Shared}{C:List Value}{U:List Int}
  (KX:K.In c.heap) (L:c.heap.Ns mainGlobals Q) (hb:c.heap.Ns builtinsNs mb) (aa:∀x:Str,x ≠ "__name__" -> mb x=bootBuiltins x) (J:c.heap.NoLimit) (hg:c.gens=#[])
  (ha:c.heap.get? a=some { cls:=.type "list",data:=.seq C.toArray }) (hi:IntsAre C U) (hl:U.length<=sizeLine) (hr:Room k callerA)
  (F:∀i:Heap,K.In i->i.Ns mainGlobals Q->FnOk P w K Q i CX k fa fd [x] sp) (B:∀(s:Shared) (u:Value),BindsTo s fd ⟨[u],[]⟩ [(x,u)])
  (ab:∀H:Hp,zev H->SqL K H a (U.map V.int)->sp [.ref a] H (fun v _=>v=.bl true) fun _ _ _=>False)
  (a0:∀H e l,CX [] H c (fun _ _ _=>False) e l->False) :
  codeAny (model P w) callerA (.call (.ref fa) ⟨[.ref a],[]⟩) (fun r l=>r=.ok (.ret (.bool true))/\OldK c.heap l.heap/\l.os=c.os/\AllBare l.gens) c:=by
 have rv:=QN hi;have O:=hi.length;have A:∀H:Hp,zev H->SqL K H a (U.map V.int)->HOk P w H c.heap->(∀b,H b≠none->b=a)->(H a≠none->K.lookup a=none) ->
   codeAny (model P w) callerA (.call (.ref fa) ⟨[.ref a],[]⟩) (fun r l=>r=.ok (.ret (.bool true))/\OldK c.heap l.heap/\l.os=c.os/\AllBare l.gens) c:=by
  intro H hO hS M hA hK;have g:∀{b:Addr} {o:Obj},c.heap.get? b=some o->H b=none->(JN c.heap H).get? b=some o:=fun e n=>zcL e n
  have ac:∀{b:Addr} {o:Obj} {G:Array DictEntry} {E:Nat},c.heap.get? b=some o->o.data=.dict G E->H b=none:=fun {b o G E} e d=>by
   cases q:H b with
   | none=>rfl
   | some u=>
    have e':b=a:=hA b (by rw[q];simp)
    subst e';rw[ha] at e;cases e
    have d':Data.seq C.toArray _=Data.dict G E:=d;cases d'
  have t:∀{b:Addr} {m:Str->Option Value},c.heap.Ns b m->(JN c.heap H).Ns b m:=fun {b m} ⟨o,G,E,e,d,r⟩=>⟨o,G,E,g e (ac e d),d,r⟩
  have I:K.In (JN c.heap H):=fun b o e=>g (KX b o e) (by
   cases q:H b with
   | none=>rfl
   | some u=>
    have e':b=a:=hA b (by rw[q];simp)
    subst e';rw[hK (by rw[q];simp)] at e;cases e)
  have hM:Mod K Q (JN c.heap H):=⟨I,t L,⟨mb,t hb,aa⟩,let ⟨mc,h1,h2⟩:=J;⟨mc,t h1,h2⟩⟩
  have e0:Env0 P w K Q (JN c.heap H) callerA [] c H:=⟨rfl,hM,fun b o e=>zdZ e,wc (za2 _ _),trivial,fun b hb=>absurd (show b∈([]:List Addr) from hb) (by simp),M,.of_eq hg⟩
  refine codeAny_mono ((F _ I (t L)).run callerA [] c H ⟨[.ref a],[]⟩ [.ref a] [.ref a] _ _ hr e0 (B c (.ref a)) (.cons rfl .nil) (ab H hO hS)) fun r l h=>?_
  cases r with
  | error e=>exact(a0 H e l h).elim
  | ok fl=>
   cases fl with
   | next=>exact False.elim h
   | brk=>exact False.elim h
   | cont=>exact False.elim h
   | ret u=>
    obtain⟨v,H',os,D,un,N,r',q⟩:=h;have q':v=.bl true:=q;subst q';obtain rfl:u=Value.bool true:=r';refine⟨rfl,OldK.of_keep fun b o e=>?_,os,D⟩
    cases q:H b with
    | none=>exact un.keep b o e q (by intro z;exact absurd (show b∈([]:List Addr) from z) (by simp)) (by simp)
    | some u=>
     rcases hO b with z | ⟨ob,xs,z⟩
     ·rw[q] at z;cases z
     ·have z2:=un.frzs b ob _ z
      obtain⟨e1,_⟩:=M b _ z;obtain⟨e2,_⟩:=N b _ z2;rw[e] at e1;cases e1
      exact e2
 cases hk:K.lookup a with
 | some o=>
  have e:=KX a o hk;rw[ha] at e;cases e;refine A (fun _=>none) (fun _=>.inl rfl) (.inr ⟨_,C.toArray,_,hk,rfl,rfl,rfl,by rw[zZ,O];exact hl,by simpa using rv⟩) (fun b u z=>by have Y:(none:Option HO)=some u:=z;cases Y) (fun b z=>absurd rfl z) fun z=>absurd rfl z
 | none=>
  refine A (fun b=>if b=a then some (.frz { cls:=.type "list",data:=.seq C.toArray } (.lst (U.map V.int))) else none) (fun b=>?_) (.inl (.inr ⟨{ cls:=.type "list",data:=.seq C.toArray },zr rfl⟩)) (fun b u z=>?_) (fun b z=>?_) fun _=>hk
  ·by_cases hb:b=a
   ·exact .inr ⟨_,_,zr hb⟩
   ·exact .inl (zn hb)
  ·by_cases hb:b=a
   ·have Y:=(zr hb).symm.trans z
    cases Y;subst hb;exact⟨ha,by rw[zo];exact hl,C,_,rv,ha⟩
   ·have Y:=(zn hb).symm.trans z
    cases Y
  ·by_cases hb:b=a
   ·exact hb
   ·exact absurd (zn hb) z
abbrev KOf{K:W.Frag}{h:Heap}(_:K.In h):PySem.W.Frag:=K
theorem walk_of{l:PySem.W.OpenLaw}{n k:Nat}{q:Program}{t:List Str}{XP:(Str->Option Value)->Heap->Prop}{YP:World->Heap->Prop}{d:DefRec}{K:Params->PySem.W.Frag}{Q:World->CXT}{sp:World->Sp}{x:Str}
  (hn:l.most=some n) (M:n<=sizeLine) (J:d.params.defaults=[]) (hr:Room k callerA)
  (hY:∀(w:World) (h:Heap),YP w h->(K w.params).In h)
  (F:∀(w:World) (A:Str->Option Value) (C:Addr) (h:Heap),(K w.params).In h->h.Ns mainGlobals A->A d.name=some (.ref C) ->
   ∃E:FuncData,(∀(s:Shared) (u:Value),BindsTo s E ⟨[u],[]⟩ [(x,u)]) /\
    ∀c:Heap,(K w.params).In c->c.Ns mainGlobals A->FnOk l.prog w (K w.params) A c (Q w) k C E [x] (sp w))
  (N:∀(w:World) (H:Hp) (a:Addr) (D:List Int),D.length<=n->zev H->SqL (K w.params) H a (D.map V.int)->sp w [.ref a] H (fun v _=>v=.bl true) fun _ _ _=>False)
  (I:∀(w:World) (H:Hp) (s:Shared) (e:Value) (O:Shared),Q w [] H s (fun _ _ _=>False) e O->False) :
  PySem.W.WalkO q t XP YP l.row.toRowW d [] (fun f vs=>PySem.call f vs):=by
 refine Att.attach_call hn J fun w s₀ s₁ A mb C o pm cd a0 a vs D G Y ho hd aa L B i g hg=>?_
 have U:=hY w _ Y;obtain⟨E,hb,hF⟩:=F w A C _ U G.T.g L;exact Vp U G.T.g G.T.b G.T.builtins G.T.nolimit hg B i (zX g M) hr hF hb (fun H hO hS=>N w H a D g hO hS) fun H e O=>I w H s₁ e O
def yu(s:Stmt):Arguments:=match s with
 | .FunctionDef _ a _ _ _ _ _ _ _ _=>a
 | _=>{ posonlyargs:=[],args:=[],vararg:=none,kwonlyargs:=[],kw_defaults:=[],kwarg:=none,defaults:=[] }
def wy(s:Stmt):List Stmt:=match s with
 | .FunctionDef _ _ b _ _ _ _ _ _ _=>b
 | _=>[]
def zv(s:Stmt):Scope:=match s with
 | .FunctionDef _ _ _ _ _ _ c _ _ _=>c
 | _=>{ kind:=.function,names:=[],isGenerator:=false,isCoroutine:=false }
abbrev CX0:CXT:=fun _ _ _ _ _ _=>False
abbrev E0:XK:=fun _ _ _=>False
theorem zgX{X:Cx}:W6 CX0 X E0:=fun _ _ _ _ _ _ _ h=>h.elim
structure Fun(K:W.Frag)(x qual:Str)(st:Stmt)(f:Addr)(fd:FuncData):Prop where
 ex:∃(oc:Value) (od:Option Addr) (kV doc pm:Value) (an:Option Addr) (cdv ct:Value) (osl:Array (Option Value)),
  fd=PySem.W.fnOf x qual (yu st) (wy st) (zv st) .none kV doc pm an cdv ct/\K.lookup f=some ⟨oc,od,.func fd,osl⟩/\PySem.W.codeIn K cdv qual=true
 kp:PySem.W.keepIn K (.ref f)=true
section
variable{P:Program}{w:World}{K:W.Frag}{g:Str->Option Value}{c:Heap}
theorem Fun.ok{x l:Str}{st:Stmt}{f:Addr}{L:FuncData}{N I:List Str}{k:Nat}{J:Sp}(F:Fun K x l st f L)(S:zB N I (zv st))(G:∀B H Q E,J B H Q E->B.length=I.length)
  (u:∀(o:Value) (A:Around) (i:List Env) (s:Shared) (H:Hp) (B:List V) (Q:VK) (E:XK),Room k (A.deeper (envOfC l (zv st) s.heap.objs.size f o))->J B H Q E ->
   ∃t,PSs (za8 CX0 P w K g c N l (zv st) f o A i s H E).nox (wy st) t/\t { nx:=fun _ M=>Q .non M,rt:=Q } (Za N B) H):FnOk P w K g c CX0 (k+1) f L I J:=by
 obtain⟨oc,od,kV,O,pm,an,o,ct,a0,rfl,Y,C⟩:=F.ex;refine zhl Y C S G fun A i s H B Q E U D=>?_
 obtain⟨t,h,q⟩:=u o A i s H B Q E U D;exact⟨t,h.nox,q⟩
theorem Fun.binds{x i:Str}{st:Stmt}{f:Addr}{B:FuncData}{u:List Str}(F:Fun K x i st f B)
  (h:∀(kV o t:Value) (s:Option Addr) (l ct:Value) (A:List Value),A.length=u.length->bindArgs (PySem.W.fnOf x i (yu st) (wy st) (zv st) .none kV o t s l ct) ⟨A,[]⟩=pure (u.zip A)):Binds K B u []:=by
 obtain⟨G,H,kV,o,t,s,l,ct,D,rfl,E,C⟩:=F.ex;exact .all (h kV o t s l ct)
end
theorem yp{A:Around}{k:Nat}(c:Room k A):A.units+1<cLine:=Qt (WN (by decide:1<=64) _) c.units
theorem zaB{n:Nat}(h:n<=1000):n<sizeLine:=Qt h (by decide)
section
variable{X:Cx}
theorem pv(i:Nat){x:Str}{g:Pos}(l:X.N[i]? =some x:=by rfl)(hv:Vis X.env.scope x:=by first| exact Or.inl rfl | exact Or.inr (Or.inl rfl) | exact Or.inr (Or.inr rfl))(o:(x==("__debug__":Str))=false:=by decide)
  (c:(x==("__classdict__":Str))=false:=by decide):PE X (.Name x g) (zfi i):=zfC l hv o c
end
theorem yn{c A B:Prop}[Decidable c](g:c->A)(i:¬c->B):if c then A else B:=by
 by_cases h:c
 ·rw[zr h]
  exact g h
 ·rw[zn h]
  exact i h
def Same(H c:Hp):Prop:=∀b o,H b=some o->c b=some o
theorem Same.refl(H:Hp):Same H H:=fun _ _ h=>h
def ua:=@Same.refl
theorem Same.trans{H g i:Hp}(a:Same H g)(b:Same g i):Same H i:=fun c o h=>b c o (a c o h)
theorem Same.free{H c:Hp}(e:Same H c){l:Addr}(h:c l=Option.none):H l=Option.none:=by
 cases q:H l with
 | none=>rfl
 | some o=>
  rw[e l o q] at h;cases h
theorem Same.seq{K:W.Frag}{H c:Hp}{a:Addr}{g:List V}(e:Same H c)(h:SqL K H a g):SqL K c a g:=by
 rcases h with(h | ⟨o,h⟩) | h
 ·exact .inl (.inl (e _ _ h))
 ·exact .inl (.inr ⟨o,e _ _ h⟩)
 ·exact .inr h
end L2
namespace L2
inductive Ex1{c:Sort _}(P:c->Prop):Prop
 | mk (a1:c) (h:P a1):Ex1 P
inductive Ex2{c:Sort _}{g:Sort _}(P:c->g->Prop):Prop
 | mk (a1:c) (a2:g) (h:P a1 a2):Ex2 P
inductive Ex3{c:Sort _}{g:Sort _}{i:Sort _}(P:c->g->i->Prop):Prop
 | mk (a1:c) (a2:g) (a3:i) (h:P a1 a2 a3):Ex3 P
inductive Ex4{c:Sort _}{g:Sort _}{i:Sort _}{l:Sort _}(P:c->g->i->l->Prop):Prop
 | mk (a1:c) (a2:g) (a3:i) (a4:l) (h:P a1 a2 a3 a4):Ex4 P
inductive Ex6{c:Sort _}{g:Sort _}{i:Sort _}{l:Sort _}{o:Sort _}{s:Sort _}(P:c->g->i->l->o->s->Prop):Prop
 | mk (a1:c) (a2:g) (a3:i) (a4:l) (a5:o) (a6:s) (h:P a1 a2 a3 a4 a5 a6):Ex6 P
inductive An2(c g:Prop):Prop
 | mk (i:c) (l:g):An2 c g
inductive An3(c g i:Prop):Prop
 | mk (l:c) (o:g) (s:i):An3 c g i
inductive An4(c g i l:Prop):Prop
 | mk (o:c) (s:g) (t:i) (u:l):An4 c g i l
inductive An5(c g i l o:Prop):Prop
 | mk (s:c) (t:g) (u:i) (w:l) (A:o):An5 c g i l o
inductive An6(c g i l o s:Prop):Prop
 | mk (t:c) (u:g) (w:i) (A:l) (B:o) (C:s):An6 c g i l o s
inductive An8(c g i l o s t u:Prop):Prop
 | mk (w:c) (A:g) (B:i) (C:l) (D:o) (E:s) (G:t) (H:u):An8 c g i l o s t u
theorem zhe{α:Type _}{g:List α}(h:g.length=1):∃c,g=[c]:=
 match g,h with
 | [c],_=>⟨c,rfl⟩
theorem zhd{α:Type _}{g:List α}(h:g.length=2):∃c a1,g=[c,a1]:=
 match g,h with
 | [c,a1],_=>⟨c,a1,rfl⟩
theorem zhc{α:Type _}{g:List α}(h:g.length=3):∃c a1 a2,g=[c,a1,a2]:=
 match g,h with
 | [c,a1,a2],_=>⟨c,a1,a2,rfl⟩
theorem zhb{α:Type _}{g:List α}(h:g.length=4):∃c a1 a2 a3,g=[c,a1,a2,a3]:=
 match g,h with
 | [c,a1,a2,a3],_=>⟨c,a1,a2,a3,rfl⟩
theorem zha{α:Type _}{g:List α}(h:g.length=5):∃c a1 a2 a3 a4,g=[c,a1,a2,a3,a4]:=
 match g,h with
 | [c,a1,a2,a3,a4],_=>⟨c,a1,a2,a3,a4,rfl⟩
theorem zg9{α:Type _}{g:List α}(h:g.length=6):∃c a1 a2 a3 a4 a5,g=[c,a1,a2,a3,a4,a5]:=
 match g,h with
 | [c,a1,a2,a3,a4,a5],_=>⟨c,a1,a2,a3,a4,a5,rfl⟩
end L2
set_option maxHeartbeats 4000000
namespace L2
open PySem PySem.Spec PyProof.Rows
def jP(g:List (Str×Addr)):List (Str×NameKind)->List (Str×Addr)->List (Str×Addr)
 | [],c=>c
 | (n,k)::r,c=>jP g r (if(k==NameKind.free)=true then(n,(g.lookup n).getD 0)::c else c)
theorem zcW{env:Env}(names:List (Str×NameKind)):∀(g:List (Str×Addr)),(∀y∈names,y.2=NameKind.free->∃c,env.cells.lookup y.1=some c) ->
  (forIn names g fun(x:Str×NameKind) (l:List (Str×Addr))=>
   (if(x.2==NameKind.free)=true then(cellOf env x.1 >>= fun a=>(pure (ForInStep.yield ((x.1,a)::l)):Sem (ForInStep (List (Str×Addr))))) else pure (ForInStep.yield l)))=(pure (jP env.cells names g):Sem (List (Str×Addr))):=by
 induction names with
 | nil=>intro g _;rfl
 | cons y r o=>
  intro g h;obtain⟨n,k⟩:=y;rw[y3];by_cases hk:(k==NameKind.free)=true
  ·obtain⟨c,hc⟩:=h (n,k) jU (by simpa using hk)
   have e1:cellOf env n=pure c:=by
    unfold cellOf;rw[show env.cells.lookup n=some c from hc]
   simp only[hk,if_true,e1,pure_bind];rw[o _ fun z i=>h z (qw _ i)]
   show _=pure (jP env.cells r (if(k==NameKind.free)=true then(n,(env.cells.lookup n).getD 0)::g else g))
   rw[zr hk,show env.cells.lookup n=some c from hc]
   all_goals rfl
  ·simp only[hk,pure_bind]
   simp only[qW,if_false,pure_bind];rw[o _ fun z i=>h z (qw _ i)]
   show _=pure (jP env.cells r (if(k==NameKind.free)=true then(n,(env.cells.lookup n).getD 0)::g else g))
   rw[zn hk]
theorem zaa{i:Env}{g:Scope}(h:∀y∈g.names,y.2=NameKind.free->∃c,i.cells.lookup y.1=some c):closureFor g i=pure (jP i.cells g.names []):=by
 have e:=zcW (env:=i) g.names [] h;unfold closureFor;refine Eq.trans ?_ (Eq.trans (congrArg (fun m=>m >>= fun l=>(pure l:Sem (List (Str×Addr)))) e) ?_)
 ·rfl
 ·simp
theorem vq{l:List (Str×Addr)}{x:Str}:∀(names:List (Str×NameKind)) (c:List (Str×Addr)),(jP l names c).lookup x=(if(names.any fun y=>y.2==NameKind.free&&x==y.1)=true then some ((l.lookup x).getD 0) else c.lookup x)
 | [],c=>by simp[jP]
 | (n,k)::r,c=>by
  unfold jP;rw[vq r];by_cases g:(r.any fun y=>y.2==NameKind.free&&x==y.1)=true
  ·rw[zr g,zr (by rw[wG,g,Bool.or_true])]
  ·rw[zn g]
   by_cases hk:(k==NameKind.free)=true
   ·rw[zr hk]
    by_cases hx:(x==n)=true
    ·rw[zr (by rw[wG];simp only[hk,hx,Bool.and_self,Bool.true_or])]
     have e:x=n:=by simpa using hx
     subst e;simp[xF]
    ·rw[zn (by rw[wG];simp only[hk,hx,Xd,Bool.false_or];exact g)]
     have i:(x==n)=false:=by simpa using hx
     simp[xF,i]
   ·rw[zn hk,zn (by rw[wG];simp only[hk,Bool.false_and,Bool.false_or];exact g)]
abbrev zM(X:Cx)(g:List Str)(c:Scope)(C:Addr)(s:Shared)(H:Hp)(ex:List Addr):Cx where
 prog:=X.prog
 w:=X.w
 K:=X.K
 mg:=X.mg
 base:=X.base
 A:=X.A
 N:=g
 s₀:=s
 H₀:=H
 env:=compEnvC c (jP X.env.cells c.names []) C X.env
 outer:=X.stack
 stack:=X.stack
 ex:=ex
 fn:=fun _=>false
 calm:=X.calm
 pn:=[]
 xe:=fun _ _=>False
abbrev ye(i:List Expr)(g:Env):Sem Bool:=
 forIn i true fun(c:Expr) (r:Bool)=>if r=true then(isTrue c g (eval c g) >>= fun ok=>(pure (ForInStep.yield ok):Sem (ForInStep Bool))) else pure (ForInStep.yield r)
theorem zc2{c:Program}{w:World}{A:Around}{R:Result->Shared->Prop}{s:Shared}{o O B:Expr}{C:List Expr}{i:Scope}{G:Pos}{I l:Value}{g:Env}(J:Nat->Shared->Prop)
  (H:∀n s,J n s->wpAny (model c w) A (pyNext I) (fun r s1=>match r with
   | none=>R (.ok .next) s1
   | some v=>wpAny (model c w) A (letOwnedTupleGo O I v) (fun _ s2=>wpAny (model c w) A (assign O g v) (fun _ s3=>
     wpAny (model c w) A (ye C g) (fun ok L=>
      if ok=true then wpAny (model c w) A (eval o g) (fun x M=>
       wpAny (model c w) A (call (.builtin "list.append") [l,x]) (fun _ N=>∃m,m<n/\J m N) (fun _ _=>False) M) (fun _ _=>False) L
      else ∃m,m<n/\J m L) (fun _ _=>False) s3) (fun _ _=>False) s2) (fun _ _=>False) s1) (fun _ _=>False) s)
  (n:Nat) (h:J n s):codeAny (model c w) A (.compLoop (.ListComp o [⟨O,B,C,0⟩] i G) 0 I l g) R s:=by
 have D:∀{α:Type} {t:Sem α} {Q:α->Shared->Prop} {E:Value->Shared->Prop} {s:Shared},wpAny (model c w) A t Q (fun _ _=>False) s->wpAny (model c w) A t Q E s:=fun x=>qN x (fun _ _ q=>q) fun _ _ q=>q.elim
 refine codeAny_loop rfl J (fun k u hJ=>?_) n h
 show wpAny _ A ((compTurn (.ListComp o [⟨O,B,C,0⟩] i G) 0 I l g).onRaise (fun x=>do noteFrame x g;theTreesLotGoes x)) _ _ u
 refine wpAny_noted ?_
 rw[compTurn_list];refine zd (we (zd (D (qN (H k u hJ) (fun r s1 Y=>?_) fun _ _ q=>q))))
 cases r with
 | none=>exact zp Y
 | some v=>
  refine zd (D (qN Y (fun _ s2 h2=>zd (D (qN h2 (fun _ s3 h3=>zd (D (qN h3 (fun ok L h4=>?_) fun _ _ q=>q))) fun _ _ q=>q))) fun _ _ q=>q))
  cases ok with
  | false=>exact zp ⟨rfl,h4⟩
  | true=>
   have U:wpAny (model c w) A (eval o g) (fun x M=>wpAny (model c w) A (call (.builtin "list.append") [l,x]) (fun _ N=>∃m,m<k/\J m N) (fun _ _=>False) M) (fun _ _=>False) L:=h4
   refine zd (zd (D (qN U (fun x M h5=>zd (D (qN h5 (fun _ N h6=>zp (zp ⟨rfl,h6⟩)) fun _ _ q=>q))) fun _ _ q=>q)))
def PF(X:Cx)(g:List Expr)(t:TT):Prop:=
 ∀(c:List (Addr×Obj)) (s:Shared) (σ:St) (H:Hp) (Q:Bool->Hp->Prop),Inv X c σ H s->t σ H Q->wpAny (model X.prog X.w) X.A (ye g X.env) (TP X c σ Q) X.xe s
def zho:TT:=fun _ H Q=>Q true H
theorem qT{X:Cx}:PF X [] zho:=fun c s σ H Q I h=>zp ⟨H,I,h⟩
theorem ZR{X:Cx}{c:Expr}{t:TT}(hc:PT X c t):PF X [c] t:=by
 intro g s σ H Q I h;unfold ye;simp only[y3,Ql,if_true];refine zd (zd (thn (hc g s σ H Q I h) fun ok s1 q=>zp (zp q)))
theorem Y1{P:Program}{w:World}{H:Hp}{h g:Heap}{C:Addr}(x:HOk P w H h)(i:H C=none)(k:∀b o,b≠C->h.get? b=some o->g.get? b=some o):HOk P w H g:=fun b u e=>by
 refine(x b u e).stay (fun c v hc q=>k c v ?_ q) (fun _ q=>q) fun _ _ q=>q
 rcases hc with z | z
 ·rw[z];exact zm e i
 ·exact zm z i
theorem yP{P:Program}{w:World}{H:Hp}{h:Heap}{a:Addr}{o:HO}(x:HOk P w H h)(i:H a=none)(g:ObjOk P w (upd H a o) h a o):HOk P w (upd H a o) h:=fun b u e=>by
 by_cases hb:b=a
 ·subst hb;rw[zc] at e;cases e;exact g
 ·rw[zk hb] at e
  exact(x b u e).stay (fun c v _ q=>q) (fun c q=>by rw[zk (zm q i)];exact q) fun c l q=>by rw[zk (zm q i)];exact q
theorem ZE{s c:List Addr}{H l:Hp}{h t:Heap}{a:Addr}{o:HO}(u:Un s c H l h t)(w:a∈c)(g:H a=none):Un s c H (upd l a o) h t where
 keep:=u.keep
 slot:=u.slot
 free:=fun b i q n hx=>by
  have hb:b≠a:=fun z=>hx (by rw[z];exact w)
  rw[zk hb];exact u.free b i q n hx
 there:=u.there
 tups:=fun b B q=>by rw[zk (zm q g)];exact u.tups b B q
 frzs:=fun b i v q=>by rw[zk (zm q g)];exact u.frzs b i v q
 tbls:=fun b A q=>by rw[zk (zm q g)];exact u.tbls b A q
theorem zby{l i:List Addr}{H g:Hp}{h s t:Heap}{C:Addr}(u:Un l i H g h s)(c:h.objs.size<=C)(k:∀b o,b≠C->s.get? b=some o->t.get? b=some o):Un l i H g h t where
 keep:=fun b o q n hb hx=>k b o (zS (jt (zA q) c)) (u.keep b o q n hb hx)
 slot:=fun b o q n hb hx=>let ⟨A,e⟩:=u.slot b o q n hb hx;⟨A,k b _ (zS (jt (zA q) c)) e⟩
 free:=u.free
 there:=fun b o q hx=>let ⟨w,e⟩:=u.there b o q hx;⟨w,k b _ (zS (jt (zA q) c)) e⟩
 tups:=u.tups
 frzs:=u.frzs
 tbls:=u.tbls
def Zf(sn on:List (Str×NameKind))(N c:List Str)(g:List Nat):Bool:=
 sn.all (fun y=>y.2 != .cell&&(y.2 != .local||sn.lookup y.1==some .local)&&(y.2 != .free||(on.lookup y.1==some .cell||on.lookup y.1==some .free)))&&c.length==g.length
  && (c.zip g).all fun p=>sn.lookup p.1==some .free&&N[p.2]? ==some p.1
structure zds(sn on:List (Str×NameKind))(N fr:List Str)(js:List Nat):Prop where
 cell:∀y∈sn,y.2≠NameKind.cell
 loc:∀y∈sn,y.2=NameKind.local->sn.lookup y.1=some .local
 free:∀y∈sn,y.2=NameKind.free->on.lookup y.1=some .cell\/on.lookup y.1=some .free
 len:fr.length=js.length
 fr:∀(k:Nat) (x:Str),fr[k]? =some x->sn.lookup x=some .free/\∃j:Nat,js[k]? =some j/\N[j]? =some x
theorem VD{sn on:List (Str×NameKind)}{N g:List Str}{c:List Nat}(h:Zf sn on N g c=true):zds sn on N g c:=by
 unfold Zf at h;rw[jx,jx,j3,j3] at h;obtain⟨⟨l,t⟩,u⟩:=h;have o:g.length=c.length:=by simpa using t
 refine⟨fun y hy=>?_,fun y hy e=>?_,fun y hy e=>?_,o,fun k x e=>?_⟩
 ·have:=l y hy
  simp only[jx,bne_iff_ne] at this;exact this.1.1
 ·have:=l y hy
  simp only[jx,Bool.or_eq_true,bne_iff_ne,jZ] at this;exact this.1.2.resolve_left fun z=>z e
 ·have:=l y hy
  simp only[jx,Bool.or_eq_true,bne_iff_ne,jZ] at this;exact this.2.resolve_left fun z=>z e
 ·have hk:k<g.length:=(zK.mp e).1
  have s:k<c.length:=by omega
  have w:(x,c[k])∈g.zip c:=by
   refine qm (i:=k) ?_
   rw[W2];exact⟨e,by simp[s]⟩
  have:=u _ w;simp only[jx,jZ] at this;exact⟨this.1,c[k],by simp[s],this.2⟩
def upS(n:Nat)(c:List Nat)(σ:St):St:=List.replicate n none++c.map fun j=>(σ[j]?).join
def tLC(M:TI)(n:Nat)(w:List Nat)(g:TG)(L:TT)(I:TE):TE:=fun σ H Q=>M σ H fun J C=>
 ∃W:Nat->Nat->List V->Hp->Prop,(∃m,W 0 m [] C)/\∀i m l c,W i m l c ->
  (J.stop i c/\l.length<=sizeLine/\∀D,c D=none->Q (.ref D) (upd c D (.lst l))) \/
  (J.go i c/\∃N:List V->Hp->Prop,(∀B s,N B s->∃A,A<m/\W (i+1) A B s)/\∀x t,J.yld i c x t->g x (upS n w σ) t fun o E=>o.drop n=(upS n w σ).drop n/\L o E fun b u=>
   if b=true then I o u fun y G=>l.length<sizeLine/\N (l++[y]) G else N l u)
theorem vH{c:Env}{x:Str}{i:NameKind}:∀{names:List (Str×NameKind)},(names.map fun(n,k)=>if(k==NameKind.free&&c.scope.kind==.function&&c.kindOf n==some .cell) then(n,NameKind.cell) else(n,k)).lookup x=some i ->
  ∃k,names.lookup x=some k/\(i=k\/(k=.free/\i=.cell))
 | [],h=>by simp at h
 | (n,k)::r,h=>by
  by_cases hx:(x==n)=true
  ·refine⟨k,by simp[xF,hx],?_⟩
   have h:List.lookup x ((if(k==NameKind.free&&c.scope.kind==.function&&c.kindOf n==some .cell)=true then(n,NameKind.cell) else(n,k))::_)=some i:=h
   by_cases hc:(k==NameKind.free&&c.scope.kind==.function&&c.kindOf n==some .cell)=true
   ·rw[zr hc,xF,hx] at h
    simp only[jx,jZ] at hc;exact .inr ⟨hc.1.1,(jq h).symm⟩
   ·rw[zn hc,xF,hx] at h
    exact .inl (jq h).symm
  ·have g:(x==n)=false:=by simpa using hx
   have h:List.lookup x ((if(k==NameKind.free&&c.scope.kind==.function&&c.kindOf n==some .cell)=true then(n,NameKind.cell) else(n,k))::_)=some i:=h
   have l:(r.map fun(n,k)=>if(k==NameKind.free&&c.scope.kind==.function&&c.kindOf n==some .cell) then(n,NameKind.cell) else(n,k)).lookup x=some i:=by
    by_cases hc:(k==NameKind.free&&c.scope.kind==.function&&c.kindOf n==some .cell)=true
    ·rw[zr hc,xF,g] at h;exact h
    ·rw[zn hc,xF,g] at h;exact h
   obtain⟨o,e,z⟩:=vH l;exact⟨o,by rw[xF,g];exact e,z⟩
theorem wP{env:Env}{x:Str}:∀{names:List (Str×NameKind)},names.lookup x=some .free->∃c,(names.map fun(n,k)=>if(k==NameKind.free&&env.scope.kind==.function&&env.kindOf n==some .cell) then(n,NameKind.cell) else(n,k)).lookup x=some c/\(c=.cell\/c=.free)
 | [],h=>by simp at h
 | (n,k)::r,h=>by
  by_cases hx:(x==n)=true
  ·rw[xF,hx] at h
   cases(jq h);show ∃c,List.lookup x ((if(NameKind.free==NameKind.free&&env.scope.kind==.function&&env.kindOf n==some .cell)=true then(n,NameKind.cell) else(n,NameKind.free))::_)=some c/\_
   by_cases hc:(NameKind.free==NameKind.free&&env.scope.kind==.function&&env.kindOf n==some .cell)=true
   ·rw[zr hc];exact⟨.cell,by simp[xF,hx],.inl rfl⟩
   ·rw[zn hc];exact⟨.free,by simp[xF,hx],.inr rfl⟩
  ·have g:(x==n)=false:=by simpa using hx
   rw[xF,g] at h;obtain⟨c,e,z⟩:=wP (env:=env) (names:=r) h;refine⟨c,?_,z⟩
   show List.lookup x ((if(k==NameKind.free&&env.scope.kind==.function&&env.kindOf n==some .cell)=true then(n,NameKind.cell) else(n,k))::_)=some c
   by_cases hc:(k==NameKind.free&&env.scope.kind==.function&&env.kindOf n==some .cell)=true
   ·rw[zr hc,xF,g];exact e
   ·rw[zn hc,xF,g];exact e
theorem qg{g:List (Str×Addr)}{names:List (Str×NameKind)}{x:Str}{c:Addr}(h:(jP g names []).lookup x=some c)(o:∀y∈names,y.2=NameKind.free->∃c,g.lookup y.1=some c):g.lookup x=some c:=by
 rw[vq] at h;by_cases i:(names.any fun y=>y.2==NameKind.free&&x==y.1)=true
 ·rw[zr i] at h
  obtain⟨y,hy,e⟩:=Xg.mp i;simp only[jx,jZ] at e;obtain⟨s,l⟩:=o y hy e.1;rw[<- e.2] at l;rw[l] at h ⊢;exact h
 ·rw[zn i] at h
  cases h
theorem wA{c:List (Str×Addr)}{names:List (Str×NameKind)}{x:Str}(h:names.lookup x=some .free):(jP c names []).lookup x=some ((c.lookup x).getD 0):=by
 rw[vq,zr];exact Xg.mpr ⟨(x,.free),wK h,by simp⟩
theorem yc{n:Nat}{c:List Nat}{σ:St}{i:Nat}{v:V}(h:(upS n c σ)[i]? =some (some v)):n<=i/\((upS n c σ).drop n)[i-n]? =some (some v)/\∃j:Nat,c[i-n]? =some j/\σ[j]? =some (some v):=by
 unfold upS at h ⊢;by_cases s:i<n
 ·rw[jV (by simpa using s),List.getElem?_replicate] at h
  split at h<;>cases h
 ·have e:(List.replicate n (none:Option V)++c.map fun j=>(σ[j]?).join).drop n=c.map fun j=>(σ[j]?).join:=by
   rw[List.drop_append_of_le_length (by simp)];simp
  rw[jW (by simpa using s),xQ] at h
  refine⟨by omega,by rw[e];exact h,?_⟩
  rw[zY] at h;cases g:c[i-n]? with
  | none=>rw[g] at h;cases h
  | some j=>
   rw[g] at h;have h:(σ[j]?).join=some v:=jq h;refine⟨j,rfl,?_⟩
   cases l:σ[j]? with
   | none=>rw[l] at h;cases h
   | some o=>rw[l] at h;exact congrArg some h
theorem Yd{n:Nat}{c:List Nat}{σ:St}:(upS n c σ).length=n+c.length:=by unfold upS;simp
section
variable{X:Cx}{A G w:Expr}{E:List Expr}{t:Scope}{L:Pos}{U:TI}{g:TG}{O:TT}{M:TE}
theorem zbk{N:List (Addr×Obj)}{σ:St}{H:Hp}{s:Shared}{fp:List Addr}(own fr:List Str)(js:List Nat)(I:Inv X N σ H s)(B:zds t.names X.env.scope.names X.N fr js)(hk:t.kind=.function)
  (f2:∀b∈fp,jF X N H b) (fl:∀b∈fp,b<s.heap.objs.size) {D C:Addr} (hD:D=s.heap.objs.size) {Y h1:Heap} (e3:Y=s.heap.push { cls:=.type "list",dict:=none,data:=.seq ([]:List Value).toArray }) (hC:C=Y.objs.size)
  {m:Str->Option Value} (af:h1.Ns C m) (k4:∀b o,Y.get? b=some o->h1.get? b=some o) {t4:Nat} :
  Inv (zM X (own++fr) t C { s with heap:=Y } H (D::fp)) [] (upS own.length js σ) H { s with heap:=h1,toks:=t4 }:=by
 have k3:∀b o,s.heap.get? b=some o->Y.get? b=some o:=fun b o e=>by rw[e3];exact zI _ e
 have I3:Inv X N σ H { s with heap:=Y }:=I.kept (t':=s.toks) k3;have hz:Y.objs.size=s.heap.objs.size+1:=by rw[e3,jD]
 have J:∀y∈t.names,y.2=NameKind.free->∃c,X.env.cells.lookup y.1=some c:=fun y hy e=>I.ok.has y.1 (B.free y hy e)
 have Q:∀x c,X.env.cells.lookup x=some c->c<s.heap.objs.size:=fun x c e=>by
  obtain⟨v,q⟩:=I.cell x c e;exact q.lt
 refine⟨⟨I.ok.mod,hk,I.ok.glob,I.ok.blt,wc hC.symm,fun x y c e1 e2=>?_,fun x hx=>?_,fun x c hf=>(nomatch hf),fun hc=>I.ok.hd hc,I.ok.frames,.inl rfl,fun b hb=>?_,I3.bs,zX I.ok.bsz I3.sz,fun b o e hb=>?_,fun b hb hf=>?_,I3.stack,I3.stkFree⟩,
  rfl,I.bare,Un.kept k4,⟨m,af,fun i x v e1 e2 ag=>?_⟩,fun x c e=>?_,?_,fun x c e=>?_,fun p hp=>absurd (show p∈([]:List (Addr×Obj)) from hp) (by simp),I3.hok.kept k4,?_⟩
 ·exact I.ok.inj x y c (qg e1 J) (qg e2 J)
 ·obtain⟨k,e,z⟩:∃k,t.names.lookup x=some k/\(k=.free):=by
   rcases hx with hx | hx
   ·obtain⟨k,e,z⟩:=vH hx
    rcases z with z | z
    ·subst z;exact absurd rfl (B.cell _ (wK e))
    ·exact⟨k,e,z.1⟩
   ·obtain⟨k,e,z⟩:=vH hx
    rcases z with z | z
    ·subst z;exact⟨_,e,rfl⟩
    ·exact⟨k,e,z.1⟩
  subst z;exact⟨_,wA e⟩
 ·rcases zQ.mp hb with z | hb
  ·subst z
   refine⟨by rw[hD,hC,hz];exact zS (wn _),fun x c e=>?_⟩
   have:=Q x c (qg e J);rw[hD];exact zS this
  ·refine⟨by rw[hC,hz];exact zS (Qp (fl b hb)),fun x c e=>?_⟩
   exact(f2 b hb).2.2.2.2.1 x c (qg e J)
 ·rcases zQ.mp hb with z | hb
  ·have:=zA (I.bk b o e)
   rw[z,hD] at this;exact xh _ this
  ·rcases(f2 b hb).2.2.2.1 with z | z
   ·exact I.ok.noex b o e z
   ·exact absurd (jt (zA (I.ok.bs b o e).1) z) (xh _)
 ·have ab:=zQ.mp (I.stkSub b hf)
  rcases zQ.mp hb with z | hb
  ·rcases ab with y | y
   ·have:=I.lt
    rw[<- y,z,hD] at this;exact xh _ this
   ·exact I.nofs (a:=b) (by rw[z,hD];exact zy _) y
  ·rcases ab with y | y
   ·exact(f2 b hb).2.1 y
   ·exact(f2 b hb).2.2.1 y
 ·obtain⟨hn,_,j,ej,es⟩:=yc e2
  have ex:fr[i-own.length]? =some x:=by rw[jW hn] at e1;exact e1
  obtain⟨a0,j',aa,eN⟩:=B.fr _ x ex;have:j'=j:=by rw[ej] at aa;exact(jq aa).symm
  subst this;have ac:=B.free _ (wK a0) rfl;obtain⟨m0,_,hl⟩:=I.loc;obtain⟨u,r,l⟩:=hl j' x v eN es (by rcases ac with z | z;exact .inr (.inl z);exact .inr (.inr z))
  refine⟨u,r,.inr ?_⟩
  rcases l with ⟨kl,_⟩ | ⟨_,c,ec,o,eo,ed⟩
  ·have ae:X.env.scope.names.lookup x=some .local:=kl
   rcases ac with z | z
   ·exact absurd (z.symm.trans ae) (by decide)
   ·exact absurd (z.symm.trans ae) (by decide)
  ·obtain⟨k',e',z⟩:=wP (env:=X.env) a0
   have eq:(jP X.env.cells t.names []).lookup x=some c:=by rw[wA a0,ec];rfl
   refine⟨?_,c,eq,o,k4 c o (k3 c o eo),ed⟩
   rcases z with z | z
   ·subst z;exact .inl e'
   ·subst z;exact .inr e'
 ·obtain⟨v,o,eo,ed⟩:=I.cell x c (qg e J)
  exact⟨v,o,k4 c o (k3 c o eo),ed⟩
 ·exact I3.hok.fresh (wc hC.symm)
 ·exact I.freeC x c (qg e J)
 ·rw[Yd,<- B.len]
  show _=(own++fr).length;rw[zL]
inductive LcJ(Y:Cx)(D:Addr)(B:Nat->Heap->Prop)(u:List Addr)(c:List (Addr×Obj))(σ:St)(W:Nat->Nat->List V->Hp->Prop)(n:Nat)(s:Shared):Prop
 | mk (i:Nat) (C:List V) (l:List Value) (o:Hp) (z:Nat) (_:Inv Y c σ o s) (_:B i s.heap) (_:∀b∈u,o b=none) (_:o D=none) (_:s.heap.get? D=some { cls:=.type "list",data:=.seq l.toArray z }) (_:Vals C l) (_:W i n C o):LcJ Y D B u c σ W n s
inductive LcE(Y:Cx)(D:Addr)(c:List (Addr×Obj))(σ:St)(N:List V->Hp->Prop)(s:Shared):Prop
 | mk (o:List V) (i:List Value) (l:Hp) (z:Nat) (_:Inv Y c σ l s) (_:l D=none) (_:s.heap.get? D=some { cls:=.type "list",data:=.seq i.toArray z }) (_:Vals o i) (_:N o l):LcE Y D c σ N s
theorem zd5{Y:Cx}{D it:Addr}{B:List Addr}{tn:Nat->Heap->Prop}{J:It}{c:List (Addr×Obj)}{σ4:St}{Kp:St->Prop}{W:Nat->Nat->List V->Hp->Prop}{N:List V->Hp->Prop}{n:Nat}{I:Shared}
  (hc:Y.calm=true) (hx:Y.xe=fun _ _=>False) (hg:PG Y G g) (hf:PF Y E O) (he:PE Y A M) (T:QA Y.prog Y.w Y.K G J B it tn)
  (fD:∀s:Hp,s D=none->jF Y c s D) (f2:∀b∈B,∀s:Hp,s b=none->jF Y c s b) (nD:∀b∈B,D≠b) (bk:∀σ9 s s',Inv Y c σ9 s s'->Kp σ9->Inv Y c σ4 s s')
  (an:∀i m zs H7,W i m zs H7->(J.stop i H7/\N zs H7)\/(J.go i H7/\∃N2:List V->Hp->Prop,(∀zs s,N2 zs s->∃m',m'<m/\W (i+1) m' zs s)/\∀x H8,J.yld i H7 x H8->g x σ4 H8 fun σ9 H9=>Kp σ9/\O σ9 H9 fun b Q=>
    if b=true then M σ9 Q fun y ao=>zs.length<sizeLine/\N2 (zs++[y]) ao else N2 zs Q)) (j:LcJ Y D tn B c σ4 W n I) :
  wpAny (model Y.prog Y.w) Y.A (pyNext (.ref it)) (fun r s1=>match r with
   | none=>LcE Y D c σ4 N s1
   | some v=>wpAny (model Y.prog Y.w) Y.A (letOwnedTupleGo G (.ref it) v) (fun _ s2=>wpAny (model Y.prog Y.w) Y.A (assign G Y.env v) (fun _ s3=>
     wpAny (model Y.prog Y.w) Y.A (ye E Y.env) (fun ok s4=>
      if ok=true then wpAny (model Y.prog Y.w) Y.A (eval A Y.env) (fun x I=>
       wpAny (model Y.prog Y.w) Y.A (call (.builtin "list.append") [.ref D,x]) (fun _ s6=>∃m,m<n/\LcJ Y D tn B c σ4 W m s6) (fun _ _=>False) I) (fun _ _=>False) s4
      else ∃m,m<n/\LcJ Y D tn B c σ4 W m s4) (fun _ _=>False) s3) (fun _ _=>False) s2) (fun _ _=>False) s1) (fun _ _=>False) I:=by
 unfold PG at hg;unfold PF at hf;unfold PE at he
 rw[hx] at hg hf he;obtain⟨i,ys,C,H5,z5,I5,am,ai,ar,al,aa,w5⟩:=j;have ah:=I5.pinned (fp:=[D]) (fun b hb=>by rw[zP.mp hb];exact fD _ ar) (fun b hb=>by rw[zP.mp hb];exact⟨_,al,fun v q=>nomatch q⟩)
 have mD:(D,({ cls:=.type "list",data:=.seq C.toArray z5 }:Obj))∈c++qG [D] I.heap:=jz _ (jK (zP.mpr rfl) al);have af:∀{s:Hp},(∀b∈B,s b=none)->∀b∈B,jF Y (c++qG [D] I.heap) s b:=fun hn b hb=>by
  obtain⟨a1,a2,a3,a4,a5,a6⟩:=f2 b hb _ (hn b hb);refine⟨a1,a2,a3,a4,a5,fun p hp=>?_⟩
  rcases qO.mp hp with q | q
  ·exact a6 p (vz _ q)
  ·rcases qO.mp q with q | q
   ·exact a6 p (jz _ q)
   ·rw[zP.mp (yJ q).1];exact nD b hb
 rcases an i n ys H5 w5 with ⟨stop,q⟩ | ⟨go,N2,hN,step⟩
 ·refine thn (T.done Y rfl rfl rfl hc i _ I _ H5 _ ah (af ai) am stop) fun r s6 ⟨hr,I6⟩=>?_
  subst hr;obtain⟨o6,aw,_⟩:=I6.pin (D,_) (jz _ mD);exact⟨ys,C,H5,z5,I6.unpinned,aw,o6,aa,q⟩
 ·refine thn (T.item Y rfl rfl rfl hc i _ I _ H5 _ ah (af ai) am go) fun r s6 ⟨u,hr,h6⟩=>?_
  subst hr;refine thn h6 fun _ s7 ⟨x,H7,I7,r7,y7,ab,aq⟩=>?_
  refine thn (hg _ s7 _ H7 x u _ (I7.pinned (af aq) (T.obj _ _ ab)) r7 (step x H7 y7)) fun _ s8 ⟨σ8,H8,I8,as,q8⟩=>?_
  refine thn (hf _ s8 σ8 H8 _ I8 q8) fun ok s9 ⟨H9,I9,q9⟩=>?_
  have ag:=jz Y.pn (vz (qG B s7.heap) mD);have mF:∀b∈B,∀o,s7.heap.get? b=some o->(b,o)∈Y.pn++((c++qG [D] I.heap)++qG B s7.heap):=fun b hb o e=>jz _ (jz _ (jK hb e))
  generalize hP:(c++qG [D] I.heap)++qG B s7.heap=P at I9 ag mF he;have ae:∀{s:Hp} {s':Shared},Inv Y P σ8 s s'->Inv Y c σ4 s s':=fun {s s'} J=>by subst hP;exact bk _ _ _ (J.unpinned).unpinned as
  have aj:∀{s:Hp} {s':Shared},Inv Y P σ8 s s'->∀b∈B,s b=none:=fun {s s'} J b hb=>by
   obtain⟨o,e,_⟩:=T.obj _ _ ab b hb;exact(J.pin (b,o) (mF b hb o e)).2.1
  cases ok with
  | false=>
   obtain⟨m',hm,w'⟩:=hN _ _ (show N2 ys H9 by simpa using q9)
   obtain⟨o9,ax,_⟩:=I9.pin (D,_) ag;exact⟨m',hm,i+1,ys,C,H9,z5,ae I9,T.keep _ _ _ ab fun b hb o e=>(I9.pin (b,o) (mF b hb o e)).1,aj I9,ax,o9,aa,w'⟩
  | true=>
   refine thn (he _ s9 σ8 H9 (fun y H6=>ys.length<sizeLine/\N2 (ys++[y]) H6) I9 (by simpa using q9)) fun yv b0 ⟨y,Q,a0,az,au,ba⟩=>?_
   obtain⟨m',hm,w'⟩:=hN _ _ ba;obtain⟨ay,H,_⟩:=a0.pin (D,_) ag;refine wpAny_list_append_plain (l:=D) (items:=C.toArray) (hsz:=by rw[zZ,<- aa.length];exact wT au) ⟨_,ay⟩ fun bc ak ac=>?_
   obtain⟨bb,ap⟩:=ak;obtain⟨d0,d1,d2,d3,d4,d5⟩:=fD _ H;refine⟨m',hm,i+1,ys++[y],C++[yv],Q,bb,?_,T.keep _ _ _ ab fun b hb o e=>ac.extBut b o (zN (nD b hb)) (a0.pin (b,o) (mF b hb o e)).1,aj a0,H,?_,aa.append (.cons az .nil),w'⟩
   ·exact(ae a0).turned (t':=b0.toks) (it:=D) (fun b o hb e=>ac.extBut b o hb e) H d1 d3 d4 d5
   ·rw[ap];simp
theorem zfe{use:Option (Value->Sem Unit)}{Qx:Value->Shared->Prop}{cp:Pos}{rest:List Comprehension}{i:List (Addr×Obj)}{s:Shared}{σ:St}{H:Hp}{Q:VK}{Tl:It->(Nat->Nat->List V->Hp->Prop)->Prop}(own fr:List Str)(js:List Nat)(hk:t.kind=.function)(hb:Zf t.names X.env.scope.names X.N fr js=true)(hi:PI X G w U)
  (hs:∀x,foldedSetIterable w X.env x=pure x) (I:Inv X i σ H s) (h:U σ H fun J H1=>∃W:Nat->Nat->List V->Hp->Prop,(∃m,W 0 m [] H1)/\Tl J W)
  (ah:∀(C D it:Addr) (l:List Addr) (tn:Nat->Heap->Prop) (J:It) (W:Nat->Nat->List V->Hp->Prop) (u:Hp) (s3 s4:Shared) (m0:Nat) (R:Result->Shared->Prop),(∀b∈D::l,∀H':Hp,H' b=none->jF (zM X (own++fr) t C s3 u (D::l)) [] H' b)->(∀b∈l,D≠b) ->
   QA X.prog X.w X.K G J l it tn->Tl J W->LcJ (zM X (own++fr) t C s3 u (D::l)) D tn l [] (upS own.length js σ) W m0 s4 ->
   (∀Y,LcE (zM X (own++fr) t C s3 u (D::l)) D [] (upS own.length js σ) (fun ys H5=>ys.length<=sizeLine/\∀D,H5 D=none->Q (.ref D) (upd H5 D (.lst ys))) Y->R (.ok .next) Y) ->
   codeAny (model X.prog X.w) X.A (.compLoop (.ListComp A (⟨G,w,E,0⟩::rest) t L) 0 (.ref it) (.ref D) (compEnvC t (jP X.env.cells t.names []) C X.env)) R s4)
  (aj:∀(Y:Shared) (D C:Addr) (H6:Hp) (m:Str->Option Value),Y.heap.Ns C m->(∀h7:Heap,(∀b o,b≠C->Y.heap.get? b=some o->h7.get? b=some o)->Inv X i σ H6 { Y with heap:=h7 })->jF X i H6 C->Q (.ref D) H6->compPost (model X.prog X.w) X.A X.xe use Qx (.ref D) C (.ok .next) Y) :
  wpAny (model X.prog X.w) X.A (comprehension (.ListComp A (⟨G,w,E,0⟩::rest) t L) t X.env cp (newList []) false (eval w X.env) use) Qx X.xe s:=by
 have B:=VD hb;have a0:∀y∈t.names,y.2=NameKind.free->∃c,X.env.cells.lookup y.1=some c:=fun y hy e=>I.ok.has y.1 (B.free y hy e)
 refine wpAny_comprehension_free rfl hs (zaa a0) hk (fun y hy e=>B.loc y hy e) (thn (hi i s σ H _ I h) fun v s1 h1=>thn h1 fun ar s2 h2=>?_)
 obtain⟨it,l,tn,J,u,e,I2,T,ae,f2,W,⟨m0,w0⟩,tl⟩:=h2;subst e;have fl:∀b∈l,b<s2.heap.objs.size:=fun b hb=>let ⟨o,e,_⟩:=T.obj _ _ ae b hb;zA e
 refine xO (wpAny_newFunctionEnv B.cell (by intro y hy;simp at hy) (fun h1 ab ac=>?_) hk)
 dsimp only at ab ac ⊢;generalize e3:s2.heap.push { cls:=.type "list",dict:=none,data:=.seq ([]:List Value).toArray }=N at ab ac ⊢;have k3:∀b o,s2.heap.get? b=some o->N.get? b=some o:=fun b o e=>by rw[<- e3];exact zI _ e
 have k4:∀b o,N.get? b=some o->h1.get? b=some o:=fun b o e=>ac.extBut b o (zS (zA e)) (zI _ e)
 have I4:Inv (zM X (own++fr) t N.objs.size { s2 with heap:=N } u (s2.heap.objs.size::l)) [] (upS own.length js σ) u { s2 with heap:=h1,toks:=s2.toks+([]:List (Str×Value)).length }:=
  zbk own fr js I2 B hk f2 fl rfl e3.symm rfl ab k4
 have I3:Inv X i σ u { s2 with heap:=N }:=I2.kept (t':=s2.toks) k3;have hz:N.objs.size=s2.heap.objs.size+1:=by rw[<- e3,jD]
 have aa:s2.heap.objs.size≠N.objs.size:=by rw[hz];exact zS (wn _)
 have af:h1.get? s2.heap.objs.size=some { cls:=.type "list",data:=.seq ([]:List Value).toArray }:=k4 _ _ (by rw[<- e3];exact qv _ rfl)
 have al:=(I3.fpOk (b:=N.objs.size) (zy _) (I3.hok.fresh (zy _))).2;have dN:u s2.heap.objs.size=none:=I2.hok.fresh (zy _);have dO:=I2.fpOk (b:=s2.heap.objs.size) (zy _) dN;have fD:∀b∈l,s2.heap.objs.size≠b:=fun b hb=>vg (fl b hb)
 generalize s2.heap.objs.size=D at *
 generalize eC:N.objs.size=C at *
 have hx:∀b,jF X i u b->∀x c,(jP X.env.cells t.names []).lookup x=some c->c≠b:=fun b hb x c e=>hb.2.2.2.2.1 x c (qg e a0)
 have ap:∀b∈D::l,b∉frs X.stack:=I4.ok.exfs;have nC:∀b∈D::l,b≠C:=fun b hb=>by
  rcases zQ.mp hb with z | hb
  ·rw[z];exact aa
  ·exact(I4.ok.exf b (qw _ hb)).1
 have all:∀b∈D::l,jF X i u b:=fun b hb=>by
  rcases zQ.mp hb with z | hb
  ·rw[z];exact dO
  ·exact f2 b hb
 have ak:∀b∈D::l,∀H':Hp,H' b=none->jF (zM X (own++fr) t C { s2 with heap:=N } u (D::l)) [] H' b:=fun b hb H' hn=>
  ⟨hn,nC b hb,ap b hb,.inl hb,fun x c e=>hx b (all b hb) x c e,fun p h=>absurd h (by simp)⟩
 have go:∀s4:Shared,s4={ s2 with heap:=h1,toks:=s2.toks+([]:List (Str×Value)).length } ->
   codeAny (model X.prog X.w) X.A (.compLoop (.ListComp A (⟨G,w,E,0⟩::rest) t L) 0 (.ref it) (.ref D) (compEnvC t (jP X.env.cells t.names []) C X.env)) (compPost (model X.prog X.w) X.A X.xe use Qx (.ref D) C) s4:=by
  intro s4 e4;subst e4;refine ah C D it l tn J W u _ _ m0 _ ak fD T tl ⟨0,[],[],u,0,I4,T.keep _ _ _ ae fun b hb o e=>k4 b o (k3 b o e),fun b hb=>(f2 b hb).1,dN,af,.nil,w0⟩ fun Y h6=>?_
  obtain⟨ys,ao,H5,z5,I6,ai,o6,aq,ag,q⟩:=h6;obtain⟨m6,an,_⟩:=I6.loc;have am:upd H5 D (.lst ys) C=none:=by rw[zk (zN aa)];exact I6.free
  refine aj Y D C (upd H5 D (.lst ys)) m6 an (fun h7 k7=>?_) ⟨am,al⟩ (q D ai)
  refine I3.call' (s':={ Y with heap:=h7 }) (ch:=D::l) I6.os (ZE (zby I6.base (wc eC) k7) jU dN) (yP (Y1 I6.hok I6.free k7) ai ⟨ag,ao,z5,aq,k7 D _ aa o6⟩) I6.bare fun b hb=>?_
  obtain⟨_,g1,_,g3,g4,g5⟩:=all b hb;exact⟨g3,g1,g4,g5⟩
 exact codeAny_compStart_list (go _ rfl) (T.self X.A 0 _ _ _ (T.keep _ _ _ ae fun b hb o e=>k4 b o (k3 b o e)) (go _ rfl))
theorem zbx{Y:Cx}{c:List (Addr×Obj)}{n:Nat}{i:List Nat}{σ s:St}{l:Hp}{o:Shared}(B:(upS n i σ).length=Y.N.length)(J:Inv Y c s l o)(u:s.drop n=(upS n i σ).drop n):Inv Y c (upS n i σ) l o:=by
 refine J.weak (B.trans J.len.symm) fun k v e=>?_
 obtain⟨C,e1,_⟩:=yc e;rw[<- u,Xm] at e1;rw[<- e1];congr 1
 omega
theorem YY{C D it:Addr}{c:List Addr}{tn:Nat->Heap->Prop}{J:It}{W:Nat->Nat->List V->Hp->Prop}{H2:Hp}{s3 s4:Shared}{m0 n:Nat}{R:Result->Shared->Prop}{B:List Nat}{σ:St}{l:List Str}{N:List V->Hp->Prop}(hc:X.calm=true)
  (hg:∀C s H ex,PG (zM X l t C s H ex) G g) (hf:∀C s H ex,PF (zM X l t C s H ex) E O) (he:∀C s H ex,PE (zM X l t C s H ex) A M) (a0:∀b∈D::c,∀u:Hp,u b=none->jF (zM X l t C s3 H2 (D::c)) [] u b) (fD:∀b∈c,D≠b) (T:QA X.prog X.w X.K G J c it tn)
  (aa:∀i m o H7,W i m o H7->(J.stop i H7/\N o H7)\/(J.go i H7/\∃N2:List V->Hp->Prop,(∀o u,N2 o u->∃m',m'<m/\W (i+1) m' o u)/\∀x H8,J.yld i H7 x H8->g x (upS n B σ) H8 fun σ9 H9=>σ9.drop n=(upS n B σ).drop n/\O σ9 H9 fun b Q=>
    if b=true then M σ9 Q fun y ab=>o.length<sizeLine/\N2 (o++[y]) ab else N2 o Q))
  (j:LcJ (zM X l t C s3 H2 (D::c)) D tn c [] (upS n B σ) W m0 s4) (ac:∀s6,LcE (zM X l t C s3 H2 (D::c)) D [] (upS n B σ) N s6->R (.ok .next) s6) :
  codeAny (model X.prog X.w) X.A (.compLoop (.ListComp A [⟨G,w,E,0⟩] t L) 0 (.ref it) (.ref D) (compEnvC t (jP X.env.cells t.names []) C X.env)) R s4:=by
 have hl:=(let ⟨_,_,_,_,_,I,_,_,_,_,_,_⟩:=j;I.len:(upS n B σ).length=l.length)
 refine zc2 (LcJ (zM X l t C s3 H2 (D::c)) D tn c [] (upS n B σ) W) (fun k s5 j=>qN (zd5 (Y:=zM X l t C s3 H2 (D::c)) hc rfl (hg _ _ _ _) (hf _ _ _ _) (he _ _ _ _) T (a0 D jU) (fun b hb=>a0 b (qw _ hb)) fD (fun σ9 u s' J hd=>zbx hl J hd) aa j) (fun r s6 h6=>?_) fun _ _ q=>q) m0 j
 cases r with
 | some v=>exact h6
 | none=>exact ac s6 h6
theorem zcd(own i:List Str)(B:List Nat)(hc:X.calm=true)(hk:t.kind=.function)(hb:Zf t.names X.env.scope.names X.N i B=true)(hi:PI X G w U)
  (hg:∀C s H c,PG (zM X (own++i) t C s H c) G g) (hf:∀C s H c,PF (zM X (own++i) t C s H c) E O) (he:∀C s H c,PE (zM X (own++i) t C s H c) A M)
  (hs:∀x,foldedSetIterable w X.env x=pure x:=by intro _;rfl):PE X (.ListComp A [⟨G,w,E,0⟩] t L) (tLC U own.length B g O M):=by
 intro N s σ H Q I h;rw[eval_ListComp];exact zfe (rest:=[]) own i B hk hb hi hs I h (fun C D it fp tn J W H2 s3 s4 m0 R a b T tl j l=>YY hc hg hf he a b T tl j l) fun s6 D C Y m hn all _ q=>⟨m,hn,fun h7 u=>⟨.ref D,Y,all h7 fun b o hb e=>u.extBut b o hb e,rfl,q⟩⟩
end
section
variable{X:Cx}{g:List (Addr×Obj)}{σ:St}{H:Hp}{s:Shared}
theorem JM{ch:List Addr}{h':Heap}{t':Nat}{T:Addr}{t:List V}{its:List Value}(I:Inv X g σ H s)(l:∀b∈ch,jF X g H b)(w:s.heap.objs.size<=T)
  (k:∀b o,b∉ch->s.heap.get? b=some o->h'.get? b=some o) (L:t.length<=sizeLine) (Q:Vals t its) (O:TupX h' T its.toArray) :
  Inv X g σ (upd H T (.tup t)) { s with heap:=h',toks:=t' }:=by
 have i:H T=none:=I.hok.fresh w;have ne:∀b o,s.heap.get? b=some o->b≠T:=fun b o e=>zS (jt (zA e) w)
 have A:∀b u,H b=some u->b∉ch:=fun b u e hb=>by rw[(l b hb).1] at e;cases e
 refine I.step (g':=s.gens) (d':=s.drawn) (ch:=ch) (fun b hb=>?_) (fun b o _ _ hc e _=>k b o hc e) (fun b o _ _ hc e _=>⟨o.slots,k b o hc e⟩) (fun b o _ e n=>by rw[zk (ne b o e)];exact n) (fun b o hc e=>⟨o,k b o hc e⟩)
  (fun b U e=>by rw[zk (zm e i)];exact e) (fun b o u e=>by rw[zk (zm e i)];exact e) (fun b ps e=>⟨#[],by rw[zk (zm e i),e];simp⟩) (fun m M=>?_) (fun b u e=>?_) I.bare
 ·obtain⟨_,D,_,E,G,J⟩:=l b hb
  exact⟨E,D,G,J⟩
 ·obtain⟨o,C,B,N,r⟩:=M
  exact⟨o,C,B,k _ o (fun z=>(l _ z).2.1 rfl) N,r⟩
 ·by_cases hb:b=T
  ·subst hb
   rw[zc] at e;cases e;exact⟨L,its,Q,O⟩
  ·rw[zk hb] at e
   refine(I.hok b u e).stay (fun c v hc q=>k c v ?_ q) (fun c q=>by rw[zk (zm q i)];exact q) fun c U q=>by rw[zk (zm q i)];exact q
   rcases hc with z | z
   ·rw[z];exact A b u e
   ·exact A c _ z
end
def Ite(K:W.Frag)(a:Addr):It:=
 ⟨fun i H=>∃c x,SqL K H a c/\c[i]? =some x,fun i H x g=>∃T y,x=.ref T/\H T=none/\g=upd H T (.tup [.int i,y])/\∀c,SqL K H a c->c[i]? =some y,fun i H=>∃c,SqL K H a c/\c.length<=i⟩
theorem zax{P:Program}{w:World}{K:W.Frag}{N:List Expr}{kk:Nat}{aj:Pos}(a e t:Addr)(G:e≠t) :
  QA P w K (.Tuple N kk aj) (Ite K a) [e,t] e (fun i h=>(∃C,IsEnum h e t i C)/\h.IsListIter t a i) where
 mem:=by simp
 obj:=fun i h st b hb=>by
  obtain⟨⟨C,g⟩,⟨o,ho,c,d⟩⟩:=st;rcases zQ.mp hb with z | z
  ·subst z;exact⟨_,g,fun v q=>nomatch q⟩
  ·rw[zP.mp z];exact⟨o,ho,fun v q=>by rw[d] at q;cases q⟩
 keep:=fun i h h' st k=>by
  obtain⟨⟨C,g⟩,hi⟩:=st;exact⟨⟨C,k e (by simp) _ g⟩,hi.at fun o q=>k t (by simp) o q⟩
 item:=by
  intro X hP hw hK hc i Y s σ H E I hf st hg;subst hP hw hK;obtain⟨⟨C,g⟩,l⟩:=st;obtain⟨xs,x,hq,hx⟩:=hg;obtain⟨B,rv,p,hz⟩:=I.list hq;obtain⟨u,hu,ru⟩:=rv.get hx;have M:=p.isList;have O:a≠t:=fun z=>by
   obtain⟨o,e1,c1,_⟩:=M;obtain⟨o',e2,c2,_⟩:=l;rw[z,e2] at e1;cases e1;rw[c2] at c1;exact absurd (wf c1) (by decide)
  have aa:e≠a:=fun z=>by
   obtain⟨o,e1,c1,_⟩:=M;rw[<- z,g] at e1;cases e1;exact absurd (wf c1) (by decide)
  have D:=Draws.list (prog:=X.prog) (w:=X.w) (A:=X.A.in1) (I.ok.hd hc) t a O B.toArray;have hi:i<B.toArray.size:=by
   have h1:=(zK.mp hu).1;simpa using h1
  refine wpAny_pyNext_enum_itemD D g ⟨l,M⟩ hi G (by simp[G,aa]) fun x' h' tk a0 Q U hT am hk=>?_
  have ex:x'=u:=by
   have L:B[i]? =some x':=by simpa using a0
   rw[hu] at L;exact(jq L).symm
  subst ex;refine⟨_,rfl,wpAny_letOwnedTupleGo_enum Q fun L af J=>?_⟩
  have eT:s.heap.objs.size≠e:=vg (zA g);have k2:∀b o,b∉[e,t]->s.heap.get? b=some o->L.get? b=some o:=fun b o hb q=>by
   have n1:b≠e:=fun z=>hb (by simp[z])
   have n2:b≠t:=fun z=>hb (by simp[z])
   exact(J.2 b n1).trans (hk b o n1 n2 q)
  have ai:L.IsListIter t a (i+1):=U.1.extBut J.extBut (zN G);refine⟨.ref s.heap.objs.size,upd H s.heap.objs.size (.tup [.int i,x]),?_,rfl,⟨_,x,rfl,I.hok.fresh (zy _),rfl,fun ys hy=>by rw[I.list_inj hy hq];exact hx⟩,⟨⟨_,by simpa using af⟩,ai⟩,fun b hb=>?_⟩
  ·refine JM (s:=s) (h':=L) (t':=tk+1) (its:=[.int i tk,x']) I hf (zy _) k2 (by rw[sizeLine_eq];exact(by decide:2<=16777216)) (.cons ⟨tk,rfl⟩ (.cons ru .nil)) (TupX.by ((J.2 _ eT).trans hT))
  ·have ab:b<s.heap.objs.size:=by
    rcases zQ.mp hb with z | z
    ·rw[z];exact zA g
    ·rw[zP.mp z]
     obtain⟨o',e',_⟩:=l;exact zA e'
   rw[zk (zS ab)];exact(hf b hb).1
 done:=by
  intro X hP hw hK hc i Y s σ H E I hf st hg;subst hP hw hK;obtain⟨⟨C,g⟩,l⟩:=st;obtain⟨xs,hq,hx⟩:=hg;obtain⟨B,rv,p,hz⟩:=I.list hq;have M:=p.isList;have O:a≠t:=fun z=>by
   obtain⟨o,e1,c1,_⟩:=M;obtain⟨o',e2,c2,_⟩:=l;rw[z,e2] at e1;cases e1;rw[c2] at c1;exact absurd (wf c1) (by decide)
  obtain⟨f0,f1,f2,f3,f4,f5⟩:=hf t (by simp)
  have ag:B.toArray.size<=i:=by
   have:=rv.length;simp only[zZ];omega
  have hT:s.TypeIs (.ref e) "enumerate" :=⟨_,g,rfl⟩;unfold pyNext;refine zd (vv (vC (name:=Str.ofString "__next__") hT Xu (xq Xu hT F.entry_enumerate_next ?_ (F.args_enumerate_next_1 _))))
  show wpAny _ _ (field (.ref e) 2 >>= _) _ _ _;refine zd (jm g rfl (x:=.ref t) rfl (zd (wpAny_nextOf_list_end (I.ok.hd hc) l M (by simpa using ag) fun h' x ae ah=>?_)))
  obtain⟨o,ho,ac⟩:=ah;refine zd (vV (T:= "StopIteration") (b:=true) ⟨o,ho,ac⟩ isSubtype_stop ?_)
  exact zp ⟨rfl,I.turned (t':=s.toks) (fun b o hb q=>ae b o hb q) f0 f1 f3 f4 f5⟩
 self:=fun _ _ _ _ _ st h=>let ⟨⟨_,g⟩,_⟩:=st;wpAny_pyIter_enum g h
section
variable{X:Cx}
def zhj(K:W.Frag)(g:TA):TI:=fun σ H R=>g σ H fun i c=>∃a,i=[.ref a]/\(∃l,SqL K c a l)/\R (Ite K a) c
theorem zdL{l:Expr}{B:TA}{p o tp:Pos}{g:List Expr}{Q:Nat}(G:Gl X "enumerate")(L:X.mg "enumerate" = none)(E:PA X [l] B)(M:starEach [l] X.env=[(false,eval l X.env)]:=by rfl) :
  PI X (.Tuple g Q tp) (.Call (.Name "enumerate" p) [l] [] o) (zhj X.K B):=by
 intro c s σ H R I h;refine Call_ (xE I G L boot_enumerate (Zk (thn (E o c s σ H _ I h) fun us s1 ⟨vs,w,t,r1,Y⟩=>?_) M rfl))
 obtain⟨a,e,⟨xs,hq⟩,q⟩:=Y;subst e;obtain⟨u,rfl,ru⟩:=vG r1;cases ru;obtain⟨O,rv,U,hz⟩:=t.list hq;refine call_enumerate_list U.isList fun D A J N hk=>wpAny_pyIter_enum A ?_
 have C:Inv X c σ w { s1 with heap:=D }:=t.kept (t':=s1.toks) hk;refine⟨s1.heap.objs.size+1,[s1.heap.objs.size+1,s1.heap.objs.size],_,_,w,rfl,C,zax a _ _ (Nat.succ_ne_self _),⟨⟨_,A⟩,J⟩,fun b hb=>?_,q⟩
 have i:s1.heap.objs.size<=b:=by
  rcases zQ.mp hb with z | z
  ·rw[z];exact J6 _
  ·rw[zP.mp z];exact zy _
 exact t.fpOk i (t.hok.fresh i)
theorem zcP{K:W.Frag}{a:Addr}{xs:List V}{g:TG}{w:TS}{D:XG}{σ:St}{H:Hp}(Pv:Nat->St->Hp->Prop)(A:Pv 0 σ H)(G:∀i σ H,i<=xs.length->Pv i σ H->SqL K H a xs)
  (I:∀i x σ H T,xs[i]? =some x->Pv i σ H->H T=none->g (.ref T) σ (upd H T (.tup [.int i,x])) fun t o=>w { D with nx:=Pv (i+1),ct:=Pv (i+1),bk:=D.nx } t o) (C:∀σ H,Pv xs.length σ H->D.nx σ H) :
  ∃W:Nat->Nat->St->Hp->Prop,(∃m,W 0 m σ H)/\∀i m σ H,W i m σ H ->
   ((Ite K a).stop i H/\D.nx σ H)\/((Ite K a).go i H/\∃N:St->Hp->Prop,(∀s c,N s c->∃u,u<m/\W (i+1) u s c)/\∀x c,(Ite K a).yld i H x c->g x σ c fun t o=>w { D with nx:=N,ct:=N,bk:=D.nx } t o):=by
 refine⟨fun i m σ H=>m=xs.length-i/\i<=xs.length/\Pv i σ H,⟨xs.length,by simp,qB _,A⟩,?_⟩
 rintro i m σ H ⟨rfl,E,p⟩;have q:=G i σ H E p;by_cases l:i<xs.length
 ·refine .inr ⟨⟨xs,xs[i],q,by simp[l]⟩,Pv (i+1),fun s c J=>⟨xs.length-(i+1),by omega,rfl,l,J⟩,fun x c y=>?_⟩
  obtain⟨T,z,e1,B,e2,y⟩:=y;subst e1 e2;exact I i z σ H T (y xs q) p B
 ·have e:i=xs.length:=by omega
  subst e;exact .inl ⟨⟨xs,q,zy _⟩,C σ H p⟩
inductive Zs(K:W.Frag)(g:List V)(H:Hp)(Q:VK):Prop
 | mk (p:Addr) (c:List Bool) (_:g=[.ref p]) (_:SqL K H p (c.map V.bl)) (_:Q (.bl (c.all id)) H):Zs K g H Q
theorem jL(hc:X.calm=true):CallR X (.builtin "all") (Zs X.K):=by
 intro M s σ H xs us Q I r h;obtain⟨p,c,rfl,hq,q⟩:=h;obtain⟨u,rfl,G⟩:=vG r;cases G;obtain⟨g,J,pl,hz⟩:=I.list hq;have D:=pl.isList;have E:p≠s.heap.objs.size:=by
  obtain⟨o,e,_⟩:=D;exact zS (zA e)
 refine call_all_walk (wpAny_pyIter_list D ?_)
 refine⟨s.heap.objs.size,_,_,_,_,_,fun i=>c.getD i true,rfl,Walks.list (prog:=X.prog) (w:=X.w) (A:=X.A.in1) (I.ok.hd hc) _ p E g.toArray,⟨⟨_,qv _ rfl,rfl,rfl⟩,D.push _⟩,?_,fun h' tk hk=>?_⟩
 ·intro i v s' O E' C hQ
  have C:g.toArray[i]? =some v:=C;have e1:g[i]? =some v:=by simpa using C
  have l:i<c.length:=by
   have h1:=(zK.mp e1).1;have h2:=J.length;rw[zo] at h2;omega
  have e2:(c.map V.bl)[i]? =some (.bl c[i]):=by simp[l]
  obtain⟨u',L,G⟩:=J.get e2;rw[e1] at L;cases L;cases G;have U:c.getD i true=c[i]:=by simp[l]
  have t:O (c.getD i true) s':=hQ;rw[U] at t;exact wI t
 ·have k:∀b o,s.heap.get? b=some o->h'.get? b=some o:=fun b o e=>hk b o (by simp;exact zS (zA e)) (zI _ e)
  have Y:(List.range g.toArray.size).all (fun i=>c.getD i true)=c.all id:=by
   have B:g.toArray.size=c.length:=by
    have:=J.length;rw[zo] at this;simp only[zZ];omega
   rw[B,vU,j3,j3];constructor
   ·intro h b hb
    obtain⟨i,l,rfl⟩:=List.mem_iff_getElem.mp hb;have:=h i (qC.mpr l);simpa [l] using this
   ·intro h i l
    have l:=qC.mp l;have:=h c[i] (vy l);simpa [l] using this
  exact⟨.bl (c.all id),H,I.kept k,by rw[Y];rfl,q⟩
end
def SqK(K:W.Frag)(g:Bool)(H:Hp)(a:Addr)(c:List V):Prop:=match g with
 | true=>SqL K H a c
 | false=>SqT K H a c
def SeqK(g:Bool)(h:Heap)(a:Addr)(c:Array Value):Prop:=match g with
 | true=>h.IsList a c
 | false=>h.IsTuple a c
def ItrK(g:Bool)(h:Heap)(c a:Addr)(i:Nat):Prop:=match g with
 | true=>h.IsListIter c a i
 | false=>h.IsTupleIter c a i
theorem SeqK.at{kd:Bool}{h g:Heap}{a:Addr}{c:Array Value}(x:SeqK kd h a c)(k:∀o,h.get? a=some o->g.get? a=some o):SeqK kd g a c:=by
 cases kd with
 | true=>exact Heap.IsList.at x k
 | false=>obtain⟨o,e,r⟩:=(show h.IsTuple a c from x);exact⟨o,k o e,r⟩
theorem ItrK.at{kd:Bool}{h g:Heap}{c a:Addr}{i:Nat}(x:ItrK kd h c a i)(k:∀o,h.get? c=some o->g.get? c=some o):ItrK kd g c a i:=by
 cases kd with
 | true=>exact Heap.IsListIter.at x k
 | false=>obtain⟨o,e,r⟩:=(show h.IsTupleIter c a i from x);exact⟨o,k o e,r⟩
theorem ItrK.obj{l:Bool}{h:Heap}{g a:Addr}{i:Nat}(x:ItrK l h g a i):∃o,h.get? g=some o/\(o.cls=.type "list_iterator" \/ o.cls=.type "tuple_iterator")/\∀v,o.data≠.cell v:=by
 cases l with
 | true=>obtain⟨o,e,c,d⟩:=(show h.IsListIter g a i from x);exact⟨o,e,.inl c,fun v q=>by rw[d] at q;cases q⟩
 | false=>obtain⟨o,e,c,d⟩:=(show h.IsTupleIter g a i from x);exact⟨o,e,.inr c,fun v q=>by rw[d] at q;cases q⟩
theorem SeqK.cls{i:Bool}{h:Heap}{a:Addr}{g:Array Value}(x:SeqK i h a g):∃o,h.get? a=some o/\(o.cls=.type "list" \/ o.cls=.type "tuple")/\∃n,o.data=.seq g n:=by
 cases i with
 | true=>obtain⟨o,e,c,n,d⟩:=(show h.IsList a g from x);exact⟨o,e,.inl c,n,d⟩
 | false=>obtain⟨o,e,c,n,d⟩:=(show h.IsTuple a g from x);exact⟨o,e,.inr c,n,d⟩
section
variable{l:Program}{w:World}{A:Around}{E:Value->Shared->Prop}{s:Shared}
theorem jI{kd:Bool}{g a:Addr}{i:Nat}{t:Array Value}{x:Value}{Q:Value->Shared->Prop}(I:ItrK kd s.heap g a i)(J:SeqK kd s.heap a t)(hx:t[i]? =some x)
  (H:∀C,ItrK kd C g a (i+1)->Heap.SameBut g s.heap C->Q x { s with heap:=C }):wpAny (model l w) A (Builtin.SmallTypes.nextOf (.ref g)) Q E s:=by
 cases kd with
 | true=>exact wpAny_nextOf_list_item I J hx H
 | false=>
  have c:s.heap.IsTupleIter g a i:=I;obtain⟨o,B,hc,u⟩:=id c;obtain⟨M,G,_,nl,D⟩:=(show s.heap.IsTuple a t from J)
  unfold Builtin.SmallTypes.nextOf;refine zd (vC (name:=Str.ofString "__next__") c.typeIs XE (xq XE c.typeIs zdf ?_ (zdh _)))
  show wpAny _ _ (field (.ref g) 0 >>= _) _ _ _;refine zd (jm B u (x:=.ref a) rfl ?_)
  show wpAny _ _ (if(Value.ref a==Value.none)=true then _ else _) _ _ _;rw[zn (show ¬((Value.ref a==Value.none)=true) from qE)]
  show wpAny _ _ (field (.ref g) 1 >>= _) _ _ _;refine zd (jm B u (x:=.int i 0) rfl ?_)
  show wpAny _ _ (seqItems? (.ref a) >>= _) _ _ _;refine zd (xi G D ?_);simp only[jT,hx]
  refine zd (wpAny_setField B u (by simp) (zp ⟨x,rfl,zp (H _ (show Heap.IsTupleIter _ _ _ _ from ?_) (yx ..))⟩))
  refine⟨_,xP _ B (WS (Qs u _)),(WD ..).trans hc,?_⟩;rw[Qs u];simp[rawInt]
theorem xv{kd:Bool}{t a:Addr}{i:Nat}{g:Array Value}{Q:Value->Shared->Prop}(D:A.handled=none)(J:ItrK kd s.heap t a i)(L:SeqK kd s.heap a g)(hx:g[i]? =none)
  (I:∀u e,Heap.ExtBut t s.heap u->(∃o,u.get? e=some o/\o.cls=.type "StopIteration")->E (.ref e) { s with heap:=u }):wpAny (model l w) A (Builtin.SmallTypes.nextOf (.ref t)) Q E s:=by
 cases kd with
 | true=>exact wpAny_nextOf_list_end D J L hx I
 | false=>
  have c:s.heap.IsTupleIter t a i:=J;obtain⟨o,G,hc,B⟩:=id c;obtain⟨N,H,_,nl,C⟩:=(show s.heap.IsTuple a g from L)
  unfold Builtin.SmallTypes.nextOf;refine zd (vC (name:=Str.ofString "__next__") c.typeIs XE (xq XE c.typeIs zdf ?_ (zdh _)))
  show wpAny _ _ (field (.ref t) 0 >>= _) _ _ _;refine zd (jm G B (x:=.ref a) rfl ?_)
  show wpAny _ _ (if(Value.ref a==Value.none)=true then _ else _) _ _ _;rw[zn (show ¬((Value.ref a==Value.none)=true) from qE)]
  show wpAny _ _ (field (.ref t) 1 >>= _) _ _ _;refine zd (jm G B (x:=.int i 0) rfl ?_)
  show wpAny _ _ (seqItems? (.ref a) >>= _) _ _ _;refine zd (xi H C ?_);simp only[jT,hx]
  refine zd (xp (zd (wpAny_setField G B (by simp) ?_)));show wpAny _ _ (newExc (.type "StopIteration") [] >>= _) _ _ _
  refine zd ?_;simp only[newExc,newTuple];refine zd (xO ?_ (by size_fits))
  refine zd (m:=firstArgMember _ _) (yT (a:=Value.none) (by first| rfl | (simp only[firstArgMember];rfl)) (xO ?_ (by size_fits)))
  simp only[raiseNew];refine zd (wpAny_handled ?_);first| rw[show A.in1.handled=none from D] | rw[D]
  exact zd (zp (wpAny_throw (I _ _ (((yx ..).extBut.push _).push _) ⟨_,qv _ rfl,rfl⟩)))
structure Zl(k1 k2:Bool)(h:Heap)(z TI TO i1 i2 a1 a2:Addr)(i:Nat):Prop where
 zz:IsZip h z TI TO .none
 ti:IsPair h TI (.ref i1) (.ref i2)
 to:∃a b,IsPair h TO a b
 r1:ItrK k1 h i1 a1 i
 r2:ItrK k2 h i2 a2 i
structure Qy(z TI TO i1 i2:Addr):Prop where
 a:TI≠z
 b:TO≠z
 c:i1≠z
 d:i2≠z
 e:TI≠TO
 f:TI≠i1
 g:TI≠i2
 h:TO≠i1
 i:TO≠i2
 j:i1≠i2
theorem zad{k1 k2:Bool}{z TI TO u H a1 a2:Addr}{i:Nat}{xs ys:Array Value}{x y:Value}{Q:Option Value->Shared->Prop}(N:Qy z TI TO u H)(Z:Zl k1 k2 s.heap z TI TO u H a1 a2 i)
  (l1:SeqK k1 s.heap a1 xs) (l2:SeqK k2 s.heap a2 ys) (m1:∀b∈[z,TO,u,H],a1≠b) (m2:∀b∈[z,TO,u,H],a2≠b) (hx:xs[i]? =some x) (hy:ys[i]? =some y)
  (hQ:∀I,IsZip I z TI TO (rawInt s.heap.objs.size)->IsPair I TI (.ref u) (.ref H)->(∃a b,IsPair I TO a b)->ItrK k1 I u a1 (i+1)->ItrK k2 I H a2 (i+1)->IsPair I s.heap.objs.size x y->I.objs.size=s.heap.objs.size+1 ->
   (∀c o,c∉[z,TO,u,H]->s.heap.get? c=some o->I.get? c=some o)->Q (some (.ref s.heap.objs.size)) { s with heap:=I }):wpAny (model l w) A (pyNext (.ref z)) Q E s:=by
 obtain⟨hz,af,⟨a,b,aj⟩,h1,h2⟩:=Z;have hT:s.TypeIs (.ref z) "zip" :=⟨_,hz,rfl⟩;unfold pyNext;refine zd (vv (vC (name:=Str.ofString "__next__") hT wg (xq wg hT Xf ?_ (Xj _))))
 show wpAny _ _ (field (.ref z) 2 >>= _) _ _ _;refine zd (jm hz rfl (x:=.bool false) rfl ?_)
 show wpAny _ _ (field (.ref z) 3 >>= _) _ _ _;refine zd (jm hz rfl (x:=.ref TI) rfl (zd (xi af rfl ?_)))
 show wpAny _ _ (Builtin.SmallTypes.ownedTupleIsFree (.ref z) >>= _) _ _ _;refine zd ?_
 unfold Builtin.SmallTypes.ownedTupleIsFree;refine zd (jm hz rfl (x:=.none) rfl (zp ?_));simp only[if_true]
 refine zd (xp (zd (jm hz rfl (x:=.ref TO) rfl (zd (wY hz (by simp) fun g1 ab C=>?_)))))
 replace ab:IsZip g1 z TI TO .ellipsis:=ab
 refine zd ?_;simp only[List.zipIdx_cons,List.zipIdx_nil,y3,Ql]
 refine zd (zd (wpAny_onRaise ?_));show wpAny _ _ (Builtin.SmallTypes.nextOf (.ref u) >>= _) _ _ _
 refine zd (jI (h1.at fun o e=>C.extBut _ o N.c e) (l1.at fun o e=>C.extBut _ o (m1 z (by simp)) e) hx fun g2 ah J=>zp ?_)
 have O:IsPair g2 TO a b:=J.extBut _ _ N.h (C.extBut _ _ N.b aj);refine zd (xi O rfl (zd (wpAny_updateSeq_pair O fun g3 B L=>?_)))
 replace B:IsPair g3 TO x b:=B
 refine zd (v0 (zp ?_));refine zd (zd (wpAny_onRaise ?_));show wpAny _ _ (Builtin.SmallTypes.nextOf (.ref H) >>= _) _ _ _
 have Y:∀c o,c∉[z,TO,u]->s.heap.get? c=some o->g3.get? c=some o:=fun c o hc e=>L.extBut _ o (fun q=>hc (by simp[q])) (J.extBut _ o (fun q=>hc (by simp[q])) (C.extBut _ o (fun q=>hc (by simp[q])) e))
 refine zd (jI (h2.at fun o e=>Y _ o (by simp[N.d,zN N.i,zN N.j]) e) (l2.at fun o e=>Y _ o (by simp[m2 z (by simp),m2 TO (by simp),m2 u (by simp)]) e) hy fun g4 ai D=>zp ?_)
 have U:IsPair g4 TO x b:=D.extBut _ _ N.i B;refine zd (xi U rfl (zd (wpAny_updateSeq_pair U fun g t G=>?_)))
 replace t:IsPair g TO x y:=t
 refine zd (v0 (zp (zp (zd (xi t rfl (zd (wpAny_newTuple ?_)))))))
 have zs:g.objs.size=s.heap.objs.size:=by rw[G.1,D.1,L.1,J.1,C.1]
 have ag:IsZip g z TI TO .ellipsis:=G.extBut _ _ (zN N.b) (D.extBut _ _ (zN N.d) (L.extBut _ _ (zN N.b) (J.extBut _ _ (zN N.c) ab)));have k5:∀c o,c∉[z,TO,u,H]->s.heap.get? c=some o->g.get? c=some o:=fun c o hc e=>G.extBut _ o (fun q=>hc (by simp[q])) (D.extBut _ o (fun q=>hc (by simp[q])) (Y c o (fun q=>hc (by simp at q ⊢;rcases q with q | q | q<;>simp[q])) e))
 have r1:ItrK k1 g u a1 (i+1):=ah.at fun o e=>G.extBut _ o (zN N.h) (D.extBut _ o N.j (L.extBut _ o (zN N.h) e))
 have r2:ItrK k2 g H a2 (i+1):=ai.at fun o e=>G.extBut _ o (zN N.i) e
 have zl:z<g.objs.size:=zA ag;show wpAny _ _ (Builtin.SmallTypes.ownedTupleHandOut (.ref z) (.ref g.objs.size) >>= _) _ _ _;refine zd ?_;unfold Builtin.SmallTypes.ownedTupleHandOut
 have ak:IsZip (g.push { cls:=.type "tuple",data:=.seq #[x,y] }) z TI TO .ellipsis:=zI _ ag;refine zd (wY ak (by simp) fun g7 ac a0=>?_)
 replace ac:IsZip g7 z TI TO (rawInt g.objs.size):=ac
 refine wY ac (by simp) fun g8 M aa=>?_
 replace M:IsZip g8 z TI TO (rawInt g.objs.size):=M
 have up:∀c o,c≠z->g.get? c=some o->g8.get? c=some o:=fun c o c1 e=>aa.extBut _ o c1 (a0.extBut _ o c1 (zI _ e))
 have ae:IsPair g8 g.objs.size x y:=aa.extBut _ _ (vg zl) (a0.extBut _ _ (vg zl) (qv _ rfl));have z8:g8.objs.size=g.objs.size+1:=by rw[aa.1,a0.1,jD]
 rw[zs] at M ae z8;refine zp ⟨_,rfl,zp ?_⟩;show Q (some (.ref g.objs.size)) _;rw[zs]
 exact hQ g8 M (up _ _ N.a (k5 _ _ (by simp[N.a,N.e,N.f,N.g]) af)) ⟨_,_,up _ _ N.b t⟩ (r1.at fun o e=>up _ o N.c e) (r2.at fun o e=>up _ o N.d e) ae z8 fun c o hc e=>up c o (fun q=>hc (by simp[q])) (k5 c o hc e)
theorem zbp{k1 k2:Bool}{z TI TO H M a1 a2:Addr}{i:Nat}{xs ys:Array Value}{Q:Option Value->Shared->Prop}(hh:A.handled=none)(N:Qy z TI TO H M)(Z:Zl k1 k2 s.heap z TI TO H M a1 a2 i)
  (l1:SeqK k1 s.heap a1 xs) (l2:SeqK k2 s.heap a2 ys) (m1:∀b∈[z,TO,H,M],a1≠b) (m2:∀b∈[z,TO,H,M],a2≠b) (O:xs[i]? =none\/ys[i]? =none)
  (hQ:∀h',(∀c o,c∉[z,TO,H,M]->s.heap.get? c=some o->h'.get? c=some o)->Q none { s with heap:=h' }):wpAny (model l w) A (pyNext (.ref z)) Q E s:=by
 obtain⟨L,ab,⟨a,b,ac⟩,h1,h2⟩:=Z;have hT:s.TypeIs (.ref z) "zip" :=⟨_,L,rfl⟩;unfold pyNext;refine zd (vv (vC (name:=Str.ofString "__next__") hT wg (xq wg hT Xf ?_ (Xj _))))
 show wpAny _ _ (field (.ref z) 2 >>= _) _ _ _;refine zd (jm L rfl (x:=.bool false) rfl ?_)
 show wpAny _ _ (field (.ref z) 3 >>= _) _ _ _;refine zd (jm L rfl (x:=.ref TI) rfl (zd (xi ab rfl ?_)))
 show wpAny _ _ (Builtin.SmallTypes.ownedTupleIsFree (.ref z) >>= _) _ _ _;refine zd ?_
 unfold Builtin.SmallTypes.ownedTupleIsFree;refine zd (jm L rfl (x:=.none) rfl (zp ?_));simp only[if_true]
 refine zd (xp (zd (jm L rfl (x:=.ref TO) rfl (zd (wY L (by simp) fun g1 D t=>?_)))))
 replace D:IsZip g1 z TI TO .ellipsis:=D
 refine zd ?_;simp only[List.zipIdx_cons,List.zipIdx_nil,y3,Ql]
 refine zd (zd (wpAny_onRaise ?_));show wpAny _ _ (Builtin.SmallTypes.nextOf (.ref H) >>= _) _ _ _
 cases hx:xs[i]? with
 | none=>
  refine zd (xv hh (h1.at fun o e=>t.extBut _ o N.c e) (l1.at fun o e=>t.extBut _ o (m1 z (by simp)) e) hx fun g2 e u he=>?_)
  obtain⟨oe,g,B⟩:=he;have a0:IsZip g2 z TI TO .ellipsis:=u _ _ (zN N.c) D;have J:e≠z:=fun q=>by subst q;rw[a0] at g;cases g;exact absurd (wf B) (by decide)
  refine wY a0 (by simp) fun g3 ah C=>?_
  refine zd (vV (T:= "StopIteration") (b:=true) ⟨oe,C.extBut _ _ J g,B⟩ isSubtype_stop (zp (hQ _ fun c o hc q=>?_)))
  exact C.extBut _ o (fun q=>hc (by simp[q])) (u _ o (fun q=>hc (by simp[q])) (t.extBut _ o (fun q=>hc (by simp[q])) q))
 | some x=>
  have hy:ys[i]? =none:=by rcases O with q | q;rw[hx] at q;cases q;exact q
  refine zd (jI (h1.at fun o e=>t.extBut _ o N.c e) (l1.at fun o e=>t.extBut _ o (m1 z (by simp)) e) hx fun g2 ag u=>zp ?_)
  have G:IsPair g2 TO a b:=u.extBut _ _ N.h (t.extBut _ _ N.b ac);refine zd (xi G rfl (zd (wpAny_updateSeq_pair G fun g3 ae C=>?_)))
  have I:∀c o,c∉[z,TO,H]->s.heap.get? c=some o->g3.get? c=some o:=fun c o hc e=>C.extBut _ o (fun q=>hc (by simp[q])) (u.extBut _ o (fun q=>hc (by simp[q])) (t.extBut _ o (fun q=>hc (by simp[q])) e))
  refine zd (v0 (zp ?_));refine zd (zd (wpAny_onRaise ?_));show wpAny _ _ (Builtin.SmallTypes.nextOf (.ref M) >>= _) _ _ _
  refine zd (xv hh (h2.at fun o e=>I _ o (by simp[N.d,zN N.i,zN N.j]) e) (l2.at fun o e=>I _ o (by simp[m2 z (by simp),m2 TO (by simp),m2 H (by simp)]) e) hy fun g4 e U he=>?_)
  obtain⟨oe,g,B⟩:=he;have aa:IsZip g4 z TI TO .ellipsis:=U _ _ (zN N.d) (C.extBut _ _ (zN N.b) (u.extBut _ _ (zN N.c) D));have J:e≠z:=fun q=>by subst q;rw[aa] at g;cases g;exact absurd (wf B) (by decide)
  refine wY aa (by simp) fun g5 ai Y=>?_
  refine zd (vV (T:= "StopIteration") (b:=true) ⟨oe,Y.extBut _ _ J g,B⟩ isSubtype_stop (zp (hQ _ fun c o hc q=>?_)))
  exact Y.extBut _ o (fun q=>hc (by simp[q])) (U _ o (fun q=>hc (by simp[q])) (I c o (fun q=>hc (by simp at q ⊢;rcases q with q | q | q<;>simp[q])) q))
abbrev zh(h:Heap)(c g:Obj):Heap:=((((h.push c).push g).push { cls:=.type "tuple",data:=.seq #[.ref h.objs.size,.ref (h.push c).objs.size] }).push { cls:=.type "tuple",data:=.seq #[.none,.none] }).push
 { cls:=.type "zip",data:=.fields #[.none,.bool false,.bool false,.ref ((h.push c).push g).objs.size,.ref (((h.push c).push g).push { cls:=.type "tuple",data:=.seq #[.ref h.objs.size,.ref (h.push c).objs.size] }).objs.size] }
theorem zgn{D G:Bool}{a1 a2:Addr}{h:Heap}{i t:Obj}(N:∀g:Heap,g.get? h.objs.size=some i->ItrK D g h.objs.size a1 0)(O:∀(g:Heap) (n:Addr),g.get? n=some t->ItrK G g n a2 0)(L:i.isFreed=false)(M:t.isFreed=false) :
  Zl D G (zh h i t) (h.objs.size+4) (h.objs.size+2) (h.objs.size+3) h.objs.size (h.objs.size+1) a1 a2 0/\(∀c o,h.get? c=some o->(zh h i t).get? c=some o)/\(zh h i t).objs.size=h.objs.size+5:=by
 have u:(h.push i).objs.size=h.objs.size+1:=jD ..;have B:((h.push i).push t).objs.size=h.objs.size+2:=by rw[jD,u]
 have C:(((h.push i).push t).push { cls:=.type "tuple",data:=.seq #[.ref h.objs.size,.ref (h.push i).objs.size] }).objs.size=h.objs.size+3:=by rw[jD,B]
 have J:((((h.push i).push t).push { cls:=.type "tuple",data:=.seq #[.ref h.objs.size,.ref (h.push i).objs.size] }).push { cls:=.type "tuple",data:=.seq #[.none,.none] }).objs.size=h.objs.size+4:=by rw[jD,C]
 have I:(zh h i t).get? (h.objs.size+4)=some _:=J▸qv _ rfl;have Y:(zh h i t).get? (h.objs.size+3)=some _:=C▸zI _ (qv _ rfl);have H:(zh h i t).get? (h.objs.size+2)=some _:=B▸zI _ (zI _ (qv _ rfl));have U:(zh h i t).get? (h.objs.size+1)=some t:=u▸zI _ (zI _ (zI _ (qv _ M)));have Q:(zh h i t).get? h.objs.size=some i:=zI _ (zI _ (zI _ (zI _ (qv _ L))));rw[B,C] at I;rw[u] at H;exact⟨⟨I,H,⟨_,_,Y⟩,N _ Q,O _ _ U⟩,fun c o e=>zI _ (zI _ (zI _ (zI _ (zI _ e)))),by rw[jD,J]⟩
theorem zbo{k1 k2:Bool}{a1 a2:Addr}{xs ys:Array Value} :
  PySem.Meets (Builtin.«zip.__new__» ⟨[.type "zip",.ref a1,.ref a2],[]⟩) (fun _ R s=>SeqK k1 s.heap a1 xs/\SeqK k2 s.heap a2 ys /\
   ∀L,Zl k1 k2 L (s.heap.objs.size+4) (s.heap.objs.size+2) (s.heap.objs.size+3) s.heap.objs.size (s.heap.objs.size+1) a1 a2 0->(∀c o,s.heap.get? c=some o->L.get? c=some o)->L.objs.size=s.heap.objs.size+5->R (.ok (.ret (.ref (s.heap.objs.size+4)))) { s with heap:=L }):=
 .of_wp fun l w A R s hq=>by
  obtain⟨i,g,d,G,os⟩:=s;obtain⟨J,u,Q⟩:=hq;have M:=sub_zip;have t:∀{D H:Obj},(∀g:Heap,g.get? i.objs.size=some D->ItrK k1 g i.objs.size a1 0)->(∀(g:Heap) (n:Addr),g.get? n=some H->ItrK k2 g n a2 0)->D.isFreed=false->H.isFreed=false ->
    R (.ok (.ret (.ref ((((i.push D).push H).push { cls:=.type "tuple",data:=.seq #[.ref i.objs.size,.ref (i.push D).objs.size] }).push { cls:=.type "tuple",data:=.seq #[.none,.none] }).objs.size))) ⟨zh i D H,g,d,G,os⟩:=fun {D H} U Y N O=>by
   obtain⟨A,B,C⟩:=zgn U Y N O;have e:((((i.push D).push H).push { cls:=.type "tuple",data:=.seq #[.ref i.objs.size,.ref (i.push D).objs.size] }).push { cls:=.type "tuple",data:=.seq #[.none,.none] }).objs.size=i.objs.size+4:=by
    rw[jD,jD,jD,jD]
   rw[e];exact Q _ A B C
  cases k1 with
  | true=>
   have I:Heap.IsList (Shared.heap ⟨i,g,d,G,os⟩) a1 xs:=J;cases k2 with
   | true=>
    have L2:Heap.IsList (Shared.heap ⟨i.push { cls:=.type "list_iterator",data:=.fields #[.ref a1,.int 0 0] },g,d,G,os⟩) a2 ys:=Heap.IsList.push u _;wp_walk using wpAny_pyIter_list I,wpAny_pyIter_list L2
    exact⟨_,rfl,t (fun g e=>⟨_,e,rfl,rfl⟩) (fun g n e=>⟨_,e,rfl,rfl⟩) rfl rfl⟩
   | false=>
    have L2:Heap.IsTuple (Shared.heap ⟨i.push { cls:=.type "list_iterator",data:=.fields #[.ref a1,.int 0 0] },g,d,G,os⟩) a2 ys:=Heap.IsTuple.push u _;wp_walk using wpAny_pyIter_list I,wpAny_pyIter_tuple L2
    exact⟨_,rfl,t (fun g e=>⟨_,e,rfl,rfl⟩) (fun g n e=>⟨_,e,rfl,rfl⟩) rfl rfl⟩
  | false=>
   have I:Heap.IsTuple (Shared.heap ⟨i,g,d,G,os⟩) a1 xs:=J;cases k2 with
   | true=>
    have L2:Heap.IsList (Shared.heap ⟨i.push { cls:=.type "tuple_iterator",data:=.fields #[.ref a1,.int 0 0] },g,d,G,os⟩) a2 ys:=Heap.IsList.push u _;wp_walk using wpAny_pyIter_tuple I,wpAny_pyIter_list L2
    exact⟨_,rfl,t (fun g e=>⟨_,e,rfl,rfl⟩) (fun g n e=>⟨_,e,rfl,rfl⟩) rfl rfl⟩
   | false=>
    have L2:Heap.IsTuple (Shared.heap ⟨i.push { cls:=.type "tuple_iterator",data:=.fields #[.ref a1,.int 0 0] },g,d,G,os⟩) a2 ys:=Heap.IsTuple.push u _;wp_walk using wpAny_pyIter_tuple I,wpAny_pyIter_tuple L2
    exact⟨_,rfl,t (fun g e=>⟨_,e,rfl,rfl⟩) (fun g n e=>⟨_,e,rfl,rfl⟩) rfl rfl⟩
theorem zba{i t:Bool}{a1 a2:Addr}{B C:Array Value}{Q:Value->Shared->Prop}(D:SeqK i s.heap a1 B)(G:SeqK t s.heap a2 C)
  (h:∀g,Zl i t g (s.heap.objs.size+4) (s.heap.objs.size+2) (s.heap.objs.size+3) s.heap.objs.size (s.heap.objs.size+1) a1 a2 0->(∀c o,s.heap.get? c=some o->g.get? c=some o)->g.objs.size=s.heap.objs.size+5 ->
   Q (.ref (s.heap.objs.size+4)) { s with heap:=g }):wpAny (model l w) A (call (.type "zip") [.ref a1,.ref a2]) Q E s:=by
 refine callType_new F.called_zip (by decide) (F.typeCall_zip_2 _ _) (F.newCall_zip_2 _ _) (fun u=>F.args_object_init_3 u _ _) F.entry_zip_new (zbo (k1:=i) (k2:=t) (xs:=B) (ys:=C)) ⟨D,G,fun g Z k z=>?_⟩
 exact⟨⟨_,Z.zz,rfl⟩,h g Z k z⟩
end
theorem Inv.seqK{X:Cx}{g:List (Addr×Obj)}{σ:St}{H:Hp}{s:Shared}{i:Bool}{a:Addr}{l:List V}(I:Inv X g σ H s)(h:SqK X.K i H a l):∃c:List Value,Vals l c/\SeqK i s.heap a c.toArray/\l.length<=sizeLine:=by
 cases i with
 | true=>obtain⟨c,r,p,z⟩:=I.list h;exact⟨c,r,p.isList,z⟩
 | false=>obtain⟨c,r,p,z⟩:=I.tuple h;exact⟨c,r,p,z⟩
theorem SqK.ne_fp{X:Cx}{c:List (Addr×Obj)}{σ:St}{H:Hp}{s:Shared}{l:Bool}{a b:Addr}{g:List V}(I:Inv X c σ H s)(h:SqK X.K l H a g)(f:jF X c H b):a≠b:=fun z=>by
 have t:∀o,X.K.lookup a=some o->False:=fun o e=>by
  have i:=I.mod.kin a o e;rcases f.2.2.2.1 with q | q
  ·exact I.ok.noex a o i (by rw[z];exact q)
  ·have:=zA (I.ok.bs a o i).1
   rw[z] at this;exact xh _ (jt this q)
 cases l with
 | true=>
  rcases(show SqL X.K H a g from h) with(q | ⟨o,q⟩) | ⟨o,_,_,q,_⟩
  ·rw[z,f.1] at q;cases q
  ·rw[z,f.1] at q;cases q
  ·exact t o q
 | false=>
  rcases(show SqT X.K H a g from h) with(q | ⟨o,q⟩) | ⟨o,_,_,q,_⟩
  ·rw[z,f.1] at q;cases q
  ·rw[z,f.1] at q;cases q
  ·exact t o q
section
variable{X:Cx}
end
def TyN(K:W.Frag)(H:Hp)(x:V)(T:String):Prop:=match x with
 | .non=>T = "NoneType"
 | .bl _=>T = "bool"
 | .int _=>T = "int"
 | .str _=>T = "str"
 | .ref a=>(T = "list" /\ ∃c,SqL K H a c)\/(T = "tuple" /\ ∃c,SqT K H a c)
 | _=>False
def zgx(T C:String):Bool:=T==C||(T == "bool" && C == "int")
def Jp:List String:=["NoneType","bool","int","str","list","tuple"]
def JV:List String:=["bool","int","str","list","tuple","dict"]
theorem zd8{K:W.Frag}:∀T∈Jp,∀C∈JV,PySem.W.kitOne K (.type T) (.type C)=some (zgx T C):=by
 intro T g C c;simp only[Jp,JV,zQ,Wz,or_false] at g c;rcases g with rfl | rfl | rfl | rfl | rfl | rfl<;>rcases c with rfl | rfl | rfl | rfl | rfl | rfl<;>kernel_rfl
theorem TyN.mem{K:W.Frag}{H:Hp}{x:V}{T:String}(h:TyN K H x T):T∈Jp:=by
 cases x with
 | non=>cases(show T=_ from h);decide
 | bl _=>cases(show T=_ from h);decide
 | int _=>cases(show T=_ from h);decide
 | str _=>cases(show T=_ from h);decide
 | ref a=>rcases(show _\/_ from h) with ⟨e,_⟩ | ⟨e,_⟩<;>(subst e;decide)
 | _=>exact(show False from h).elim
section
variable{X:Cx}{c:List (Addr×Obj)}{σ:St}{H:Hp}{s:Shared}
theorem zd7{x:V}{u:Value}{T:String}(I:Inv X c σ H s)(g:RelV x u)(ty:TyN X.K H x T):∃P:Heap->Prop,P s.heap/\PySem.W.KitX X.K u (.type T) P/\u≠.builtin "__main__.__loader__#opaque" :=by
 cases x with
 | non=>cases(show u=Value.none from g);cases(show T=_ from ty);exact⟨_,True.intro,PySem.W.kitx_none,fun z=>nomatch z⟩
 | bl y=>cases(show u=Value.bool y from g);cases(show T=_ from ty);exact⟨_,True.intro,PySem.W.kitx_bool,fun z=>nomatch z⟩
 | int i=>obtain⟨t,q⟩:=(show ∃t,u=Value.int i t from g);cases q;cases(show T=_ from ty);exact⟨_,True.intro,PySem.W.kitx_int,fun z=>nomatch z⟩
 | str y=>obtain⟨t,q⟩:=(show ∃t,u=Value.str y t from g);cases q;cases(show T=_ from ty);exact⟨_,True.intro,PySem.W.kitx_str,fun z=>nomatch z⟩
 | ref a=>
  cases(show u=Value.ref a from g)
  rcases(show _\/_ from ty) with ⟨e,w,hx⟩ | ⟨e,w,hx⟩
  ·subst e
   obtain⟨l,r,⟨o,n,e1,e2,_⟩,_⟩:=I.list hx;exact⟨_,⟨o,e1,e2⟩,PySem.W.kitx_list,fun z=>nomatch z⟩
  ·subst e
   obtain⟨l,r,⟨o,e1,e2,_⟩,_⟩:=I.tuple hx;exact⟨_,⟨o,e1,e2⟩,PySem.W.kitx_tuple,fun z=>nomatch z⟩
 | _=>exact(show False from ty).elim
end
section
variable{X:Cx}
inductive QC(K:W.Frag)(c:List V)(H:Hp)(Q:VK):Prop
 | mk (x T C:_) (_:c=[x,.ty C]) (_:TyN K H x T) (_:C∈JV) (_:Q (.bl (zgx T C)) H):QC K c H Q
theorem xf:CallR X (.builtin "isinstance") (QC X.K):=by
 intro g s σ H D B Q I r h;obtain⟨x,T,C,rfl,ty,i,q⟩:=h;obtain⟨u,A,rfl,t,c⟩:=XN r;cases(show A=Value.type C from c)
 obtain⟨P,l,Z,o⟩:=zd7 I t ty;exact PySem.W.kia_one Z I.kIn l (zd8 T ty.mem C i) o fun w=>⟨.bl _,H,I.tok w,rfl,q⟩
end
inductive Dat where
 | non | bl (b:Bool) | int (i:Int) | str (x:Str) | lst (c:List Dat) | tup (c:List Dat)
mutual
def Rep(K:W.Frag)(H:Hp):Dat->V->Prop
 | .non,v=>v=.non
 | .bl b,v=>v=.bl b
 | .int i,v=>v=.int i
 | .str x,v=>v=.str x
 | .lst g,v=>∃a c,v=.ref a/\SqL K H a c/\Reps K H g c
 | .tup g,v=>∃a c,v=.ref a/\SqT K H a c/\Reps K H g c
def Reps(K:W.Frag)(H:Hp):List Dat->List V->Prop
 | [],c=>c=[]
 | d::g,c=>∃x r,c=x::r/\Rep K H d x/\Reps K H g r
end
mutual
def Dat.dp:Dat->Nat
 | .lst c=>Dat.dps c+1
 | .tup c=>Dat.dps c+1
 | _=>0
def Dat.dps:List Dat->Nat
 | []=>0
 | d::c=>max d.dp (Dat.dps c)
end
theorem Same.sqT{K:W.Frag}{H c:Hp}{a:Addr}{g:List V}(e:Same H c)(h:SqT K H a g):SqT K c a g:=by
 rcases h with(h | ⟨o,h⟩) | h
 ·exact .inl (.inl (e _ _ h))
 ·exact .inl (.inr ⟨o,e _ _ h⟩)
 ·exact .inr h
mutual
theorem Rep.same{K:W.Frag}{H i:Hp}(e:Same H i):∀{d:Dat} {v:V},Rep K H d v->Rep K i d v
 | .non,_,h=>h
 | .bl _,_,h=>h
 | .int _,_,h=>h
 | .str _,_,h=>h
 | .lst _,_,h=>by
  obtain⟨a,g,e1,e2,c⟩:=h;exact⟨a,g,e1,e.seq e2,Reps.same e c⟩
 | .tup _,_,h=>by
  obtain⟨a,g,e1,e2,c⟩:=h;exact⟨a,g,e1,e.sqT e2,Reps.same e c⟩
theorem Reps.same{K:W.Frag}{H c:Hp}(e:Same H c):∀{g:List Dat} {i:List V},Reps K H g i->Reps K c g i
 | [],_,h=>h
 | _::_,_,h=>by
  obtain⟨x,r,e1,e2,l⟩:=h;exact⟨x,r,e1,Rep.same e e2,Reps.same e l⟩
end
theorem Reps.len{K:W.Frag}{H:Hp}:∀{c:List Dat} {g:List V},Reps K H c g->g.length=c.length
 | [],_,h=>by rw[show _=_ from h];rfl
 | _::_,_,h=>by
  obtain⟨x,r,e1,e2,i⟩:=h;rw[e1,jy,jy,Reps.len i]
theorem Reps.get{K:W.Frag}{H:Hp}:∀{c:List Dat} {g:List V} {i:Nat} {x:V},Reps K H c g->g[i]? =some x->∃d,c[i]? =some d/\Rep K H d x
 | [],_,_,_,h,e=>by rw[show _=_ from h] at e;simp at e
 | d::c,_,i,x,h,e=>by
  obtain⟨y,r,e1,e2,o⟩:=h;subst e1;cases i with
  | zero=>simp at e;subst e;exact⟨d,rfl,e2⟩
  | succ i=>
   obtain⟨l,s,t⟩:=Reps.get (i:=i) o (by simpa using e)
   exact⟨l,by simpa using s,t⟩
theorem ze{H:Hp}{a:Addr}{o:HO}(h:H a=none):Same H (upd H a o):=fun b u e=>by rw[zk (zm e h)];exact e
def za4:List V->List V->Bool
 | [],[]=>true
 | x::c,y::g=>eqV x y&&za4 c g
 | _,_=>false
theorem Z9:∀(c g:List V),(((List.range (min c.length g.length)).all fun j=>eqV (c.getD j .non) (g.getD j .non))&&(c.length==g.length))=za4 c g
 | [],[]=>rfl
 | [],y::g=>by simp[za4]
 | x::c,[]=>by simp[za4]
 | x::c,y::g=>by
  have i:=Z9 c g;have e1:min (x::c).length (y::g).length=min c.length g.length+1:=by simp only[jy];omega
  rw[e1,List.range_succ_eq_map,List.all_cons,Qj];unfold za4;rw[<- i,Bool.and_assoc];congr 1
  have e2:((x::c).length==(y::g).length)=(c.length==g.length):=by
   rw[vU];simp
  rw[e2];congr 1
section
variable{X:Cx}
end
structure Dfn(P:Program)(w:World)(K:W.Frag)(mg:Str->Option Value)(base:Heap)(x:Str)(k:Nat)(ps:List Str)(sp:Sp):Prop where
 ex:∃f fd,FnOk P w K mg base CX0 k f fd ps sp/\mg x=some (.ref f)/\PySem.W.keepIn K (.ref f)=true/\Binds K fd ps []
theorem Dfn.imp{P:Program}{w:World}{K:W.Frag}{i:Str->Option Value}{c:Heap}{x:Str}{k:Nat}{l:List Str}{o g:Sp}(D:Dfn P w K i c x k l o)(h:∀s H Q E,g s H Q E->o s H Q E):Dfn P w K i c x k l g:=by
 obtain⟨f,t,F,r⟩:=D.ex;exact⟨f,t,F.imp h,r⟩
section
variable{X:Cx}{x:Str}{k:Nat}{l:List Str}{i:Sp}{p g:Pos}{e:Expr}{c:List Expr}{t:TA}
theorem zf(D:Dfn X.prog X.w X.K X.mg X.base x k l i)(B:Room k X.A)(w:Gl X x)(s:PA X (e::c) t)(u:(x==("__debug__":Str))=false:=by decide)
  (C:starEach (e::c) X.env=(false,eval e X.env)::starEach c X.env:=by rfl) (o:(backTo g (starEach c X.env)).any (·.1)=false:=by rfl):PE X (.Call (.Name x p) (e::c) [] g) (zez i [] E0 t):=by
 obtain⟨f,E,F,A,hk,hb⟩:=D.ex;exact zdN F B w A hk hb .nil zgX s u C o
end
theorem ifT{b:Bool}{A B:Prop}(h:b=true)(q:A):if b=true then A else B:=by rw[zr h];exact q
theorem ifF{b:Bool}{A B:Prop}(h:b=false)(q:B):if b=true then A else B:=by rw[zn (by rw[h];exact qE)];exact q
theorem ZX{lo:Int}{N n:Nat}{g:TG}{G:TT}{E:TE}{u:St}{R:List V->Hp->Prop}{H:Hp}(Pv:Nat->List V->Hp->Prop)(I:Pv 0 [] H)
  (L:∀i c H,i<N->Pv i c H->g (.int (lo+i)) u H fun s B=>s.drop n=u.drop n/\G s B fun b t=>if b=true then E s t fun v C=>c.length<sizeLine/\Pv (i+1) (c++[v]) C else Pv (i+1) c t)
  (J:∀c H,Pv N c H->c.length<=sizeLine/\R c H) :
  ∃W:Nat->Nat->List V->Hp->Prop,(∃m,W 0 m [] H)/\∀i m c l,W i m c l ->
   ((Itr lo N).stop i l/\c.length<=sizeLine/\R c l) \/
   ((Itr lo N).go i l/\∃M:List V->Hp->Prop,(∀c w,M c w->∃D,D<m/\W (i+1) D c w)/\∀x A,(Itr lo N).yld i l x A->g x u A fun s B=>s.drop n=u.drop n/\G s B fun b t=>
    if b=true then E s t fun y C=>c.length<sizeLine/\M (c++[y]) C else M c t):=by
 refine⟨fun i m c l=>m=N-i/\i<=N/\Pv i c l,⟨_,rfl,qB _,I⟩,?_⟩
 rintro i m c l ⟨rfl,hi,p⟩;by_cases o:i<N
 ·refine .inr ⟨o,Pv (i+1),fun Y w O=>⟨_,by omega,rfl,o,O⟩,fun x A y=>?_⟩
  obtain⟨e1,e2⟩:=y;subst e1 e2;exact L i c _ o p
 ·have e:i=N:=by omega
  subst e;obtain⟨Q,U⟩:=J c l p;exact .inl ⟨zy _,Q,U⟩
def vP(sn on:List (Str×NameKind))(N own c:List Str)(g:List Nat):Bool:=
 Zf sn on N c g&&own.all (fun x=>sn.lookup x==some .local)&&decide (own++c).Nodup
theorem xx{sn on:List (Str×NameKind)}{N own c:List Str}{g:List Nat}(h:vP sn on N own c g=true):Zf sn on N c g=true/\(∀x∈own,sn.lookup x=some .local)/\(own++c).Nodup:=by
 unfold vP at h;rw[jx,jx,j3] at h;exact⟨h.1.1,fun x hx=>by simpa using h.1.2 x hx,vk h.2⟩
section
variable{X:Cx}{l g:Expr}{o:List Expr}{c:Scope}{t u E G:Pos}{B:TI}{A:TT}{w:TE}{x y:Str}{D:Nat}
theorem xT{I:List Str}{C:Addr}{s:Shared}{H:Hp}{J:List Addr}{i:Nat}(L:c.names.lookup x=some .local)(N:I.Nodup)(M:I[i]? =some x):PG (zM X I c C s H J) (.Name x u) (x8 i):=
 zD (X:=zM X I c C s H J) N M (.inl (lookup_relabel_local L)) (.inr (lookup_relabel_local L))
theorem jg(I:List Str)(J:List Nat)(hc:X.calm=true)(hk:c.kind=.function)(hb:vP c.names X.env.scope.names X.N [x] I J=true)(U:PI X (.Name x u) g B)
  (Q:∀C s H i,PF (zM X ([x]++I) c C s H i) o A) (O:∀C s H i,PE (zM X ([x]++I) c C s H i) l w)
  (Y:∀x,foldedSetIterable g X.env x=pure x:=by intro _;rfl):PE X (.ListComp l [⟨.Name x u,g,o,0⟩] c t) (tLC B 1 J (x8 0) A w):=by
 obtain⟨L,M,N⟩:=xx hb;exact zcd [x] I J hc hk L U (fun C s H i=>xT (M x (by simp)) N rfl) Q O Y
theorem Wb(I:List Str)(J:List Nat)(hc:X.calm=true)(hk:c.kind=.function)(hb:vP c.names X.env.scope.names X.N [x,y] I J=true)(U:PI X (.Tuple [.Name x u,.Name y E] D G) g B)
  (Q:∀C s H i,PF (zM X ([x,y]++I) c C s H i) o A) (O:∀C s H i,PE (zM X ([x,y]++I) c C s H i) l w)
  (Y:∀x,foldedSetIterable g X.env x=pure x:=by intro _;rfl):PE X (.ListComp l [⟨.Tuple [.Name x u,.Name y E] D G,g,o,0⟩] c t) (tLC B 2 J (zcO X.K 2 (yq (x8 0) (yq (x8 1) zec))) A w):=by
 obtain⟨N,L,M⟩:=xx hb;refine zcd [x,y] I J hc hk N U (fun C s H i=>?_) Q O Y
 exact xA (X:=zM X ([x,y]++I) c C s H i) hc (zE (xT (L x (by simp)) M rfl) (zE (xT (L y (by simp)) M rfl) jM))
end
def tWk(t:TS):TS:=fun D σ H=>∃J:St->Hp->Prop,t { D with nx:=J } σ H/\∀g c,J g c->D.nx g c
theorem JC{X:Cx}{st:Stmt}{t:TS}(h:PS X st t):PS X st (tWk t):=by
 intro c s σ H D I o;obtain⟨J,w,A⟩:=o;refine thn (h c s σ H _ I w) fun f s1 q=>?_
 cases f with
 | next=>obtain⟨i,g,l,z⟩:=q;exact⟨i,g,l,A i g z⟩
 | brk=>exact q
 | cont=>exact q
 | ret u=>exact q
def Dat.ok:Nat->Dat->Prop
 | n+1,.lst c=>c.length<=1000000/\∀d∈c,Dat.ok n d
 | n+1,.tup c=>c.length<=1000000/\∀d∈c,Dat.ok n d
 | 0,.lst _=>False
 | 0,.tup _=>False
 | _,_=>True
def Dat.tyN:Dat->String
 | .non=> "NoneType" | .bl _=> "bool" | .int _=> "int" | .str _=> "str" | .lst _=> "list" | .tup _=> "tuple"
theorem Rep.ty{K:W.Frag}{H:Hp}{d:Dat}{v:V}(h:Rep K H d v):TyN K H v d.tyN:=by
 cases d with
 | non=>rw[show v=_ from h];exact rfl
 | bl b=>rw[show v=_ from h];exact rfl
 | int b=>rw[show v=_ from h];exact rfl
 | str b=>rw[show v=_ from h];exact rfl
 | lst g=>obtain⟨a,c,rfl,e,_⟩:=h;exact .inl ⟨rfl,c,e⟩
 | tup g=>obtain⟨a,c,rfl,e,_⟩:=h;exact .inr ⟨rfl,c,e⟩
mutual
def Dat.py:Dat->PyData
 | .non=>.none
 | .bl b=>.bool b
 | .int i=>.int i
 | .str x=>.str x
 | .lst c=>.list (Dat.pys c)
 | .tup c=>.tuple (Dat.pys c)
def Dat.pys:List Dat->List PyData
 | []=>[]
 | d::c=>d.py::Dat.pys c
end
section
variable{X:Cx}
end
def Its(x:Str):It:=⟨fun i _=>i<x.cps.size,fun i H v g=>g=H/\∃c,x.cps[i]? =some c/\v=.str ⟨#[c]⟩,fun i _=>x.cps.size<=i⟩
theorem XQ{P:Program}{w:World}{K:W.Frag}{tg:Expr}(A:Addr)(x:Str)(t:Tok)(ty:String)(D:ty = "str_ascii_iterator" \/ ty = "str_iterator"):QA P w K tg (Its x) [A] A (fun i h=>h.IsStrIter A ty x t i) where
 mem:=by simp
 obj:=fun i h st b hb=>by
  have e:b=A:=by simpa using hb
  subst e;obtain⟨o,e,c,d⟩:=st;exact⟨o,e,fun v z=>by rw[d] at z;cases z⟩
 keep:=fun i h B st k=>let ⟨o,e,r⟩:=st;⟨o,k A (by simp) o e,r⟩
 item:=by
  intro X hP hw hK hc i g s σ H E I O st Y;subst hP hw hK;obtain⟨G,J,f2,L,M,N⟩:=O A (by simp)
  rcases D with rfl | rfl
  ·refine(Walks.strAscii (prog:=X.prog) (w:=X.w) (I.ok.hd hc) A x t).item i s _ _ Y st fun v B U hv l kk=>?_
   obtain⟨c,u,C,rfl⟩:=hv;have I1:Inv X g σ H { s with heap:=B,toks:=U }:=I.turned (fun b o hb e=>kk b o (by simpa using hb) e) G J L M N
   obtain⟨o,e,c1,d⟩:=id l;exact⟨_,rfl,Je (s:={ s with heap:=B,toks:=U }) e c1 d (by decide) ⟨.str ⟨#[c]⟩,H,I1,⟨u,rfl⟩,⟨rfl,c,C,rfl⟩,l,fun b hb=>(O b hb).1⟩⟩
  ·refine(Walks.strWide (prog:=X.prog) (w:=X.w) (I.ok.hd hc) A x t).item i s _ _ Y st fun v B U hv l kk=>?_
   obtain⟨c,u,C,rfl⟩:=hv;have I1:Inv X g σ H { s with heap:=B,toks:=U }:=I.turned (fun b o hb e=>kk b o (by simpa using hb) e) G J L M N
   obtain⟨o,e,c1,d⟩:=id l;exact⟨_,rfl,Je (s:={ s with heap:=B,toks:=U }) e c1 d (by decide) ⟨.str ⟨#[c]⟩,H,I1,⟨u,rfl⟩,⟨rfl,c,C,rfl⟩,l,fun b hb=>(O b hb).1⟩⟩
 done:=by
  intro X hP hw hK hc i g s σ H E I O st Y;subst hP hw hK;obtain⟨G,J,f2,L,M,N⟩:=O A (by simp)
  have hn:x.cps[i]? =none:=Xx Y;rcases D with rfl | rfl
  ·exact wpAny_pyNext_ascii_end (I.ok.hd hc) st hn fun B eb=>⟨rfl,I.turned (t':=s.toks) (fun b o hb e=>eb b o hb e) G J L M N⟩
  ·exact wpAny_pyNext_wide_end (I.ok.hd hc) st hn fun B eb=>⟨rfl,I.turned (t':=s.toks) (fun b o hb e=>eb b o hb e) G J L M N⟩
 self:=fun _ _ _ _ _ st h=>by
  rcases D with rfl | rfl
  ·exact wpAny_pyIter_striter_ascii st h
  ·exact wpAny_pyIter_striter_wide st h
section
variable{X:Cx}{c:Expr}
def zhO(i:TE):TI:=fun σ H R=>i σ H fun v g=>∃x,v=.str x/\R (Its x) g
theorem zfB{l:Expr}{A:TE}(B:PE X l A):PI X c l (zhO A):=by
 intro i s σ H R I h;refine thn (B i s σ H _ I h) fun v s1 ⟨y,u,g,D,C⟩=>?_
 obtain⟨x,e,q⟩:=C;subst e;obtain⟨t,rfl⟩:=D;cases w:x.cps.all (·<128)
 ·refine wpAny_pyIter_wide w ?_
  refine⟨s1.heap.objs.size,[s1.heap.objs.size],_,_,u,rfl,g.kept (t':=s1.toks) fun b o e=>zI _ e,XQ _ x t "str_iterator" (.inr rfl),⟨_,qv _ rfl,rfl,rfl⟩,fun b hb=>?_,q⟩
  have e:b=s1.heap.objs.size:=by simpa using hb
  subst e;exact g.fpOk (zy _) (g.hok.fresh (zy _))
 ·refine wpAny_pyIter_ascii w ?_
  refine⟨s1.heap.objs.size,[s1.heap.objs.size],_,_,u,rfl,g.kept (t':=s1.toks) fun b o e=>zI _ e,XQ _ x t "str_ascii_iterator" (.inl rfl),⟨_,qv _ rfl,rfl,rfl⟩,fun b hb=>?_,q⟩
  have e:b=s1.heap.objs.size:=by simpa using hb
  subst e;exact g.fpOk (zy _) (g.hok.fresh (zy _))
end
theorem zf2{x:Str}{n:Nat}{g:TG}{I:TT}{G:TE}{w:St}{R:List V->Hp->Prop}{H:Hp}(Pv:Nat->List V->Hp->Prop)(L:Pv 0 [] H)
  (O:∀i c l H,x.cps[i]? =some c->Pv i l H->g (.str ⟨#[c]⟩) w H fun s C=>s.drop n=w.drop n/\I s C fun b t=>if b=true then G s t fun v D=>l.length<sizeLine/\Pv (i+1) (l++[v]) D else Pv (i+1) l t)
  (N:∀l H,Pv x.cps.size l H->l.length<=sizeLine/\R l H) :
  ∃W:Nat->Nat->List V->Hp->Prop,(∃m,W 0 m [] H)/\∀i m l o,W i m l o ->
   ((Its x).stop i o/\l.length<=sizeLine/\R l o) \/
   ((Its x).go i o/\∃M:List V->Hp->Prop,(∀l A,M l A->∃E,E<m/\W (i+1) E l A)/\∀v B,(Its x).yld i o v B->g v w B fun s C=>s.drop n=w.drop n/\I s C fun b t=>
    if b=true then G s t fun y D=>l.length<sizeLine/\M (l++[y]) D else M l t):=by
 refine⟨fun i m l o=>m=x.cps.size-i/\i<=x.cps.size/\Pv i l o,⟨_,rfl,qB _,L⟩,?_⟩
 rintro i m l o ⟨rfl,hi,p⟩;by_cases u:i<x.cps.size
 ·refine .inr ⟨u,Pv (i+1),fun a0 A Q=>⟨_,by omega,rfl,u,Q⟩,fun v B y=>?_⟩
  obtain⟨e1,c,e2,J⟩:=y;subst e1 J;exact O i c l _ e2 p
 ·have e:i=x.cps.size:=by omega
  subst e;obtain⟨U,Y⟩:=N l o p;exact .inl ⟨zy _,U,Y⟩
section
variable{X:Cx}
inductive YL(x:V)(t:List V)(H:Hp)(Q:VK):Prop
 | mk (l:Addr) (s:List V) (i:Int) (y:V) (_:x=.ref l) (_:t=[.int i,y]) (_:H l=some (.lst s)) (_:0<=i) (_:i<2^62) (_:s.length<sizeLine) (_:Q .non (upd H l (.lst (s.take i.toNat++y::s.drop i.toNat)))):YL  x t H Q
theorem zaX:MtM X "list.insert" YL:=by
 intro J s σ H x vs v us Q I O N h;obtain⟨l,xs,i,y,rfl,rfl,D,i0,i1,Y,q⟩:=h;cases O;obtain⟨u1,C,rfl,L,M⟩:=XN N;obtain⟨t,rfl⟩:=L;obtain⟨z,w,n,r,U,e⟩:=I.lstM D;have E:=r.length;refine call_meets F.slot_list_insert ⟨_,e,rfl⟩ F.entry_list_insert (F.args_list_insert_3 _ _ _) (AutoListH.list_insert_list_int_val_1 l w.toArray n i t C ?_ (by rw[zZ];omega)) ⟨e,?_⟩
 ·unfold Builtin.List.listFitsIndex
  simp;omega
 refine⟨.non,_,I.lset (its':=w.take i.toNat++C::w.drop i.toNat) D e ?_ ((r.take _).append (.cons M (r.drop _))) ?_,rfl,q⟩
 ·show(have k:=if i<0 then(i+((w.toArray.size:Nat):Int)).toNat else min i.toNat w.toArray.size;(w.toArray.extract 0 k).push C++w.toArray.extract k)=_
  have hk:(if i<0 then(i+((w.toArray.size:Nat):Int)).toNat else min i.toNat w.toArray.size)=min i.toNat w.length:=by
   rw[zn (by omega),zZ]
  simp only[hk];apply Array.toList_inj.mp
  simp;by_cases B:i.toNat<=w.length
  ·have A:(w.drop i.toNat).take (w.length-i.toNat)=w.drop i.toNat:=Qv (by rw[vh];omega)
   rw[Nat.min_eq_left B,A]
  ·have A:w.length<=i.toNat:=by omega
   rw[Nat.min_eq_right A,Qv A,List.drop_of_length_le A];simp
 ·simp only[zL,qD,jy,vh]
  omega
variable{e st:Expr}{o:TE}{u:TO}{c g:Pos}
end
theorem xt{K:W.Frag}{a:Addr}{xs:List V}{g:TG}{G:TT}{E:TE}{u:St}{n:Nat}{R:List V->Hp->Prop}{H:Hp}(Pv:Nat->List V->Hp->Prop)(I:Pv 0 [] H)
  (J:∀i c H,Pv i c H->SqL K H a xs)
  (M:∀i x c H,xs[i]? =some x->Pv i c H->g x u H fun o B=>o.drop n=u.drop n/\G o B fun b s=>
   if b=true then E o s fun v C=>c.length<sizeLine/\Pv (i+1) (c++[v]) C else Pv (i+1) c s)
  (L:∀c H,Pv xs.length c H->c.length<=sizeLine/\R c H) :
  ∃W:Nat->Nat->List V->Hp->Prop,(∃m,W 0 m [] H)/\∀i m c l,W i m c l ->
   ((Itl K a).stop i l/\c.length<=sizeLine/\R c l) \/
   ((Itl K a).go i l/\∃N:List V->Hp->Prop,(∀c w,N c w->∃D,D<m/\W (i+1) D c w)/\∀x A,(Itl K a).yld i l x A->g x u A fun o B=>o.drop n=u.drop n/\G o B fun b s=>
    if b=true then E o s fun y C=>c.length<sizeLine/\N (c++[y]) C else N c s):=by
 refine⟨fun i m c l=>m=xs.length-i/\i<=xs.length/\Pv i c l,⟨_,rfl,qB _,I⟩,?_⟩
 rintro i m c l ⟨rfl,hi,p⟩;have q:=J i c l p;by_cases t:i<xs.length
 ·refine .inr ⟨⟨xs,xs[i],q,by simp[t]⟩,Pv (i+1),fun Y w O=>⟨_,by omega,rfl,t,O⟩,fun x A y=>?_⟩
  obtain⟨e,y⟩:=y;subst e;exact M i x c _ (y xs q) p
 ·have e:i=xs.length:=by omega
  subst e;obtain⟨Q,U⟩:=L c l p;exact .inl ⟨⟨xs,q,zy _⟩,Q,U⟩
theorem xX{K:W.Frag}{a:Addr}{xs:List V}{g:TG}{G:TT}{E:TE}{u:St}{n:Nat}{R:List V->Hp->Prop}{H:Hp}(Pv:Nat->List V->Hp->Prop)(I:Pv 0 [] H)
  (J:∀i c H,Pv i c H->SqT K H a xs)
  (M:∀i x c H,xs[i]? =some x->Pv i c H->g x u H fun o B=>o.drop n=u.drop n/\G o B fun b s=>
   if b=true then E o s fun v C=>c.length<sizeLine/\Pv (i+1) (c++[v]) C else Pv (i+1) c s)
  (L:∀c H,Pv xs.length c H->c.length<=sizeLine/\R c H) :
  ∃W:Nat->Nat->List V->Hp->Prop,(∃m,W 0 m [] H)/\∀i m c l,W i m c l ->
   ((Itt K a).stop i l/\c.length<=sizeLine/\R c l) \/
   ((Itt K a).go i l/\∃N:List V->Hp->Prop,(∀c w,N c w->∃D,D<m/\W (i+1) D c w)/\∀x A,(Itt K a).yld i l x A->g x u A fun o B=>o.drop n=u.drop n/\G o B fun b s=>
    if b=true then E o s fun y C=>c.length<sizeLine/\N (c++[y]) C else N c s):=by
 refine⟨fun i m c l=>m=xs.length-i/\i<=xs.length/\Pv i c l,⟨_,rfl,qB _,I⟩,?_⟩
 rintro i m c l ⟨rfl,hi,p⟩;have q:=J i c l p;by_cases t:i<xs.length
 ·refine .inr ⟨⟨xs,xs[i],q,by simp[t]⟩,Pv (i+1),fun Y w O=>⟨_,by omega,rfl,t,O⟩,fun x A y=>?_⟩
  obtain⟨e,y⟩:=y;subst e;exact M i x c _ (y xs q) p
 ·have e:i=xs.length:=by omega
  subst e;obtain⟨Q,U⟩:=L c l p;exact .inl ⟨⟨xs,q,zy _⟩,Q,U⟩
inductive DV(K:W.Frag)(F:Hp)(n:Nat):V->Prop
 | non:DV K F n .non
 | bl (b:Bool):DV K F n (.bl b)
 | int (i:Int) (h:i.natAbs<=10000000000+n):DV K F n (.int i)
 | str (x:Str) (h:x.length<=n):DV K F n (.str x)
 | lst (a:Addr) (c:List V) (h:SqL K F a c) (g:c.length<=n) (all:∀x∈c,DV K F n x):DV K F n (.ref a)
 | tup (a:Addr) (c:List V) (h:SqT K F a c) (g:c.length<=n) (all:∀x∈c,DV K F n x):DV K F n (.ref a)
theorem DV.up{K:W.Frag}{F l:Hp}{n m:Nat}{v:V}(h:DV K F n v)(s:Same F l)(t:n<=m):DV K l m v:=by
 induction h with
 | non=>exact .non
 | bl b=>exact .bl b
 | int i h=>exact .int i (by omega)
 | str x h=>exact .str x (by omega)
 | lst a g h o all c=>exact .lst a g (s.seq h) (by omega) c
 | tup a g h o all c=>exact .tup a g (s.sqT h) (by omega) c
def WX(g:List Addr)(H:Hp):Hp:=fun c=>if c∈g then none else H c
theorem WX.le{g:List Addr}{H:Hp}:Same (WX g H) H:=fun c o e=>by
 unfold WX at e;split at e
 ·cases e
 ·exact e
theorem WX.new{g:List Addr}{H:Hp}{p:Addr}{o:HO}(h:H p=none):Same (WX g H) (WX g (upd H p o)):=fun c u e=>by
 unfold WX at e ⊢;split at e
 ·cases e
 ·rename_i hc
  rw[zn hc,zk (zm e h)];exact e
theorem WX.same{i:List Addr}{H g:Hp}(h:Same H g):Same (WX i H) (WX i g):=fun c u e=>by
 unfold WX at e ⊢;split at e
 ·cases e
 ·rename_i hc
  rw[zn hc];exact h c u e
theorem WX.cons{g:List Addr}{H:Hp}{m:Addr}:Same (WX (m::g) H) (WX g H):=fun c u e=>by
 unfold WX at e ⊢;split at e
 ·cases e
 ·rename_i hc
  rw[zn (fun z=>hc (qw _ z))]
  exact e
theorem WX.fresh{g:List Addr}{H:Hp}{m:Addr}(h:H m=none)(o:HO):Same (WX g H) (WX (m::g) (upd H m o)):=fun c u e=>by
 unfold WX at e ⊢;split at e
 ·cases e
 ·rename_i hc
  have i:c≠m:=zm e h;rw[zn (fun z=>(zQ.mp z).elim i hc),zk i]
  exact e
theorem WX.put{g:List Addr}{H:Hp}{m:Addr}{o:HO}(h:m∈g):Same (WX g H) (WX g (upd H m o)):=fun c u e=>by
 unfold WX at e ⊢;split at e
 ·cases e
 ·rename_i hc
  rw[zn hc,zk (show c≠m from fun z=>hc (by rw[z];exact h))]
  exact e
theorem WX.at{g:List Addr}{H:Hp}{c:Addr}{o:HO}(h:c∉g)(e:H c=some o):WX g H c=some o:=by
 unfold WX;rw[zn h];exact e
def ze6:Expr->Bool
 | .Starred _ _=>false
 | _=>true
theorem x5{e:Expr}{g:List Expr}{c:Env}(h:ze6 e=true):starEach (e::g) c=(false,eval e c)::starEach g c:=by
 cases e<;>first| rfl | cases h
theorem pa5{X:Cx}{g e1 e2 i l:Expr}{o s t u w:TE}(A:PE X g o)(B:PE X e1 s)(C:PE X e2 t)(D:PE X i u)(E:PE X l w)(h:([g,e1,e2,i,l]).all ze6=true:=by rfl):PA X [g,e1,e2,i,l] (QT o (QT s (QT t (QT u (QT w zgr))))):=by
 have c:=j3.mp h;exact(za A (za B (za C (za D (za E zb (x5 (c _ (by simp)))) (x5 (c _ (by simp)))) (x5 (c _ (by simp)))) (x5 (c _ (by simp)))) (x5 (c _ (by simp))))
section
variable{X:Cx}{l E i:Expr}{t:List Expr}{c:Scope}{u:Pos}{B:TI}{g:TG}{A:TT}{w:TE}
theorem zbs{y:Str}{py:Pos}{g2:TG}{s:List (Addr×Obj)}{σ:St}{L:Hp}{O:St->Hp->Prop}{H:Shared}{D C:Addr}{m:Str->Option Value}(M:PG X (.Name y py) g2)(hn:H.heap.Ns C m)
  (all:∀h7:Heap,(∀b o,b≠C->H.heap.get? b=some o->h7.get? b=some o)->Inv X s σ L { H with heap:=h7 }) (Y:jF X s L C) (q:g2 (.ref D) σ L O) :
  wpAny (model X.prog X.w) X.A (assign (.Name y py) X.env (.ref D)) (fun _ G=>∃m,G.heap.Ns C m/\∀h',Heap.SameBut C G.heap h'->∃σ' Q,Inv X s σ' Q { G with heap:=h' }/\O σ' Q) X.xe H:=by
 have J0:=all H.heap fun b o _ e=>e
 obtain⟨J,es,ep,I,hd,r⟩:=hn;have J1:=J0.pinned (fp:=[C]) (fun b hb=>by rw[zP.mp hb];exact Y) (fun b hb=>by rw[zP.mp hb];exact⟨J,I,fun v z=>by rw[hd] at z;cases z⟩)
 have mC:(C,J)∈s++qG [C] H.heap:=jz _ (jK (zP.mpr rfl) I);refine thn (M _ H σ _ (.ref D) (.ref D) _ J1 rfl q) fun _ s8 ⟨σ8,H8,U,q8⟩=>?_
 obtain⟨e8,n8,_⟩:=U.pin (C,J) (jz _ mC);obtain⟨_,g1,_,g3,g4,g5⟩:=Y;exact⟨m,⟨J,es,ep,e8,hd,r⟩,fun h9 N=>⟨σ8,H8,(U.unpinned).turned (t':=s8.toks) (it:=C) (fun b o hb e=>N.extBut b o hb e) n8 g1 g3 g4 g5,q8⟩⟩
theorem ze2{y:Str}{N o:Pos}{U:TG}(own L:List Str)(js:List Nat)(hc:X.calm=true)(hk:c.kind=.function)(hb:Zf c.names X.env.scope.names X.N L js=true)(hi:PI X E i B)
  (hg:∀C s H G,PG (zM X (own++L) c C s H G) E g) (hf:∀C s H G,PF (zM X (own++L) c C s H G) t A) (he:∀C s H G,PE (zM X (own++L) c C s H G) l w)
  (Y:PG X (.Name y N) U) (a0:swapsWith (.ListComp l [⟨E,i,t,0⟩] c u) (some (.Name y N)) o.line X.env=pure true:=by rfl)
  (hs:∀x,foldedSetIterable i X.env x=pure x:=by intro _;rfl):PS X (.Assign [.Name y N] (.ListComp l [⟨E,i,t,0⟩] c u) o) (zbD (tLC B own.length js g A w) U):=by
 intro M s σ H Dn I h;rw[exec_Assign_Name_used _ _ _ _ a0];refine zd (we (zd ?_))
 show wpAny _ X.A (do let _<-comprehension (.ListComp l [⟨E,i,t,0⟩] c u) c X.env _ (newList []) false (eval i X.env) (some (assign (.Name y N) X.env))) _ _ s
 refine zd (qN (zfe (rest:=[]) (use:=some (assign (.Name y N) X.env)) (Qx:=fun _ s'=>∃σ' H',Inv X M σ' H' s'/\Dn.nx σ' H') (Q:=fun v H1=>U v σ H1 Dn.nx) own L js hk hb hi hs I h (fun C D it fp tn J W H2 s3 s4 m0 R a b T tl j O=>YY hc hg hf he a b T tl j O) fun s6 D C H6 m hn all fc q=>zbs Y hn all fc q) (fun _ s' hq=>zp (zp hq)) fun _ _ e=>e)
theorem zfw{x y:Str}{M N o:Pos}{O:TG}(G:List Str)(L:List Nat)(hc:X.calm=true)(hk:c.kind=.function)(hb:vP c.names X.env.scope.names X.N [x] G L=true)(hi:PI X (.Name x M) i B)
  (hf:∀C s H D,PF (zM X ([x]++G) c C s H D) t A) (he:∀C s H D,PE (zM X ([x]++G) c C s H D) l w)
  (I:PG X (.Name y N) O) (J:swapsWith (.ListComp l [⟨.Name x M,i,t,0⟩] c u) (some (.Name y N)) o.line X.env=pure true:=by rfl)
  (hs:∀x,foldedSetIterable i X.env x=pure x:=by intro _;rfl):PS X (.Assign [.Name y N] (.ListComp l [⟨.Name x M,i,t,0⟩] c u) o) (zbD (tLC B 1 L (x8 0) A w) O):=by
 obtain⟨Q,U,Y⟩:=xx hb;exact ze2 [x] G L hc hk Q hi (fun C s H D=>xT (U x (by simp)) Y rfl) hf he I J hs
theorem zfv{x z y:Str}{N Q O o U:Pos}{M:Nat}{Y:TG}(G:List Str)(L:List Nat)(hc:X.calm=true)(hk:c.kind=.function)(hb:vP c.names X.env.scope.names X.N [x,z] G L=true)(hi:PI X (.Tuple [.Name x N,.Name z Q] M U) i B)
  (hf:∀C s H D,PF (zM X ([x,z]++G) c C s H D) t A) (he:∀C s H D,PE (zM X ([x,z]++G) c C s H D) l w)
  (I:PG X (.Name y O) Y) (J:swapsWith (.ListComp l [⟨.Tuple [.Name x N,.Name z Q] M U,i,t,0⟩] c u) (some (.Name y O)) o.line X.env=pure true:=by rfl)
  (hs:∀x,foldedSetIterable i X.env x=pure x:=by intro _;rfl):PS X (.Assign [.Name y O] (.ListComp l [⟨.Tuple [.Name x N,.Name z Q] M U,i,t,0⟩] c u) o) (zbD (tLC B 2 L (zcO X.K 2 (yq (x8 0) (yq (x8 1) zec))) A w) Y):=by
 obtain⟨h1,h2,h3⟩:=xx hb;refine ze2 [x,z] G L hc hk h1 hi (fun C s H D=>?_) hf he I J hs
 exact xA (X:=zM X ([x,z]++G) c C s H D) hc (zE (xT (h2 x (by simp)) h3 rfl) (zE (xT (h2 z (by simp)) h3 rfl) jM))
end
theorem Vals.mem{u:Value}:∀{c:List V} {g:List Value},Vals c g->u∈g->∃x∈c,RelV x u
 | _,_,.nil,h=>by cases h
 | x::c,v::l,.cons r t,h=>by
  rcases zQ.mp h with e | h
  ·rw[e];exact⟨x,jU,r⟩
  ·obtain⟨y,hy,i⟩:=Vals.mem t h
   exact⟨y,qw _ hy,i⟩
section
variable{X:Cx}
inductive w8(K:W.Frag)(x:V)(y:V)(H:Hp)(Q:VK):Prop
 | mk (a b:Addr) (c:List V) (_:x=.ref a) (_:y=.ref b) (_:SqL K H a c) (_:SqL K H b []) (_:Q (.bl (!c.isEmpty)) H):w8 K x y H Q
theorem zch(hu:X.A.units<cLine):OpR X (compareOp .NotEq) (w8 X.K):=by
 intro o s σ H x y v u Q I C D h;obtain⟨a,b,E,rfl,rfl,hx,hy,q⟩:=h;cases C;cases D;obtain⟨c,A,i,G⟩:=I.list hx;obtain⟨g,B,l,J⟩:=I.list hy;cases B;cases A with
 | nil=>exact WI (e:=fun _=>true) i.isList l.isList rfl hu (fun j w _=>by simp at w) _ _ _ _ ⟨.bl _,H,I,rfl,q⟩
 | cons r t=>exact SeqAt.RcNeAt.lists_lengths i.isList l.isList (by simp) hu _ _ _ _ ⟨.bl _,H,I,rfl,q⟩
inductive QB(K:W.Frag)(x:V)(y:V)(H:Hp)(Q:VK):Prop
 | mk (a b:Addr) (c:List V) (_:x=.ref a) (_:y=.ref b) (_:SqL K H a c) (_:SqL K H b []) (_:Q (.bl c.isEmpty) H):QB K x y H Q
theorem zcj(hu:X.A.units<cLine):OpR X (compareOp .Eq) (QB X.K):=by
 intro o s σ H x y v u Q I C D h;obtain⟨a,b,E,rfl,rfl,hx,hy,q⟩:=h;cases C;cases D;obtain⟨c,A,i,G⟩:=I.list hx;obtain⟨g,B,l,J⟩:=I.list hy;cases B;cases A with
 | nil=>exact SeqAt.RcAt.lists (e:=fun _=>true) i.isList l.isList rfl hu (fun j w _=>by simp at w) _ _ _ _ ⟨.bl _,H,I,rfl,q⟩
 | cons r t=>exact SeqAt.RcAt.lists_lengths i.isList l.isList (by simp) hu _ _ _ _ ⟨.bl _,H,I,rfl,q⟩
theorem XL:∀{c:List Value} {n k:Nat},c.length=n->(∀j v,c[j]? =some v->∃t,v=Value.int ((k+j:Nat):Int) t)->Vals ((List.range' k n).map fun i:Nat=>V.int (i:Int)) c
 | [],0,k,_,_=>.nil
 | v::c,n+1,k,l,h=>by
  rw[List.range'_succ,jn];obtain⟨t,e⟩:=h 0 v rfl;refine .cons ⟨t,by rw[e];rfl⟩ (XL (by simpa using l) fun j w o=>?_)
  obtain⟨s,g⟩:=h (j+1) w (by simpa using o)
  exact⟨s,by rw[g,show k+(j+1)=k+1+j by omega]⟩
theorem vo{a:Expr}{O:TA}{p G J c:Pos}(hc:X.calm=true)(hg:Gl X "list")(hm:X.mg "list" = none)(D:Gl X "range")(E:X.mg "range" = none)(hv:bootBuiltins "list" = some (.type "list"))(ha:PA X [a] O)(hs:starEach [a] X.env=[(false,eval a X.env)]:=by rfl)
  (M:starEach [.Call (.Name "range" G) [a] [] c] X.env=[(false,eval (.Call (.Name "range" G) [a] [] c) X.env)]:=by rfl) :
  PE X (.Call (.Name "list" p) [.Call (.Name "range" G) [a] [] c] [] J) (fun σ H Q=>O σ H fun U C=>∃j:Int,U=[.int j]/\0<=j/\j<=1000000/\∀l,C l=none->Q (.ref l) (upd C l (.lst ((List.range j.toNat).map fun i:Nat=>V.int (i:Int))))):=by
 intro w s σ H Q I h;refine y8 (xE I hg hm hv ?_ (by decide) (by decide))
 refine Zk ?_ M rfl
 rw[M];refine wZ ?_
 refine Call_ (xE I D E boot_range (Zk (thn (ha c w s σ H _ I h) fun us s1 ⟨U,C,Y,r1,q1⟩=>?_) hs rfl))
 obtain⟨j,e,j0,j1,q⟩:=q1;subst e;cases r1 with
 | cons r rr=>
  cases rr;obtain⟨t,rfl⟩:=r;refine call_range_1 (Qq ?_)
  have L:Inv X w σ C { s1 with heap:=s1.heap.push { cls:=.type "range",data:=.fields #[.int 0 s1.toks,.int j t,.int 1 (s1.toks+1)] },toks:=s1.toks+1+1 }:=Y.kept fun b o e=>zI _ e
  have u:=bGe;refine call_list_range (n:=j.toNat) (I.ok.hd hc) (IsRange.new ..) (small_one (by rw[u];omega) (by rw[u];omega) (by rw[u];omega) (by rw[u];omega)) (by rw[rangeSize_one];split<;>omega) (by omega) fun h' tk A c' B get g=>?_
  refine⟨.ref _,_,L.laid (t':=tk) (o:=.lst ((List.range j.toNat).map fun i:Nat=>V.int (i:Int))) B (zy _) ?_,rfl,q _ (L.hok.fresh (zy _))⟩
  refine⟨by rw[zo,qQ,sizeLine_eq];omega,A.toList,c',?_,by rw[Array.toArray_toList];exact get⟩
  rw[List.range_eq_range'];refine XL (by rw[qF];exact g.1) fun i v hv=>?_
  obtain⟨N,e'⟩:=g.2 i v (by simpa using hv)
  exact⟨N,by rw[e'];congr 1;omega⟩
end
theorem XJ{M:Model}{A:Around}{E:Value->Shared->Prop}{s:Shared}{a:Addr}{Q:Option Obj->Shared->Prop}(h:Q (s.heap.get? a) s):wpAny M A (loadIfAlive a) Q E s:=fun Γ p c=>by
 show Sem.wp M Γ (.loadIfAlive a .pure) _ _ p s;rw[Sem.wp_loadIfAlive];exact zp (M:=M) (A:=A) (E:=E) (Q:=Q) h Γ p c
def ya(h:Heap)(z TI TO c:Addr)(b1:Bool):Prop:=h.get? z=some { cls:=.type "zip",data:=.fields #[rawInt c,.bool b1,.bool false,.ref TI,.ref TO] }
section
variable{g:Program}{w:World}{A:Around}{E:Value->Shared->Prop}{s:Shared}
theorem QL{z TI TO c:Addr}{b1:Bool}{Q:Bool->Shared->Prop}(i:ya s.heap z TI TO c b1)(t:∃o,s.heap.get? c=some o)
  (C:∀l,ya l z TI TO c true->Heap.SameBut z s.heap l->Q false { s with heap:=l }):wpAny (model g w) A (Builtin.SmallTypes.ownedTupleIsFree (.ref z)) Q E s:=by
 obtain⟨H,D⟩:=t;unfold Builtin.SmallTypes.ownedTupleIsFree;refine zd (jm i rfl (x:=rawInt c) rfl ?_)
 show wpAny _ _ (loadIfAlive ((c:Nat):Int).toNat >>= _) _ _ _;refine zd (XJ ?_)
 rw[jT,D];show wpAny _ _ (field (.ref z) 1 >>= _) _ _ _;refine zd (jm i rfl (x:=.bool b1) rfl ?_)
 cases b1 with
 | true=>exact zp (C s.heap i (Heap.SameBut.refl _ _))
 | false=>
  refine zd (wY i (by simp) fun G B u=>?_)
  exact zp (C G B u)
theorem zae{k1 k2:Bool}{z TI TO l t a1 a2 I:Addr}{b1:Bool}{i:Nat}{xs ys:Array Value}{x y:Value}{Q:Option Value->Shared->Prop}(N:Qy z TI TO l t)(J:ya s.heap z TI TO I b1)(U:∃o,s.heap.get? I=some o)
  (H:IsPair s.heap TI (.ref l) (.ref t)) (h1:ItrK k1 s.heap l a1 i) (h2:ItrK k2 s.heap t a2 i) (l1:SeqK k1 s.heap a1 xs) (l2:SeqK k2 s.heap a2 ys) (m1:∀b∈[z,l,t],a1≠b) (m2:∀b∈[z,l,t],a2≠b) (hx:xs[i]? =some x) (hy:ys[i]? =some y)
  (hQ:∀C,ya C z TI TO I true->IsPair C TI (.ref l) (.ref t)->ItrK k1 C l a1 (i+1)->ItrK k2 C t a2 (i+1)->IsPair C s.heap.objs.size x y->C.objs.size=s.heap.objs.size+1 ->
   (∀c o,c∉[z,l,t]->s.heap.get? c=some o->C.get? c=some o)->Q (some (.ref s.heap.objs.size)) { s with heap:=C }):wpAny (model g w) A (pyNext (.ref z)) Q E s:=by
 have hT:s.TypeIs (.ref z) "zip" :=⟨_,J,rfl⟩;unfold pyNext;refine zd (vv (vC (name:=Str.ofString "__next__") hT wg (xq wg hT Xf ?_ (Xj _))))
 show wpAny _ _ (field (.ref z) 2 >>= _) _ _ _;refine zd (jm J rfl (x:=.bool false) rfl ?_)
 show wpAny _ _ (field (.ref z) 3 >>= _) _ _ _;refine zd (jm J rfl (x:=.ref TI) rfl (zd (xi H rfl ?_)))
 show wpAny _ _ (Builtin.SmallTypes.ownedTupleIsFree (.ref z) >>= _) _ _ _;refine zd (QL J U fun g1 a0 u=>?_)
 simp only[qW,if_false];refine zd ?_
 rw[<- Xl];simp only[y3,Ql];refine zd (zd (je ?_));show wpAny _ _ (Builtin.SmallTypes.nextOf (.ref l) >>= _) _ _ _
 refine zd (jI (h1.at fun o e=>u.extBut _ o N.c e) (l1.at fun o e=>u.extBut _ o (m1 z (by simp)) e) hx fun g2 M D=>zp (zp ?_))
 refine zd (zd (je ?_));show wpAny _ _ (Builtin.SmallTypes.nextOf (.ref t) >>= _) _ _ _
 have L:∀c o,c∉[z,l]->s.heap.get? c=some o->g2.get? c=some o:=fun c o hc e=>D.extBut _ o (fun q=>hc (by simp[q])) (u.extBut _ o (fun q=>hc (by simp[q])) e)
 refine zd (jI (h2.at fun o e=>L _ o (by simp[N.d,zN N.j]) e) (l2.at fun o e=>L _ o (by simp[m2 z (by simp),m2 l (by simp)]) e) hy fun G O B=>zp (zp ?_))
 refine zp ?_
 have zs:G.objs.size=s.heap.objs.size:=by rw[B.1,D.1,u.1]
 have aa:ya G z TI TO I true:=B.extBut _ _ (zN N.d) (D.extBut _ _ (zN N.c) a0);have k4:∀c o,c∉[z,l,t]->s.heap.get? c=some o->G.get? c=some o:=fun c o hc e=>B.extBut _ o (fun q=>hc (by simp[q])) (L c o (fun q=>hc (by simp at q ⊢;rcases q with q | q<;>simp[q])) e)
 show wpAny _ _ (newTuple [x,y] >>= _) _ _ _;refine zd (wpAny_newTuple ?_)
 refine zp ⟨_,rfl,zp ?_⟩
 show Q (some (.ref G.objs.size)) _;rw[zs];have Y:IsPair (G.push { cls:=.type "tuple",data:=.seq #[x,y] }) s.heap.objs.size x y:=by rw[<- zs];exact qv _ rfl
 exact hQ _ (zI _ aa) (zI _ (k4 _ _ (by simp[N.a,N.f,N.g]) H)) (M.at fun o e=>zI _ (B.extBut _ o N.j e)) (O.at fun o e=>zI _ e) Y (by rw[jD,zs]) fun c o hc e=>zI _ (k4 c o hc e)
theorem zbq{k1 k2:Bool}{z TI TO t D a1 a2 T0:Addr}{b1:Bool}{i:Nat}{Y ys:Array Value}{Q:Option Value->Shared->Prop}(hh:A.handled=none)(N:Qy z TI TO t D)(H:ya s.heap z TI TO T0 b1)(J:∃o,s.heap.get? T0=some o)
  (L:IsPair s.heap TI (.ref t) (.ref D)) (h1:ItrK k1 s.heap t a1 i) (h2:ItrK k2 s.heap D a2 i) (l1:SeqK k1 s.heap a1 Y) (l2:SeqK k2 s.heap a2 ys) (m1:∀b∈[z,t,D],a1≠b) (m2:∀b∈[z,t,D],a2≠b) (G:Y[i]? =none\/ys[i]? =none)
  (hQ:∀h',(∀c o,c∉[z,t,D]->s.heap.get? c=some o->h'.get? c=some o)->Q none { s with heap:=h' }):wpAny (model g w) A (pyNext (.ref z)) Q E s:=by
 have hT:s.TypeIs (.ref z) "zip" :=⟨_,H,rfl⟩;unfold pyNext;refine zd (vv (vC (name:=Str.ofString "__next__") hT wg (xq wg hT Xf ?_ (Xj _))))
 show wpAny _ _ (field (.ref z) 2 >>= _) _ _ _;refine zd (jm H rfl (x:=.bool false) rfl ?_)
 show wpAny _ _ (field (.ref z) 3 >>= _) _ _ _;refine zd (jm H rfl (x:=.ref TI) rfl (zd (xi L rfl ?_)))
 show wpAny _ _ (Builtin.SmallTypes.ownedTupleIsFree (.ref z) >>= _) _ _ _;refine zd (QL H J fun g1 ab l=>?_)
 simp only[qW,if_false];refine zd ?_
 rw[<- Xl];simp only[y3,Ql];refine zd (zd (je ?_));show wpAny _ _ (Builtin.SmallTypes.nextOf (.ref t) >>= _) _ _ _
 cases hx:Y[i]? with
 | none=>
  refine zd (xv hh (h1.at fun o e=>l.extBut _ o N.c e) (l1.at fun o e=>l.extBut _ o (m1 z (by simp)) e) hx fun g2 e C M=>?_)
  obtain⟨U,B,u⟩:=M;refine zd (vV (T:= "StopIteration") (b:=true) ⟨U,B,u⟩ isSubtype_stop (zp (hQ _ fun c o hc q=>?_)))
  exact C _ o (fun q=>hc (by simp[q])) (l.extBut _ o (fun q=>hc (by simp[q])) q)
 | some x=>
  have hy:ys[i]? =none:=by rcases G with q | q;rw[hx] at q;cases q;exact q
  refine zd (jI (h1.at fun o e=>l.extBut _ o N.c e) (l1.at fun o e=>l.extBut _ o (m1 z (by simp)) e) hx fun g2 aa C=>zp (zp ?_))
  refine zd (zd (je ?_));show wpAny _ _ (Builtin.SmallTypes.nextOf (.ref D) >>= _) _ _ _
  have I:∀c o,c∉[z,t]->s.heap.get? c=some o->g2.get? c=some o:=fun c o hc e=>C.extBut _ o (fun q=>hc (by simp[q])) (l.extBut _ o (fun q=>hc (by simp[q])) e)
  refine zd (xv hh (h2.at fun o e=>I _ o (by simp[N.d,zN N.j]) e) (l2.at fun o e=>I _ o (by simp[m2 z (by simp),m2 t (by simp)]) e) hy fun g4 e O M=>?_)
  obtain⟨U,B,u⟩:=M;refine zd (vV (T:= "StopIteration") (b:=true) ⟨U,B,u⟩ isSubtype_stop (zp (hQ _ fun c o hc q=>?_)))
  exact O _ o (fun q=>hc (by simp[q])) (I c o (fun q=>hc (by simp at q ⊢;rcases q with q | q<;>simp[q])) q)
end
theorem VI:typeLookup (.type "zip") "__len__" = pure none:=by rw[typeLookup_type,builtinLookup_eq_fast];kernel_rfl
theorem XH:typeLookup (.type "zip") "__length_hint__" = pure none:=by rw[typeLookup_type,builtinLookup_eq_fast];kernel_rfl
theorem Inv.track{X:Cx}{c:List (Addr×Obj)}{σ:St}{H:Hp}{s:Shared}{a:Addr}{o:HO}(I:Inv X c σ H s)(f:jF X c H a)(g:ObjOk X.prog X.w (upd H a o) s.heap a o):Inv X c σ (upd H a o) s:=by
 refine I.call' (s':=s) (ch:=[a]) rfl (ZE Un.refl (zP.mpr rfl) f.1) (yP I.hok f.1 g) I.bare fun b hb=>?_
 rw[zP.mp hb];exact⟨f.2.2.2.1,f.2.1,f.2.2.2.2.1,f.2.2.2.2.2⟩
def Tups(H:Hp)(g i:List V)(c:List Addr):Prop:=∀(j:Nat) (T:Addr),c[j]? =some T->∃x y,g[j]? =some x/\i[j]? =some y/\H T=some (.tup [x,y])
theorem Tups.same{H g:Hp}{l o:List V}{i:List Addr}(h:Tups H l o i)(s:Same H g):Tups g l o i:=fun j T e=>let ⟨x,y,a,b,c⟩:=h j T e;⟨x,y,a,b,s _ _ c⟩
theorem Tups.snoc{H:Hp}{g i:List V}{c:List Addr}{T:Addr}{x y:V}(h:Tups H g i c)(hx:g[c.length]? =some x)(hy:i[c.length]? =some y)(l:H T=some (.tup [x,y])):Tups H g i (c++[T]):=fun j U e=>by
 by_cases o:j<c.length
 ·rw[jV o] at e
  exact h j U e
 ·rw[jW (by omega)] at e
  have:j=c.length:=by
   have:=(zK.mp e).1;simp at this;omega
  subst this;simp at e;subst e;exact⟨x,y,hx,hy,l⟩
def ZS(s t:Bool)(h:Heap)(z TI TO i l a1 a2:Addr)(c:List Addr):Prop:=
 (c=[]/\Zl s t h z TI TO i l a1 a2 0)\/∃g R b1,c=g::R/\ya h z TI TO g b1/\(∃o,h.get? g=some o)/\(∃o,h.get? TO=some o)/\IsPair h TI (.ref i) (.ref l)/\ItrK s h i a1 c.length/\ItrK t h l a2 c.length
section
variable{X:Cx}{A:Around}{R:Result->Shared->Prop}
theorem zdt{t:List (Addr×Obj)}{σ:St}{k1 k2:Bool}{z TI TO w B a1 a2 S:Addr}{C D:List V}{res:Value}(hh:A.handled=none)(N:Qy z TI TO w B)(hS:S∉[z,TI,TO,w,B])(b0:min C.length D.length<=1000000) :
  ∀(m:Nat) (s:Shared) (g:List Addr) (c:Nat) (H:Hp),min C.length D.length-g.length=m->g.length<=min C.length D.length->Inv X t σ H s->(∀b∈[z,TI,TO,w,B,S],jF X t H b)->ZS k1 k2 s.heap z TI TO w B a1 a2 g ->
   s.heap.get? S=some { cls:=.type "list",dict:=none,data:=.seq (g.map Value.ref).toArray c,slots:=#[] }->SqK X.K k1 H a1 C->SqK X.K k2 H a2 D->Tups H C D g ->
   (∀U L c' H',Inv X t σ H' U->Same H H'->jF X t H' S->U.heap.get? S=some { cls:=.type "list",dict:=none,data:=.seq (L.map Value.ref).toArray c',slots:=#[] }->L.length=min C.length D.length->Tups H' C D L->R (.ok (.ret res)) U) ->
   codeAny (model X.prog X.w) A (.builtin "list.extend.loop" ⟨[.ref S,.ref z,res],[]⟩) R s:=by
 intro m;induction m with
 | zero=>
  intro s g c H hm an I J hz hs E G ht k;have ah:g.length=min C.length D.length:=by omega
  obtain⟨aa,ac,p1,_⟩:=I.seqK E;obtain⟨ab,ae,p2,_⟩:=I.seqK G;have a0:aa.toArray[g.length]? =none\/ab.toArray[g.length]? =none:=by
   have l1:=ac.length;have l2:=ae.length;by_cases q:C.length<=D.length
   ·exact .inl (by simp;omega)
   ·exact .inr (by simp;omega)
  have Y:∀l,(∀b o,b∉[z,TO,w,B]->s.heap.get? b=some o->l.get? b=some o)->R (.ok (.ret res)) { s with heap:=l }:=fun l hk=>by
   have I':Inv X t σ H { s with heap:=l }:=by
    refine I.step (g':=s.gens) (d':=s.drawn) (t':=s.toks) (ch:=[z,TO,w,B]) (fun b hb=>?_) (fun b o _ _ hc e _=>hk b o hc e) (fun b o _ _ hc e _=>⟨o.slots,hk b o hc e⟩) (fun _ _ _ _ n=>n) (fun b o hc e=>⟨o,hk b o hc e⟩)
     (fun _ _ e=>e) (fun _ _ _ e=>e) (fun b ps e=>⟨#[],by rw[e];simp⟩) (fun m hm=>?_) (fun b u e=>?_) I.bare
    ·obtain⟨_,g1,_,g3,g4,g5⟩:=J b (by simp at hb ⊢;rcases hb with q | q | q | q<;>simp[q])
     exact⟨g3,g1,g4,g5⟩
    ·obtain⟨o,es,ep,ho,r⟩:=hm
     refine⟨o,es,ep,hk _ o (fun q=>?_) ho,r⟩
     exact(J _ (by simp at q ⊢;rcases q with q | q | q | q<;>simp[q])).2.1 rfl
    ·have tr:∀b u,H b=some u->b∉[z,TO,w,B]:=fun b u e hb=>by
      rw[(J b (by simp at hb ⊢;rcases hb with q | q | q | q<;>simp[q])).1] at e;cases e
     refine(I.hok b u e).stay (fun c v hc q=>hk c v ?_ q) (fun _ q=>q) fun _ _ q=>q
     rcases hc with z | z
     ·rw[z];exact tr b u e
     ·exact tr c _ z
   exact k _ g c H I' (ua _) (J S (by simp)) (hk S _ (fun q=>hS (by simp at q ⊢;rcases q with q | q | q | q<;>simp[q])) hs) ah ht
  refine codeAny_builtin F.entry_extend_loop ?_
  rw[yy Xo _];show wpAny _ A.in1 (pyNext (.ref z) >>= _) _ _ s;have O:∀b∈[z,TO,w,B],a1≠b:=fun b hb=>E.ne_fp I (J b (by simp at hb ⊢;rcases hb with q | q | q | q<;>simp[q]))
  have Q:∀b∈[z,TO,w,B],a2≠b:=fun b hb=>G.ne_fp I (J b (by simp at hb ⊢;rcases hb with q | q | q | q<;>simp[q]))
  rcases hz with ⟨rfl,Z⟩ | ⟨T0,Rr,b1,rfl,zh,alive,to,ti,r1,r2⟩
  ·exact zd (zbp hh N Z p1 p2 O Q a0 fun l hk=>zp (Y l hk))
  ·exact zd (zbq hh N zh alive ti r1 r2 p1 p2 (fun b hb=>O b (by simp at hb ⊢;rcases hb with q | q | q<;>simp[q])) (fun b hb=>Q b (by simp at hb ⊢;rcases hb with q | q | q<;>simp[q])) a0 fun l hk=>zp (Y l fun b o hb e=>hk b o (fun q=>hb (by simp at q ⊢;rcases q with q | q | q<;>simp[q])) e))
 | succ m ih=>
  intro s g c H hm an I J hz hs E G ht k;have az:g.length<min C.length D.length:=by omega
  obtain⟨aa,ac,p1,_⟩:=I.seqK E;obtain⟨ab,ae,p2,_⟩:=I.seqK G;have l1:g.length<C.length:=by omega
  have l2:g.length<D.length:=by omega
  have ex:C[g.length]? =some C[g.length]:=by simp[l1]
  have ey:D[g.length]? =some D[g.length]:=by simp[l2]
  obtain⟨u1,ak,au⟩:=ac.get ex;obtain⟨u2,al,av⟩:=ae.get ey;have sub:∀b∈[z,TO,w,B],b∈[z,TI,TO,w,B,S]:=fun b hb=>by simp at hb ⊢;rcases hb with q | q | q | q<;>simp[q]
  have O:∀b∈[z,TO,w,B],a1≠b:=fun b hb=>E.ne_fp I (J b (sub b hb))
  have Q:∀b∈[z,TO,w,B],a2≠b:=fun b hb=>G.ne_fp I (J b (sub b hb))
  have lt:∀b∈[z,TI,TO,w,B],b<s.heap.objs.size:=fun b hb=>by
   rcases hz with ⟨rfl,Z⟩ | ⟨T0,Rr,b1,rfl,zh,alive,to,ti,r1,r2⟩
   ·obtain⟨a,b',q⟩:=Z.to
    obtain⟨o1,e1,_⟩:=Z.r1.obj;obtain⟨o2,e2,_⟩:=Z.r2.obj;simp at hb;rcases hb with r | r | r | r | r
    ·rw[r];exact zA Z.zz
    ·rw[r];exact zA Z.ti
    ·rw[r];exact zA q
    ·rw[r];exact zA e1
    ·rw[r];exact zA e2
   ·obtain⟨oo,eo⟩:=to
    obtain⟨o1,e1,_⟩:=r1.obj;obtain⟨o2,e2,_⟩:=r2.obj;simp at hb;rcases hb with r | r | r | r | r
    ·rw[r];exact zA zh
    ·rw[r];exact zA ti
    ·rw[r];exact zA eo
    ·rw[r];exact zA e1
    ·rw[r];exact zA e2
  have ltS:S<s.heap.objs.size:=zA hs;have aq:∀b∈[z,TI,TO,w,B,S],b<s.heap.objs.size:=fun b hb=>by
   simp at hb;rcases hb with r | r | r | r | r | r
   ·exact lt b (by simp[r])
   ·exact lt b (by simp[r])
   ·exact lt b (by simp[r])
   ·exact lt b (by simp[r])
   ·exact lt b (by simp[r])
   ·rw[r];exact ltS
  have nS:S∉[z,TO,w,B]:=fun q=>hS (by simp at q ⊢;rcases q with q | q | q | q<;>simp[q])
  have fT:H s.heap.objs.size=none:=I.hok.fresh (zy _);have go:∀l,(∀b o,b∉[z,TO,w,B]->s.heap.get? b=some o->l.get? b=some o)->IsPair l s.heap.objs.size u1 u2 ->
    (∀h2:Heap,(∀b o,b≠S->l.get? b=some o->h2.get? b=some o)->ZS k1 k2 h2 z TI TO w B a1 a2 (g++[s.heap.objs.size])) ->
    wpAny (model X.prog X.w) A.in1 (updateSeq S (·.push (.ref s.heap.objs.size)) >>= fun _=>again (.builtin "list.extend.loop" ⟨[.ref S,.ref z,res],[]⟩))
     (fun Y U=>match Y with | .done f=>R (.ok f) U | .again c'=>c'.quiet=true/\codeAny (model X.prog X.w) A c' R U) (fun e U=>R (.error e) U) { s with heap:=l }:=by
   intro l hk hT ap;have I1:Inv X t σ (upd H s.heap.objs.size (.tup [C[g.length],D[g.length]])) { s with heap:=l }:=
    JM (s:=s) (h':=l) (t':=s.toks) (ch:=[z,TO,w,B]) (its:=[u1,u2]) I (fun b hb=>J b (sub b hb)) (zy _) hk (by rw[sizeLine_eq];exact(by decide:2<=16777216)) (.cons au (.cons av .nil)) (TupX.by hT)
   have f1:∀b∈[z,TI,TO,w,B,S],jF X t (upd H s.heap.objs.size (.tup [C[g.length],D[g.length]])) b:=fun b hb=>⟨by rw[zk (zS (aq b hb))];exact(J b hb).1,(J b hb).2⟩
   have ai:=hk S _ nS hs;have sm:Same H (upd H s.heap.objs.size (.tup [C[g.length],D[g.length]])):=ze fT;obtain⟨g0,g1,_,g3,g4,g5⟩:=f1 S (by simp)
   have af:((g.map Value.ref).toArray.push (.ref s.heap.objs.size))=((g++[s.heap.objs.size]).map Value.ref).toArray:=by
    rw[zF];simp
   have M:(g.map Value.ref).toArray.size=g.length:=by simp
   have ay:16777216<=sizeLine:=by rw[sizeLine_eq];exact zy _
   refine zd (wU ai rfl (zp ⟨plainId_quiet Xo _,?_⟩) (by rw[M];omega) (by show((g.map Value.ref).toArray.push (.ref s.heap.objs.size)).size<=sizeLine+1;rw[Array.size_push,M];omega))
   have am:∀b o,b≠S->l.get? b=some o->(l.update S (Obj.mapSeq (·.push (.ref s.heap.objs.size)))).get? b=some o:=fun b o hb e=>(vY _ _ (zN hb)).trans e
   have I2:=I1.turned (h':=l.update S (Obj.mapSeq (·.push (.ref s.heap.objs.size)))) (t':=s.toks) (it:=S) am g0 g1 g3 g4 g5
   have ao:=xP (Obj.mapSeq (·.push (Value.ref s.heap.objs.size))) ai rfl
   refine ih _ (g++[s.heap.objs.size]) _ _ (by rw[zL];simp;omega) (by rw[zL];simp;omega) I2 f1 (ap _ am) (by rw[<- af];exact ao) (by cases k1 with | true=>exact sm.seq E | false=>exact sm.sqT E) (by cases k2 with | true=>exact sm.seq G | false=>exact sm.sqT G)
    ((ht.same sm).snoc ex ey zc) fun U L c' H' I' aw f' e' l' t'=>k U L c' H' I' (sm.trans aw) f' e' l' t'
  refine codeAny_builtin F.entry_extend_loop ?_
  rw[yy Xo _];show wpAny _ A.in1 (pyNext (.ref z) >>= _) _ _ s;have up1:∀{h2:Heap} {l:Heap} {b:Addr} {o:Obj},(∀b o,b≠S->l.get? b=some o->h2.get? b=some o)->b∈[z,TI,TO,w,B]->l.get? b=some o->h2.get? b=some o:=fun i hb e=>i _ _ (fun q=>hS (by rw[<- q];exact hb)) e
  rcases hz with ⟨rfl,Z⟩ | ⟨T0,Rr,b1,rfl,zh,alive,to,ti,r1,r2⟩
  ·refine zd (zad N Z p1 p2 O Q (by simpa using ak) (by simpa using al) fun l zz ti to r1 r2 hT aj hk=>?_)
   refine go l hk hT fun h2 i=>.inr ⟨s.heap.objs.size,[],false,rfl,up1 i (by simp) zz,⟨_,i _ _ (fun q=>vg ltS q) hT⟩,?_,up1 i (by simp) ti,r1.at fun o e=>up1 i (by simp) e,r2.at fun o e=>up1 i (by simp) e⟩
   obtain⟨a,b,q⟩:=to;exact⟨_,up1 i (by simp) q⟩
  ·refine zd (zae N zh alive ti r1 r2 p1 p2 (fun b hb=>O b (by simp at hb ⊢;rcases hb with q | q | q<;>simp[q])) (fun b hb=>Q b (by simp at hb ⊢;rcases hb with q | q | q<;>simp[q])) (by simpa using ak) (by simpa using al) fun l zz ax ar as hT aj hk=>?_)
   have ag:T0∉[z,w,B]/\T0≠S:=by
    obtain⟨x,y,_,_,hH⟩:=ht 0 T0 rfl;refine⟨fun q=>?_,fun q=>?_⟩
    ·have:=(J T0 (by simp at q ⊢;rcases q with q | q | q<;>simp[q])).1
     rw[hH] at this;cases this
    ·have:=(J S (by simp)).1
     rw[<- q,hH] at this;cases this
   obtain⟨o0,e0⟩:=alive;obtain⟨oo,eo⟩:=to;refine go l (fun b o hb e=>hk b o (fun q=>hb (by simp at q ⊢;rcases q with q | q | q<;>simp[q])) e) hT fun h2 i=>.inr ⟨T0,Rr++[s.heap.objs.size],true,rfl,up1 i (by simp) zz,⟨_,i _ _ ag.2 (hk _ _ ag.1 e0)⟩,⟨_,up1 i (by simp) (hk _ _ (by simp[N.b,N.h,N.i]) eo)⟩,up1 i (by simp) ax,?_,?_⟩
   ·rw[zL];exact ar.at fun o e=>up1 i (by simp) e
   ·rw[zL];exact as.at fun o e=>up1 i (by simp) e
end
theorem QM:∀(c:List Addr),Vals (c.map V.ref) (c.map Value.ref)
 | []=>.nil
 | T::c=>.cons rfl (QM c)
section
variable{X:Cx}
theorem QJ{g:List (Addr×Obj)}{σ:St}{H:Hp}{s:Shared}{k1 k2:Bool}{z TI TO G J a1 a2:Addr}{xs ys:List V}{Q:VK}{E:Value->Shared->Prop}(hh:X.A.handled=none)(N:Qy z TI TO G J)(I:Inv X g σ H s)(Z:Zl k1 k2 s.heap z TI TO G J a1 a2 0)
  (hf:∀b∈[z,TI,TO,G,J],jF X g H b) (af:SqK X.K k1 H a1 xs) (ag:SqK X.K k2 H a2 ys) (ah:min xs.length ys.length<=1000000)
  (q:∀(D:Addr) (u:List Addr) M,Same H M->H D=none->M D=some (.lst (u.map V.ref))->u.length=min xs.length ys.length->Tups M xs ys u->Q (.ref D) M) :
  wpAny (model X.prog X.w) X.A (call (.type "list") [.ref z]) (EP X g σ Q) E s:=by
 refine callType_codes (Q₁:=fun aa s₁=>aa=.ref s.heap.objs.size/\s₁={ s with heap:=s.heap.push { cls:=.type "list",data:=.seq #[] } }) F.called_list (F.typeCall_list_1 _) F.entry_list_init (code_list_new _ ⟨rfl,rfl⟩) fun aa s₁ h₁=>?_
 obtain⟨rfl,rfl⟩:=h₁;have U:(s.heap.push { cls:=.type "list",data:=.seq #[] }).get? s.heap.objs.size=some { cls:=.type "list",data:=.seq #[] }:=qv _ rfl;have fS:H s.heap.objs.size=none:=I.hok.fresh (zy _);have ae:jF X g H s.heap.objs.size:=I.fpOk (zy _) fS;have lt:∀b∈[z,TI,TO,G,J],b<s.heap.objs.size:=fun b hb=>by
  obtain⟨a,b',qq⟩:=Z.to;obtain⟨o1,e1,_⟩:=Z.r1.obj;obtain⟨o2,e2,_⟩:=Z.r2.obj;simp at hb;rcases hb with r | r | r | r | r
  ·rw[r];exact zA Z.zz
  ·rw[r];exact zA Z.ti
  ·rw[r];exact zA qq
  ·rw[r];exact zA e1
  ·rw[r];exact zA e2
 have nS:s.heap.objs.size∉[z,TI,TO,G,J]:=fun h=>xh _ (lt _ h)
 have w:∀b o,s.heap.get? b=some o->(s.heap.push { cls:=.type "list",data:=.seq #[] }).get? b=some o:=fun b o e=>zI _ e
 have L:∀b o,s.heap.get? b=some o->s.heap.objs.size≠b:=fun b o e=>vg (zA e)
 refine⟨⟨_,U,rfl⟩,F.args_list_init_2 _ _,?_⟩
 generalize s.heap.push { cls:=.type "list",data:=.seq #[] }=h1 at U w;generalize eS:s.heap.objs.size=S at *
 show wpAny _ X.A.in1.in1 (do let ai<-Builtin.List.listItems (.ref S);Builtin.List.listUpdate (.ref S) (fun _=>#[]);letGo ai.toList.reverse;Builtin.List.listExtendWith (.ref S) (.ref z) .none) _ _ _
 refine zd ?_
 unfold Builtin.List.listItems;refine zd (xi U rfl (zp ?_))
 show wpAny _ _ (updateSeq S (fun _=>#[]) >>= fun _=>letGo (#[]:Array Value).toList.reverse >>= fun _=>Builtin.List.listExtendWith (.ref S) (.ref z) .none) _ _ _
 refine zd (wU U rfl ?_)
 have B:=xP (Obj.mapSeq (fun _=>(#[]:Array Value))) U rfl
 have i:∀b o,s.heap.get? b=some o->(h1.update S (Obj.mapSeq (fun _=>(#[]:Array Value)))).get? b=some o:=fun b o e=>(vY _ _ (L b o e)).trans (w b o e)
 generalize h1.update S (Obj.mapSeq (fun _=>(#[]:Array Value)))=O at B i
 refine zd (v0 ?_)
 have ac:IsZip O z TI TO .none:=i _ _ Z.zz;have C:Shared.TypeIs { s with heap:=O } (.ref z) "zip" :=⟨_,ac,rfl⟩;unfold Builtin.List.listExtendWith;refine zd (wb C ?_)
 have nz:S≠z:=fun e=>nS (by rw[e];simp)
 have g1:Builtin.List.listSameRef (.ref S) (.ref z)=false:=by simp[Builtin.List.listSameRef,nz]
 have g2:(Value.type "zip" == Value.type "list")=false:=by decide
 have g3:(Value.type "zip" == Value.type "tuple")=false:=by decide
 simp only[g1,g2,g3,Bool.or_false,qW,if_false];refine zd (wpAny_pyIter_zip ac ?_)
 refine zd (je ?_)
 unfold Builtin.List.listLengthHint;refine zd (wpAny_specialOf C VI ?_)
 show wpAny _ _ (specialOf (Value.ref z) (Str.ofString "__length_hint__") >>= _) _ _ _;refine zd (wpAny_specialOf C XH ?_)
 refine zp ?_
 show wpAny _ _ (rule "list.extend.makes-room" >>= fun _=>Builtin.List.listTouch (.ref S) >>= fun _=>again (.builtin "list.extend.loop" ⟨[.ref S,.ref z,.none],[]⟩)) _ _ _
 refine zd (xp ?_)
 refine zd ?_
 show wpAny _ _ (updateSeq S (·.push .none) >>= fun _=>updateSeq S (·.pop)) _ _ _
 refine zd (wU B rfl ?_)
 have Y:=xP (Obj.mapSeq (·.push Value.none)) B rfl
 have ab:∀b o,s.heap.get? b=some o->(O.update S (Obj.mapSeq (·.push Value.none))).get? b=some o:=fun b o e=>(vY _ _ (L b o e)).trans (i b o e)
 refine wU (hz:=by seq_fits) Y rfl ?_
 have a0:=xP (Obj.mapSeq (·.pop)) Y rfl
 have c:∀b o,s.heap.get? b=some o->((O.update S (Obj.mapSeq (·.push Value.none))).update S (Obj.mapSeq (·.pop))).get? b=some o:=fun b o e=>(vY _ _ (L b o e)).trans (ab b o e)
 generalize (O.update S (Obj.mapSeq (·.push Value.none))).update S (Obj.mapSeq (·.pop))=h4 at a0 c
 have I4:Inv X g σ H { s with heap:=h4 }:=I.kept (t':=s.toks) c;have Z4:Zl k1 k2 h4 z TI TO G J a1 a2 0:=by
  obtain⟨a,b,qq⟩:=Z.to;exact⟨c _ _ Z.zz,c _ _ Z.ti,⟨a,b,c _ _ qq⟩,Z.r1.at fun o e=>c _ o e,Z.r2.at fun o e=>c _ o e⟩
 refine zp ⟨plainId_quiet Xo _,zdt (A:=X.A.in1) hh N nS ah _ _ [] _ H rfl (qB _) I4 (fun b hb=>?_) (.inl ⟨rfl,Z4⟩) a0 af ag (fun j T e=>by simp at e) fun s' u c' M I' sm f e l t=>?_⟩
 ·rcases(show b∈[z,TI,TO,G,J]\/b=S by simp at hb ⊢;rcases hb with r | r | r | r | r | r<;>simp[r]) with r | r
  ·exact hf b r
  ·rw[r];exact ae
 ·have I5:=I'.track (o:=.lst (u.map V.ref)) f ⟨by rw[zo,l,sizeLine_eq];omega,u.map Value.ref,c',QM u,e⟩
  exact⟨rfl,.ref S,_,I5,rfl,q S u _ (sm.trans (ze f.1)) fS zc l (t.same (ze f.1))⟩
theorem Wa{l m:Expr}{ta:TA}{p C Y c:Pos}(hc:X.calm=true)(hg:Gl X "list")(hm:X.mg "list" = none)(M:Gl X "zip")(O:X.mg "zip" = none)(hv:bootBuiltins "list" = some (.type "list"))(ha:PA X [l,m] ta)
  (hs:starEach [l,m] X.env=[(false,eval l X.env),(false,eval m X.env)]:=by rfl) (B:starEach [m] X.env=[(false,eval m X.env)]:=by rfl)
  (he:starEach [.Call (.Name "zip" C) [l,m] [] c] X.env=[(false,eval (.Call (.Name "zip" C) [l,m] [] c) X.env)]:=by rfl) :
  PE X (.Call (.Name "list" p) [.Call (.Name "zip" C) [l,m] [] c] [] Y) (fun σ H Q=>ta σ H fun vs i=>∃(k1 k2:Bool) (a1 a2:Addr) (E G:List V),vs=[.ref a1,.ref a2]/\SqK X.K k1 i a1 E/\SqK X.K k2 i a2 G/\min E.length G.length<=1000000 /\
   ∀(D:Addr) (L:List Addr) J,Same i J->i D=none->J D=some (.lst (L.map V.ref))->L.length=min E.length G.length->Tups J E G L->Q (.ref D) J):=by
 intro g s σ H Q I h;refine y8 (xE I hg hm hv ?_ (by decide) (by decide))
 refine Zk ?_ he rfl
 rw[he];refine wZ ?_
 refine Call_ (xE I M O boot_zip (Zk (thn (ha c g s σ H _ I h) fun us s1 ⟨vs,i,o,r1,q1⟩=>?_) (by rw[hs,B]) (by rw[B];rfl)))
 obtain⟨k1,k2,a1,a2,E,G,e,w,A,U,q⟩:=q1;subst e;obtain⟨u,u',rfl,ru,a0⟩:=XN r1;cases ru;cases a0;obtain⟨ab,ag,p1,ae⟩:=o.seqK w;obtain⟨ac,ah,C,af⟩:=o.seqK A;refine zba p1 C fun h' Z hk aa=>Qq ?_
 have I2:Inv X g σ i { s1 with heap:=h' }:=o.kept (t':=s1.toks) hk;have N:Qy (s1.heap.objs.size+4) (s1.heap.objs.size+2) (s1.heap.objs.size+3) s1.heap.objs.size (s1.heap.objs.size+1):=by
  constructor<;>(intro e;have e':(_:Nat)=_:=e;omega)
 refine QJ (I.ok.hd hc) N I2 Z (fun b hb=>?_) w A U q
 have t:s1.heap.objs.size<=b:=by
  simp only[zQ,Wz,or_false] at hb;rcases hb with r | r | r | r | r<;>(rw[r];first| exact Nat.le_add_right _ _ | exact zy _)
 exact o.fpOk t (o.hok.fresh t)
theorem vM{K:W.Frag}(h:X.K=K):IxR X (zfs K):=by rw[<- h];exact qo
theorem xL{K:W.Frag}(h:X.K=K):IxR X (zfr K):=by rw[<- h];exact qH
theorem wF{K:W.Frag}(h:X.K=K):CallR X (.builtin "len") (xG K):=by rw[<- h];exact zu
inductive Jn(x:V)(y:V)(H:Hp)(Q:VK):Prop
 | mk (a b:_) (_:x=.bl a) (_:y=.bl b) (_:Q (.bl (!decide (a=b))) H):Jn x y H Q
theorem JG:OpR X (compareOp .IsNot) (Jn):=by
 intro c s σ H x y v u Q I g i h;obtain⟨a,b,rfl,rfl,q⟩:=h;cases g;cases i;refine wpAny_isNot_plain (by cases a<;>cases b<;>rfl) (zU I q ?_)
 cases a<;>cases b<;>rfl
end
section
open AutoSeq1 (wpAny_loadPart')
theorem vK(l:Addr)(i:Array Value)(n:Nat)(t:Option Addr)(E:Array (Option Value)) :
  Meets (Builtin.«enumerate.__new__» ⟨[.type "enumerate",.ref l],[]⟩) (fun _ R s=>s.heap.get? l=some { cls:=.type "tuple",dict:=t,data:=.seq i n,slots:=E } /\
   R (.ok (.ret (.ref (s.heap.push { cls:=.type "tuple_iterator",data:=.fields #[.ref l,.int 0 0] }).objs.size)))
    { s with heap:=(s.heap.push { cls:=.type "tuple_iterator",data:=.fields #[.ref l,.int 0 0] }).push { cls:=.type "enumerate",data:=.fields #[.none,.bool false,.ref s.heap.objs.size,rawInt 0,.none,.none] } }):=
 .of_wp fun C w A R s h=>by
  obtain⟨D,g,d,G,os⟩:=s;obtain⟨o,h⟩:=h
  have B:=sub_enumerate;have u:Heap.IsTuple (Shared.heap ⟨D,g,d,G,os⟩) l i:=⟨_,o,rfl,n,rfl⟩;wp_walk using wpAny_loadPart' o
  refine wpAny_stack_any fun st=>zp ?_
  split
  ·rename_i c _ _ _ _ _
   cases(c==Value.type "enumerate")
   ·wp_walk using wpAny_loadPart' o,wpAny_pyIter_tuple u
    exact⟨_,rfl,h⟩
   ·wp_walk using wpAny_loadPart' o,wpAny_pyIter_tuple u
    exact⟨_,rfl,h⟩
  ·wp_walk using wpAny_loadPart' o,wpAny_pyIter_tuple u
   exact⟨_,rfl,h⟩
end
section
variable{prog:Program}{w:World}{A:Around}{E:Value->Shared->Prop}{s:Shared}
theorem vO{l:Addr}{g:Array Value}{Q:Value->Shared->Prop}(H:s.heap.IsTuple l g)
  (h:∀i,IsEnum i (s.heap.objs.size+1) s.heap.objs.size 0 .none->i.IsTupleIter s.heap.objs.size l 0->i.objs.size=s.heap.objs.size+2 ->
   (∀b o,s.heap.get? b=some o->i.get? b=some o)->Q (.ref (s.heap.objs.size+1)) { s with heap:=i }) :
  wpAny (model prog w) A (call (.type "enumerate") [.ref l]) Q E s:=by
 obtain⟨⟨c,t,G,J⟩,I,hc,n,u⟩:=H;replace hc:c=.type "tuple" :=hc
 replace u:G=.seq g n:=u
 subst hc u;refine callType_new F.called_enumerate (by decide) (F.typeCall_enumerate_1 _) (F.newCall_enumerate_1 _) (fun C=>F.args_object_init_2 C _) F.entry_enumerate_new
  (vK l g n t J) ⟨I,?_⟩
 have B:(s.heap.push { cls:=.type "tuple_iterator",data:=.fields #[.ref l,.int 0 0] }).objs.size=s.heap.objs.size+1:=jD ..;show _/\_;rw[B];have D:IsEnum ((s.heap.push { cls:=.type "tuple_iterator",data:=.fields #[.ref l,.int 0 0] }).push
   { cls:=.type "enumerate",data:=.fields #[.none,.bool false,.ref s.heap.objs.size,rawInt 0,.none,.none] }) (s.heap.objs.size+1) s.heap.objs.size 0 .none:=by
  have:=qv (s.heap.push { cls:=.type "tuple_iterator",data:=.fields #[.ref l,.int 0 0] })
   (o:={ cls:=.type "enumerate",data:=.fields #[.none,.bool false,.ref s.heap.objs.size,rawInt 0,.none,.none] }) rfl
  rw[B] at this;exact this
 refine⟨⟨_,D,rfl⟩,h _ D ⟨_,zI _ (qv _ rfl),rfl,rfl⟩ (by rw[jD,B]) fun b o x=>zI _ (zI _ x)⟩
theorem Draws.tuple{prog:Program}{w:World}{A:Around}(J:A.handled=none)(u l:Addr)(C:l≠u)(c:Array Value) :
  Draws prog w A u [u,l] c.size (fun i v=>c[i]? =some v) (fun i h=>h.IsTupleIter u l i/\h.IsTuple l c) where
 live:=fun _ _ st=>let ⟨o,L,_⟩:=st.1;⟨o,L⟩
 frame:=fun _ _ _ st hk=>⟨ItrK.at (kd:=false) st.1 fun o e=>hk u (by simp) o e,SeqK.at (kd:=false) st.2 fun o e=>hk l (by simp) o e⟩
 item:=fun i s Q E D st I=>by
  refine jI (kd:=false) st.1 st.2 (x:=c[i]) (by simp[D]) fun G g t=>?_
  exact I _ G s.toks (by simp[D]) ⟨g,SeqK.at (kd:=false) st.2 fun o e=>t.extBut l o C e⟩ t
 done:=fun s Q E st H=>xv (kd:=false) J st.1 st.2 (by simp) H
end
def zdq(K:W.Frag)(a:Addr):It:=
 ⟨fun i H=>∃c x,SqT K H a c/\c[i]? =some x,fun i H x g=>∃T y,x=.ref T/\H T=none/\g=upd H T (.tup [.int i,y])/\∀c,SqT K H a c->c[i]? =some y,fun i H=>∃c,SqT K H a c/\c.length<=i⟩
theorem VR{P:Program}{w:World}{K:W.Frag}{N:List Expr}{kk:Nat}{aj:Pos}(a e l:Addr)(G:e≠l) :
  QA P w K (.Tuple N kk aj) (zdq K a) [e,l] e (fun i h=>(∃C,IsEnum h e l i C)/\h.IsTupleIter l a i) where
 mem:=by simp
 obj:=fun i h st b hb=>by
  obtain⟨⟨C,t⟩,⟨o,ho,c,d⟩⟩:=st;rcases zQ.mp hb with z | z
  ·subst z;exact⟨_,t,fun v q=>nomatch q⟩
  ·rw[zP.mp z];exact⟨o,ho,fun v q=>by rw[d] at q;cases q⟩
 keep:=fun i h h' st k=>by
  obtain⟨⟨C,t⟩,hi⟩:=st;exact⟨⟨C,k e (by simp) _ t⟩,ItrK.at (kd:=false) hi fun o q=>k l (by simp) o q⟩
 item:=by
  intro X hP hw hK hc i Y s σ H E I hf st hg;subst hP hw hK;obtain⟨⟨C,t⟩,B⟩:=st;obtain⟨xs,x,hq,hx⟩:=hg;obtain⟨g,rv,p,hz⟩:=I.tuple hq;obtain⟨u,hu,ru⟩:=rv.get hx;have M:s.heap.IsTuple a g.toArray:=p;have O:a≠l:=fun z=>by
   obtain⟨o,e1,c1,_⟩:=M;obtain⟨o',e2,c2,_⟩:=B;rw[z,e2] at e1;cases e1;rw[c2] at c1;exact absurd (wf c1) (by decide)
  have aa:e≠a:=fun z=>by
   obtain⟨o,e1,c1,_⟩:=M;rw[<- z,t] at e1;cases e1;exact absurd (wf c1) (by decide)
  have D:=Draws.tuple (prog:=X.prog) (w:=X.w) (A:=X.A.in1) (I.ok.hd hc) l a O g.toArray;have hi:i<g.toArray.size:=by
   have h1:=(zK.mp hu).1;simpa using h1
  refine wpAny_pyNext_enum_itemD D t ⟨B,M⟩ hi G (by simp[G,aa]) fun x' h' tk a0 Q U hT am hk=>?_
  have ex:x'=u:=by
   have L:g[i]? =some x':=by simpa using a0
   rw[hu] at L;exact(jq L).symm
  subst ex;refine⟨_,rfl,wpAny_letOwnedTupleGo_enum Q fun L af J=>?_⟩
  have eT:s.heap.objs.size≠e:=vg (zA t);have k2:∀b o,b∉[e,l]->s.heap.get? b=some o->L.get? b=some o:=fun b o hb q=>by
   have n1:b≠e:=fun z=>hb (by simp[z])
   have n2:b≠l:=fun z=>hb (by simp[z])
   exact(J.2 b n1).trans (hk b o n1 n2 q)
  have ai:L.IsTupleIter l a (i+1):=ItrK.at (kd:=false) U.1 fun o q=>J.extBut l o (zN G) q
  refine⟨.ref s.heap.objs.size,upd H s.heap.objs.size (.tup [.int i,x]),?_,rfl,⟨_,x,rfl,I.hok.fresh (zy _),rfl,fun ys hy=>by rw[I.tuple_inj hy hq];exact hx⟩,⟨⟨_,by simpa using af⟩,ai⟩,fun b hb=>?_⟩
  ·refine JM (s:=s) (h':=L) (t':=tk+1) (its:=[.int i tk,x']) I hf (zy _) k2 (by rw[sizeLine_eq];exact(by decide:2<=16777216)) (.cons ⟨tk,rfl⟩ (.cons ru .nil)) (TupX.by ((J.2 _ eT).trans hT))
  ·have ab:b<s.heap.objs.size:=by
    rcases zQ.mp hb with z | z
    ·rw[z];exact zA t
    ·rw[zP.mp z]
     obtain⟨o',e',_⟩:=B;exact zA e'
   rw[zk (zS ab)];exact(hf b hb).1
 done:=by
  intro X hP hw hK hc i Y s σ H E I hf st hg;subst hP hw hK;obtain⟨⟨C,t⟩,B⟩:=st;obtain⟨xs,hq,hx⟩:=hg;obtain⟨g,rv,p,hz⟩:=I.tuple hq;have M:s.heap.IsTuple a g.toArray:=p;have O:a≠l:=fun z=>by
   obtain⟨o,e1,c1,_⟩:=M;obtain⟨o',e2,c2,_⟩:=B;rw[z,e2] at e1;cases e1;rw[c2] at c1;exact absurd (wf c1) (by decide)
  obtain⟨f0,f1,f2,f3,f4,f5⟩:=hf l (by simp)
  have ag:g.toArray.size<=i:=by
   have:=rv.length;simp only[zZ];omega
  have hT:s.TypeIs (.ref e) "enumerate" :=⟨_,t,rfl⟩;unfold pyNext;refine zd (vv (vC (name:=Str.ofString "__next__") hT Xu (xq Xu hT F.entry_enumerate_next ?_ (F.args_enumerate_next_1 _))))
  show wpAny _ _ (field (.ref e) 2 >>= _) _ _ _;refine zd (jm t rfl (x:=.ref l) rfl (zd (xv (kd:=false) (I.ok.hd hc) B M (by simpa using ag) fun h' x ae ah=>?_)))
  obtain⟨o,ho,ac⟩:=ah;refine zd (vV (T:= "StopIteration") (b:=true) ⟨o,ho,ac⟩ isSubtype_stop ?_)
  exact zp ⟨rfl,I.turned (t':=s.toks) (fun b o hb q=>ae b o hb q) f0 f1 f3 f4 f5⟩
 self:=fun _ _ _ _ _ st h=>let ⟨⟨_,t⟩,_⟩:=st;wpAny_pyIter_enum t h
section
variable{X:Cx}
def zf8(K:W.Frag)(g:TA):TI:=fun σ H R=>g σ H fun i c=>∃a,i=[.ref a]/\(∃l,SqT K c a l)/\R (zdq K a) c
theorem zca{l:Expr}{B:TA}{p o tp:Pos}{g:List Expr}{Q:Nat}(G:Gl X "enumerate")(L:X.mg "enumerate" = none)(E:PA X [l] B)(M:starEach [l] X.env=[(false,eval l X.env)]:=by rfl) :
  PI X (.Tuple g Q tp) (.Call (.Name "enumerate" p) [l] [] o) (zf8 X.K B):=by
 intro c s σ H R I h;refine Call_ (xE I G L boot_enumerate (Zk (thn (E o c s σ H _ I h) fun us s1 ⟨vs,w,t,r1,Y⟩=>?_) M rfl))
 obtain⟨a,e,⟨xs,hq⟩,q⟩:=Y;subst e;obtain⟨u,rfl,ru⟩:=vG r1;cases ru;obtain⟨O,rv,U,hz⟩:=t.tuple hq;refine vO U fun D A J N hk=>wpAny_pyIter_enum A ?_
 have C:Inv X c σ w { s1 with heap:=D }:=t.kept (t':=s1.toks) hk;refine⟨s1.heap.objs.size+1,[s1.heap.objs.size+1,s1.heap.objs.size],_,_,w,rfl,C,VR a _ _ (Nat.succ_ne_self _),⟨⟨_,A⟩,J⟩,fun b hb=>?_,q⟩
 have i:s1.heap.objs.size<=b:=by
  rcases zQ.mp hb with z | z
  ·rw[z];exact J6 _
  ·rw[zP.mp z];exact zy _
 exact t.fpOk i (t.hok.fresh i)
end
end L2
namespace L2
open PySem PySem.Spec PyProof.Rows
section
variable{c:Program}{w:World}{A:Around}{R:Result->Shared->Prop}{s:Shared}
end
def Sub:St->St->Prop
 | [],[]=>True
 | none::r,_::c=>Sub r c
 | some v::r,x::c=>x=some v/\Sub r c
 | _,_=>False
theorem Sub.len:∀{a b:St},Sub a b->a.length=b.length
 | [],[],_=>rfl
 | [],_::_,h=>h.elim
 | none::_,[],h=>h.elim
 | some _::_,[],h=>h.elim
 | none::r,_::c,h=>by rw[jy,jy,Sub.len (a:=r) (b:=c) h]
 | some _::r,_::c,h=>by rw[jy,jy,Sub.len (a:=r) (b:=c) h.2]
theorem Sub.get:∀{a b:St} {i:Nat} {v:V},Sub a b->a[i]? =some (some v)->b[i]? =some (some v)
 | [],[],_,_,_,e=>e
 | [],_::_,_,_,h,_=>h.elim
 | none::_,[],_,_,h,_=>h.elim
 | some _::_,[],_,_,h,_=>h.elim
 | none::r,_::c,0,v,h,e=>by simp at e
 | none::r,_::c,i+1,v,h,e=>by
  rw[List.getElem?_cons_succ] at e ⊢
  exact Sub.get (a:=r) (b:=c) h e
 | some _::r,_::c,0,v,h,e=>by
  rw[List.getElem?_cons_zero] at e ⊢
  rw[h.1];exact e
 | some _::r,_::c,i+1,v,h,e=>by
  rw[List.getElem?_cons_succ] at e ⊢
  exact Sub.get (a:=r) (b:=c) h.2 e
section
variable{X:Cx}{s A c:Expr}{l:List Expr}{G o:Expr}{t:List Expr}{i:Scope}{u:Pos}{H B:TI}{g C:TG}{E w:TT}{D:TE}
end
section
variable{X:Cx}
theorem Vr:∀{g:List Int} {c:List Value},Vals (g.map V.int) c->IntsAre c g
 | [],c,h=>by cases h;exact .nil
 | n::g,c,h=>by
  cases h with
  | cons r q=>
   obtain⟨t,rfl⟩:=r;exact .cons n t (Vr q)
end
theorem zcG{K:W.Frag}{a:Addr}{xs:List V}{g:TG}{G:TT}{E:TE}{u:St}{n:Nat}{R:List V->Hp->Prop}{H:Hp}(Pv:Nat->List V->Hp->Prop)(I:Pv 0 [] H)
  (J:∀i c H,Pv i c H->SqT K H a xs)
  (O:∀i x c H T,xs[i]? =some x->Pv i c H->H T=none->g (.ref T) u (upd H T (.tup [.int i,x])) fun o B=>o.drop n=u.drop n/\G o B fun b s=>
   if b=true then E o s fun v C=>c.length<sizeLine/\Pv (i+1) (c++[v]) C else Pv (i+1) c s)
  (M:∀c H,Pv xs.length c H->c.length<=sizeLine/\R c H) :
  ∃W:Nat->Nat->List V->Hp->Prop,(∃m,W 0 m [] H)/\∀i m c l,W i m c l ->
   ((zdq K a).stop i l/\c.length<=sizeLine/\R c l) \/
   ((zdq K a).go i l/\∃N:List V->Hp->Prop,(∀c w,N c w->∃D,D<m/\W (i+1) D c w)/\∀x A,(zdq K a).yld i l x A->g x u A fun o B=>o.drop n=u.drop n/\G o B fun b s=>
    if b=true then E o s fun y C=>c.length<sizeLine/\N (c++[y]) C else N c s):=by
 refine⟨fun i m c l=>m=xs.length-i/\i<=xs.length/\Pv i c l,⟨_,rfl,qB _,I⟩,?_⟩
 rintro i m c l ⟨rfl,hi,p⟩;have q:=J i c l p;by_cases t:i<xs.length
 ·refine .inr ⟨⟨xs,xs[i],q,by simp[t]⟩,Pv (i+1),fun a0 w Q=>⟨_,by omega,rfl,t,Q⟩,fun x A y=>?_⟩
  obtain⟨T,z,e1,L,e2,y⟩:=y;subst e1 e2;exact O i z c l T (y xs q) p L
 ·have e:i=xs.length:=by omega
  subst e;obtain⟨U,Y⟩:=M c l p;exact .inl ⟨⟨xs,q,zy _⟩,U,Y⟩
section
variable{X:Cx}{o c:Expr}{i:List Expr}{l:Expr}{s:List Expr}{g:Scope}{u:Pos}{L B:TI}{I w:TT}{H:TE}{x y z:Str}{D E G J A:Pos}{C t:Nat}
end
section
variable{X:Cx}
def tLT(K:W.Frag)(t:TE):TT:=fun σ H Q=>t σ H fun x c=>∃a g,x=.ref a/\SqL K c a g/\Q (!g.isEmpty) c
theorem zdI{e:Expr}{t:TE}(h:PE X e t)(A:∀c,isTrue e X.env c=(do let v<-c;standAt e.pos;holding [v] (truthy v)):=by intro _;rfl):PT X e (tLT X.K t):=by
 intro g s σ H Q I C;refine isTrue_plain (thn (h g s σ H _ I C) fun v s1 ⟨x,u,i,J,G⟩=>?_) (A _)
 obtain⟨a,w,rfl,hq,q⟩:=G;cases(show v=_ from J)
 obtain⟨l,o,E,D⟩:=i.list hq;have B:=o.length;refine wpAny_truthy_list E.isList (by rw[zZ,<- B];rw[sizeLine_eq] at D;omega) ?_
 have e:(!w.isEmpty)=(!l.toArray.isEmpty):=by
  cases w with
  | nil=>cases o;rfl
  | cons y L=>cases o;rfl
 first
  | exact⟨u,i.tok _,by rw[e] at q;simpa using q⟩
  | exact⟨u,i,by rw[e] at q;simpa using q⟩
end
section
variable{X:Cx}{s B c:Expr}{l:List Expr}{M o:Expr}{t:List Expr}{i:Scope}{w:Pos}{O D:TI}{g E:TG}{L A:TT}{J:TE}{x z:Str}{H I N C:Pos}{G u:Nat}
end
def Jf:Nat->List Obj->PySem.W.Frag
 | _,[]=>[]
 | n,o::r=>match o.data with
  | .freed=>Jf (n+1) r
  | _=>(n,o)::Jf (n+1) r
def JP(h:Heap):PySem.W.Frag:=Jf 0 h.objs.toList
theorem Vt:∀{l:List Obj} {n a:Nat} {o:Obj},(Jf n l).lookup a=some o->n<=a/\l[a-n]? =some o/\o.data≠.freed
 | [],n,a,o,h=>by cases h
 | x::r,n,a,o,h=>by
  have c:(Jf (n+1) r).lookup a=some o->n<=a/\(x::r)[a-n]? =some o/\o.data≠.freed:=fun h=>by
   obtain⟨t,g,i⟩:=Vt h;refine⟨by omega,?_,i⟩
   rw[show a-n=(a-(n+1))+1 by omega];exact g
  unfold Jf at h;split at h
  ·exact c h
  ·rename_i s
   rw[xF] at h;split at h
   ·rename_i e
    cases h;have:=jZ.mp e;subst this;exact⟨zy _,by simp,s⟩
   ·exact c h
theorem za3(h:Heap):(JP h).In h:=fun a o e=>by
 obtain⟨_,g,l⟩:=Vt e;have g:h.objs[a]? =some o:=by simpa using g
 unfold Heap.get?;rw[g];obtain⟨c,d,i,s⟩:=o;cases i<;>first| rfl | exact absurd rfl l
inductive Fd(K:W.Frag)(c:Str)(st:Stmt):Prop
 | mk (f:Addr) (g:FuncData) (a:PySem.W.nsIn K mainGlobals c=some (some (.ref f))) (F:Fun K c c st f g):Fd K c st
def zhg:Value->Bool
 | .none=>true
 | _=>false
def JS(K:W.Frag)(g:Str):Option (Arguments×FuncBody×Scope×Bool):=match PySem.W.nsIn K mainGlobals g with
 | some (some (.ref f))=>(match K.lookup f with
  | some ⟨_,_,.func c,_⟩=>some (c.params,c.body,c.scope,c.name==g&&(c.qualname==g&&(c.globals==mainGlobals&&(c.closure.isEmpty&&(zhg c.defaults&&(c.builtins==builtinsNs&&PySem.W.codeIn K c.code g))))))
  | _=>none)
 | _=>none
def Y3(st:Stmt):Option (Arguments×FuncBody×Scope×Bool):=some (yu st,.stmts (wy st),zv st,true)
theorem zhn{K:W.Frag}{C:Str}{st:Stmt}(e:JS K C=Y3 st):Fd K C st:=by
 unfold JS Y3 at e;split at e
 ·rename_i f G
  split at e
  ·rename_i c d E sl A
   simp only[Qo,Xa,jx] at e;obtain⟨e1,e2,w,g,i,l,o,s,t,B⟩:=e;obtain⟨H,Y,Q,J,sc,N,M,u,O,D,U,I,L,ct,bl⟩:=E;dsimp only at e1 e2 w g i l o s t B;have g:=jZ.mp g;have i:=jZ.mp i;have l:=jZ.mp l;have o:=List.isEmpty_iff.mp o;have t:=jZ.mp t;have s:u=.none:=by cases u<;>first| rfl | exact Bool.noConfusion s
   subst e1 e2 w g i l o s t;exact⟨f,_,G,⟨⟨_,_,_,_,_,_,_,_,_,rfl,A,B⟩,by unfold PySem.W.keepIn;dsimp only;rw[A]⟩⟩
  ·cases e
 ·cases e
theorem zga{K:W.Frag}{l:List (Str×Stmt)}(e:l.map (fun x=>JS K x.1)=l.map fun x=>Y3 x.2)(i:Nat){c:Str}{st:Stmt}(h:l[i]? =some (c,st)):Fd K c st:=by
 have:=congrArg (fun z=>z[i]?) e
 simp only[zY,h,wH,Qo] at this;exact zhn this
theorem zen{K:W.Frag}{l:List Str}(e:l.map (fun x=>PySem.W.nsIn K mainGlobals x)=l.map fun _=>some none){x:Str}(i:Nat)(h:l[i]? =some x):PySem.W.nsIn K mainGlobals x=some none:=by
 have:=congrArg (fun z=>z[i]?) e
 simpa only[zY,h,wH,Qo] using this
def zdv:List Value->Option (List Str)
 | []=>some []
 | .str x _::r=>(zdv r).map (x:: ·)
 | _=>none
def VN(K:W.Frag)(g:Str):Option (List Str×Bool):=match PySem.W.nsIn K mainGlobals g with
 | some (some (.ref a))=>(match K.lookup a with
  | some ⟨.type t,_,.seq c _,_⟩=>(zdv c.toList).map fun l=>(l,t == "tuple" && decide (c.size<=1000))
  | _=>none)
 | _=>none
theorem QQ:∀{c:List Value} {l:List Str},zdv c=some l->Vals (l.map V.str) c
 | [],l,h=>by cases h;exact .nil
 | v::r,l,h=>by
  cases v<;>first| (cases h;done) | skip
  simp only[zdv] at h;obtain⟨i,g,rfl⟩:=z9.mp h;exact .cons ⟨_,rfl⟩ (QQ g)
theorem zgo{K:W.Frag}{i:Str}{l:List Str}(e:VN K i=some (l,true)):∃a:Addr,PySem.W.nsIn K mainGlobals i=some (some (.ref a))/\∀H,SqT K H a (l.map V.str):=by
 unfold VN at e;split at e
 ·rename_i a u
  split at e
  ·rename_i t _ C n B w
   obtain⟨A,o,g⟩:=z9.mp e;simp only[Xa,jx,decide_eq_true_eq] at g;obtain⟨rfl,c,s⟩:=g;have c:=jZ.mp c;subst c;exact⟨a,u,fun H=>.inr ⟨_,_,_,w,rfl,rfl,wT (zaB s),QQ o⟩⟩
  ·cases e
 ·cases e
def zfZ(g:List (Str×Stmt))(c:List Str)(i:List (Str×List Str))(K:W.Frag):List (Option (Arguments×FuncBody×Scope×Bool))×List (Option (Option Value))×List (Option (List Str×Bool)):=
 (g.map fun x=>JS K x.1,c.map fun x=>PySem.W.nsIn K mainGlobals x,i.map fun x=>VN K x.1)
def zgd(g:List (Str×Stmt))(c:List Str)(i:List (Str×List Str)):List (Option (Arguments×FuncBody×Scope×Bool))×List (Option (Option Value))×List (Option (List Str×Bool)):=
 (g.map fun x=>Y3 x.2,c.map fun _=>some none,i.map fun x=>some (x.2,true))
def zge(s:Stmt):Pos:=match s with
 | .FunctionDef _ _ _ _ _ _ _ _ _ p=>p
 | _=>⟨0,0,0,0⟩
def defRec(x:Str)(s:Stmt):DefRec:=⟨x,yu s,wy s,zv s,zge s⟩
structure Tp(P:Program)(w:World)(K:W.Frag)(mg:Str->Option Value)(base h:Heap)(ds:List (Str×Stmt))(bs:List Str)(ts:List (Str×List Str)):Prop where
 x:K.In h
 g:h.Ns mainGlobals mg
 e:zfZ ds bs ts K=zgd ds bs ts
section
variable{P:Program}{w:World}{K:W.Frag}{g:Str->Option Value}{c h:Heap}{o:List (Str×Stmt)}{s:List Str}{t:List (Str×List Str)}
theorem Tp.fd(Z:Tp P w K g c h o s t)(i:Nat){l:Str}{st:Stmt}(u:o[i]? =some (l,st)):Fd K l st:=zga (congrArg Prod.fst Z.e) i u
theorem Tp.bl(Z:Tp P w K g c h o s t)(i:Nat){x:Str}(l:s[i]? =some x):g x=none:=PySem.W.mg_none_of Z.x Z.g (zen (congrArg (fun z=>z.2.1) Z.e) i l)
theorem Tp.tx(Z:Tp P w K g c h o s t)(i:Nat){x:Str}{l:List Str}(B:t[i]? =some (x,l)):∃a:Addr,g x=some (.ref a)/\∀H,SqT K H a (l.map V.str):=by
 have:=congrArg (fun z=>z.2.2[i]?) Z.e
 simp only[zfZ,zgd,zY,B,wH,Qo] at this;obtain⟨a,u,A⟩:=zgo this;exact⟨a,Qk Z.x Z.g u,A⟩
theorem Tp.dfn(Z:Tp P w K g c h o s t)(i:Nat){u:Str}{st:Stmt}{k:Nat}{A:List Str}{E:Sp}(H:o[i]? =some (u,st))
  (ok:∀f fd,Fun K u u st f fd->g u=some (.ref f)->Binds K fd A []->FnOk P w K g c CX0 k f fd A E)
  (hb:∀(kV D I:Value) (G:Option Addr) (C ct:Value) (B:List Value),B.length=A.length->bindArgs (PySem.W.fnOf u u (yu st) (wy st) (zv st) .none kV D I G C ct) ⟨B,[]⟩=pure (A.zip B):=by
   intro _ _ _ _ _ _ B l;first| (obtain⟨_,rfl⟩:=zhe l;rfl) | (obtain⟨_,_,rfl⟩:=zhd l;rfl) | (obtain⟨_,_,_,rfl⟩:=zhc l;rfl) | (obtain⟨_,_,_,_,rfl⟩:=zhb l;rfl) | (obtain⟨_,_,_,_,_,rfl⟩:=zha l;rfl) | (obtain⟨_,_,_,_,_,_,rfl⟩:=zg9 l;rfl) | (exact match B,l with | [],_=>rfl)) :
  Dfn P w K g c u k A E:=by
 obtain⟨f,fd,a,F⟩:=Z.fd i H;have b:=F.binds hb;have m:=Qk Z.x Z.g a;exact⟨f,fd,ok f fd F m b,m,F.kp,b⟩
end
inductive Seen{β:Type}(f:PySem.W.Frag->β)(v:β)(w:World)(h:Heap):Prop
 | mk (K:W.Frag) (k:K.In h) (e:f K=v):Seen f v w h
theorem Seen.keeps{β:Type}{f:PySem.W.Frag->β}{v:β}(w:World)(h c:Heap)(s:Seen f v w h)(k:∀b o,h.get? b=some o->c.get? b=some o):Seen f v w c:=by
 obtain⟨K,x,e⟩:=s;exact⟨K,x.keeps k,e⟩
theorem walkS{l:PySem.W.OpenLaw}{n k:Nat}{q:Program}{t:List Str}{Q:(Str->Option Value)->Heap->Prop}{β:Type}{f:PySem.W.Frag->β}{v:β}{d:DefRec}{sp:PySem.W.Frag->Sp}{x:Str}
  (hn:l.most=some n) (L:n<=sizeLine) (I:d.params.defaults=[]) (hr:Room k callerA)
  (F:∀(w:World) (A:Str->Option Value) (C:Addr) (K:W.Frag) (h:Heap),K.In h->f K=v->h.Ns mainGlobals A->A d.name=some (.ref C) ->
   ∃E:FuncData,(∀(s:Shared) (u:Value),BindsTo s E ⟨[u],[]⟩ [(x,u)]) /\
    ∀c:Heap,K.In c->c.Ns mainGlobals A->FnOk l.prog w K A c CX0 k C E [x] (sp K))
  (M:∀(K:W.Frag) (H:Hp) (a:Addr) (D:List Int),D.length<=n->zev H->SqL K H a (D.map V.int)->sp K [.ref a] H (fun v _=>v=.bl true) fun _ _ _=>False) :
  PySem.W.WalkO q t Q (Seen f v) l.row.toRowW d [] (fun f O=>PySem.call f O):=by
 refine Att.attach_call hn I fun w s₀ s₁ A mb C o pm cd U a O D G Y ho hd a0 J B i g hg=>?_
 obtain⟨K,N,e⟩:=Y;obtain⟨E,hb,hF⟩:=F w A C K _ N e G.T.g J;exact Vp N G.T.g G.T.b G.T.builtins G.T.nolimit hg B i (zX g L) hr hF hb (fun H hO hS=>M K H a D g hO hS) fun H e s' z=>z
theorem ownHead{l:PySem.W.OpenLaw}{q:Program}{c:List Str}{β:Type}{f:PySem.W.Frag->β}{v:β}{d:DefRec}(N:Nat)
  (i:l.wellSaid=true)
  (left:∀w,(PySem.W.openEnds treeTable l.prog w N).map (fun s=>(PySem.W.openSeen q c (importedModules l.prog.main.body) (fun _=>true) true s,f (JP s.heap)))=some (PySem.W.openGood q c,v))
  (g:PySem.W.defOf q l.name=some (d,[])) (o:l.prog.theDef l.name=some (d.params,d.body,d.scope)) (hk:PySem.W.kwWritten? d.params.kwonlyargs d.params.kw_defaults=some [])
  (ok:(PySem.W.chainsOk q&&PySem.W.opensWell l.prog&&(PySem.W.frees l.row.toRowW&&l.row.within.isEmpty))=true) (hb:l.prog.bare) (t:l.row.toRowW.promised)
  (call:PySem.W.WalkO q c (fun _ _=>True) (Seen f v) l.row.toRowW d [] fun f A=>PySem.call f A):l.Holds:=
 PySem.W.holds_law i fun u=>PySem.W.holds_open (r:=l.row) (Yf:=fun s=>f (JP s.heap)) (Ya:=fun _=>v) left (fun _ s e=>⟨_,za3 s.heap,e⟩) Seen.keeps (fun _ _=>trivial) (fun _ _ _ _ _=>trivial) g o hk (fun _ _=>PySem.W.recFacts_nil rfl) (Bool.or_true _) u ok hb t call
def yR(K:W.Frag)(c:Str):Option (Sum Int Str):=match PySem.W.nsIn K mainGlobals c with
 | some (some (.int i _))=>some (.inl i)
 | some (some (.str s _))=>some (.inr s)
 | _=>none
theorem zgi{K:W.Frag}{c:Str}{i:Int}(e:yR K c=some (.inl i)):∃t,PySem.W.nsIn K mainGlobals c=some (some (.int i t)):=by
 unfold yR at e;split at e
 ·rename_i t h
  cases e;exact⟨t,h⟩
 ·cases e
 ·cases e
theorem zgh{K:W.Frag}{c:Str}{s:Str}(e:yR K c=some (.inr s)):∃t,PySem.W.nsIn K mainGlobals c=some (some (.str s t)):=by
 unfold yR at e;split at e
 ·cases e
 ·rename_i t h
  cases e;exact⟨t,h⟩
 ·cases e
def zaU(i:List (Str×Stmt))(c:List Str)(l:List (Str×List Str))(g:List (Str×Sum Int Str))(K:W.Frag):=(zfZ i c l K,g.map fun x=>yR K x.1)
def za5(i:List (Str×Stmt))(c:List Str)(l:List (Str×List Str))(g:List (Str×Sum Int Str)):(List (Option (Arguments×FuncBody×Scope×Bool))×List (Option (Option Value))×List (Option (List Str×Bool)))×List (Option (Sum Int Str)):=(zgd i c l,g.map fun x=>some x.2)
section
variable{K:W.Frag}{w:Str->Option Value}{h:Heap}{o:List (Str×Stmt)}{l:List Str}{u:List (Str×List Str)}{g:List (Str×Sum Int Str)}
theorem zfc(e:zaU o l u g K=za5 o l u g)(i:Nat){x:Str}{c:Sum Int Str}(s:g[i]? =some (x,c)):yR K x=some c:=by
 have:=congrArg (fun z=>z.2[i]?) e
 simpa only[zaU,za5,zY,s,wH,Qo] using this
theorem cnI(X:K.In h)(G:h.Ns mainGlobals w)(e:zaU o l u g K=za5 o l u g)(i:Nat){x:Str}{n:Int}(c:g[i]? =some (x,.inl n)):∃t,w x=some (.int n t):=
 let ⟨t,s⟩:=zgi (zfc e i c)
 ⟨t,Qk X G s⟩
theorem cnS(X:K.In h)(G:h.Ns mainGlobals w)(e:zaU o l u g K=za5 o l u g)(i:Nat){x s:Str}(c:g[i]? =some (x,.inr s)):∃t,w x=some (.str s t):=
 let ⟨t,A⟩:=zgh (zfc e i c)
 ⟨t,Qk X G A⟩
end
def topL(i:Nat):Stmt:=PySem.Challenge.pw_pickboard_k08_whole_parts_numbered_other.main.body.getD i (.Pass ⟨0,0,0,0⟩)
structure Blt(mg:Str->Option Value):Prop where
 abs:mg "abs" = none
 all:mg "all" = none
 divmod:mg "divmod" = none
 enumerate:mg "enumerate" = none
 int:mg "int" = none
 isinstance:mg "isinstance" = none
 len:mg "len" = none
 list:mg "list" = none
 max:mg "max" = none
 min:mg "min" = none
 range:mg "range" = none
 str:mg "str" = none
 tuple:mg "tuple" = none
 bool:mg "bool" = none
 zip:mg "zip" = none
 sum:mg "sum" = none
 any:mg "any" = none
 repr:mg "repr" = none
 sorted:mg "sorted" = none
 dict:mg "dict" = none
 set:mg "set" = none
theorem VC:bootBuiltins "abs" = some (.builtin "abs"):=by decide +kernel
theorem zc1:bootBuiltins "max" = some (.builtin "max"):=by decide +kernel
theorem zc0:bootBuiltins "min" = some (.builtin "min"):=by decide +kernel
theorem VB:bootBuiltins "divmod" = some (.builtin "divmod"):=by decide +kernel
theorem Qd:bootBuiltins "int" = some (.type "int"):=by decide +kernel
theorem qV:bootBuiltins "list" = some (.type "list"):=by decide +kernel
theorem qY:bootBuiltins "tuple" = some (.type "tuple"):=by decide +kernel
theorem zcY:bootBuiltins "str" = some (.type "str"):=by decide +kernel
theorem zbi:bootBuiltins "bool" = some (.type "bool"):=by decide +kernel
theorem xg:bootBuiltins "sorted" = some (.builtin "sorted"):=by decide +kernel
theorem zcZ:bootBuiltins "set" = some (.type "set"):=by decide +kernel
theorem zbh:bootBuiltins "dict" = some (.type "dict"):=by decide +kernel
def zbn(i:Int):Int:=if i<0 then -i else i
def zaF:Str:= "abcdefghijklmnopqrstuvwxyz"
def Zv(c:Nat):Bool:=decide (97<=c)&&decide (c<=122)
theorem Vn:zaF.cps.toList=List.range' 97 26:=by decide +kernel
def Wn:List (Str×Stmt):=[(("is_number":Str),topL 4),(("is_number_within":Str),topL 5),(("is_name":Str),topL 6),(("is_place":Str),topL 7),(("is_tuple_of":Str),topL 14),(("is_tuple_upto":Str),topL 15),(("is_feeder":Str),topL 16),(("are_feeders":Str),topL 17),(("is_part":Str),topL 18),(("are_parts":Str),topL 19),(("is_ahead":Str),topL 20),(("are_aheads":Str),topL 21),(("is_job":Str),topL 22),(("turned":Str),topL 23),(("next_by":Str),topL 24),(("steps_from":Str),topL 25),(("nearest_of":Str),topL 26),(("ring_by":Str),topL 27),(("ring_in":Str),topL 28),(("all_from":Str),topL 29),(("ahead_of":Str),topL 30),(("behind_of":Str),topL 31),(("feeders_for":Str),topL 32),(("wanted_of":Str),topL 33),(("is_stocked":Str),topL 34),(("_law_box":Str),topL 36),(("_law_take":Str),topL 37),(("_law_folded":Str),topL 38),(("_law_spelled":Str),topL 39),(("_law_name":Str),topL 40),(("_law_names":Str),topL 41),(("_law_place":Str),topL 42),(("_law_places":Str),topL 43),(("_law_shuffled":Str),topL 44),(("_law_feeders":Str),topL 45),(("_law_aheads":Str),topL 46),(("_law_job":Str),topL 47),(("_law_turned":Str),topL 48),(("_law_turned_right":Str),topL 49),(("_law_back_right":Str),topL 50),(("_law_right":Str),topL 51),(("law":Str),topL 52)]
def zbj:List Str:=[("abs":Str),("all":Str),("divmod":Str),("enumerate":Str),("int":Str),("isinstance":Str),("len":Str),("list":Str),("max":Str),("min":Str),("range":Str),("str":Str),("tuple":Str),("bool":Str),("zip":Str),("sum":Str),("any":Str),("repr":Str),("sorted":Str),("dict":Str),("set":Str)]
def zaw:List (Str×List Str):=[]
def zel:List (Str×Sum Int Str):=[(("LETTERS":Str),.inr ("abcdefghijklmnopqrstuvwxyz":Str)),(("LONGEST_NAME":Str),.inl 8),(("FARTHEST":Str),.inl 1000),(("MOST_HEADS":Str),.inl 4),(("MOST_FEEDERS":Str),.inl 20),(("MOST_IN_FEEDER":Str),.inl 400),(("MOST_PARTS":Str),.inl 60),(("MOST_AHEADS":Str),.inl 200)]
def zgC:List Str:=Wn.dropLast.map (·.1)++[("FARTHEST":Str),("LETTERS":Str),("LONGEST_NAME":Str),("MOST_AHEADS":Str),("MOST_FEEDERS":Str),("MOST_HEADS":Str),("MOST_IN_FEEDER":Str),("MOST_PARTS":Str),("__name__":Str)]
def zfn:Program:={ PySem.Challenge.pw_pickboard_k08_whole_parts_numbered_other with main:={ PySem.Challenge.pw_pickboard_k08_whole_parts_numbered_other.main with body:=[topL 52] } }
theorem head1:PySem.Challenge.rw_pickboard_k08_whole_parts_numbered_other.wellSaid=true:=by kernel_rfl
theorem head2:∀w,(PySem.W.openEnds treeTable PySem.Challenge.pw_pickboard_k08_whole_parts_numbered_other w 9999).map (fun s=>(PySem.W.openSeen zfn zgC (importedModules PySem.Challenge.pw_pickboard_k08_whole_parts_numbered_other.main.body) (fun _=>true) true s,zaU Wn zbj zaw zel (JP s.heap)))=some (PySem.W.openGood zfn zgC,za5 Wn zbj zaw zel):=fun w=>by kernel_rfl
theorem head3:(PySem.W.chainsOk zfn&&PySem.W.opensWell PySem.Challenge.pw_pickboard_k08_whole_parts_numbered_other&&(PySem.W.frees PySem.Challenge.rw_pickboard_k08_whole_parts_numbered_other.row.toRowW&&PySem.Challenge.rw_pickboard_k08_whole_parts_numbered_other.row.within.isEmpty))=true:=by kernel_rfl
section
variable{κ:Type}[DecidableEq κ]
def z7(c:List (κ×V))(k:κ):Option V:=(c.find? fun g=>decide (g.1=k)).map (·.2)
def jB(c:List (κ×V))(k:κ)(v:V):List (κ×V):=
 if(c.any fun g=>decide (g.1=k))=true then c.map (fun g=>if g.1=k then(g.1,v) else g) else c++[(k,v)]
def zfb(c:List (κ×V))(k:κ):List (κ×V):=c.filter fun g=>decide (g.1≠k)
theorem qJ{p:κ×V}{r:List (κ×V)}{k:κ}(e:p.1=k):z7 (p::r) k=some p.2:=by simp[z7,yZ,e]
theorem qK{p:κ×V}{r:List (κ×V)}{k:κ}(e:¬p.1=k):z7 (p::r) k=z7 r k:=by simp[z7,yZ,e]
theorem xY(k:κ):∀c:List (κ×V),(c.any fun g=>decide (g.1=k))=(z7 c k).isSome
 | []=>rfl
 | p::r=>by
  rw[wG];by_cases e:p.1=k
  ·simp only[qJ e,zW e,Bool.true_or,Option.isSome_some]
  ·rw[qK e,qP e,Bool.false_or];exact xY k r
theorem XO(k j:κ)(y:V):∀c:List (κ×V),z7 (c.map fun g=>if g.1=k then(g.1,y) else g) j=(z7 c j).map fun x=>if j=k then y else x
 | []=>rfl
 | p::r=>by
  have i:=XO k j y r;rw[jn];by_cases h:p.1=k
  ·rw[zr h]
   by_cases e:p.1=j
   ·rw[qJ (p:=(p.1,y)) e,qJ e,wH,zr (e.symm.trans h)]
   ·rw[qK (p:=(p.1,y)) e,qK e,i]
  ·rw[zn h]
   by_cases e:p.1=j
   ·rw[qJ (p:=p) e,qJ e,wH,zn (fun z=>h (e.trans z))]
   ·rw[qK (p:=p) e,qK e,i]
theorem QO(k j:κ)(y:V):∀c:List (κ×V),z7 c k=none->z7 (c++[(k,y)]) j=if j=k then some y else z7 c j
 | [],_=>by
  by_cases e:k=j
  ·rw[zr e.symm];exact qJ (p:=(k,y)) e
  ·rw[zn (fun z=>e z.symm)];exact qK (p:=(k,y)) e
 | p::r,g=>by
  rw[List.cons_append];have hk:¬p.1=k:=fun z=>by rw[qJ z] at g;cases g
  rw[qK hk] at g;have i:=QO k j y r g;by_cases e:p.1=j
  ·rw[qJ e,qJ e,zn (fun z=>hk (e.trans z))]
  ·rw[qK e,qK e,i]
theorem ZC(c:List (κ×V))(k j:κ)(y:V):z7 (jB c k y) j=if j=k then some y else z7 c j:=by
 unfold jB;by_cases a:(c.any fun g=>decide (g.1=k))=true
 ·rw[zr a,XO]
  rw[xY] at a;by_cases e:j=k
  ·obtain⟨x,hx⟩:=Option.isSome_iff_exists.mp a
   rw[zr e,e,hx,wH,zr rfl]
  ·rw[zn e]
   cases z7 c j with
   | none=>rfl
   | some x=>rw[wH,zn e]
 ·rw[zn a]
  refine QO k j y c ?_
  rw[xY] at a;cases q:z7 c k with
  | none=>rfl
  | some x=>rw[q] at a;exact(a rfl).elim
theorem xc(c:List (κ×V))(k:κ)(v:V):(jB c k v).length<=c.length+1:=by
 unfold jB;split
 ·rw[zo];omega
 ·rw[zL,jy,y6];omega
theorem ZQ{c:List (κ×V)}{k:κ}(v:V)(h:z7 c k=none):jB c k v=c++[(k,v)]:=by
 unfold jB;rw[xY,h];exact zn (by decide)
theorem RelO.isSome_eq{o:Option V}{u:Option Value}(r:RelO o u):o.isSome=u.isSome:=by
 cases o with
 | none=>cases u with
  | none=>rfl
  | some _=>exact(show False from r).elim
 | some _=>cases u with
  | none=>exact(show False from r).elim
  | some _=>rfl
theorem RelO.getD{o:Option V}{u:Option Value}{d:V}{c:Value}(r:RelO o u)(g:RelV d c):RelV (o.getD d) (u.getD c):=by
 cases o with
 | none=>cases u with
  | none=>exact g
  | some _=>exact(show False from r).elim
 | some _=>cases u with
  | none=>exact(show False from r).elim
  | some _=>exact r
theorem KV.val{c:List (κ×V)}{o:List (κ×Value)}(r:KV c o)(k:κ):RelO (z7 c k) (valueAt o k):=by
 unfold KV at r;induction r with
 | nil=>exact True.intro
 | @cons p q w i h t u=>
  obtain⟨l,s⟩:=h;by_cases e:p.1=k
  ·have g:q.1=k:=l.symm.trans e
   have b:valueAt (q::i) k=some q.2:=by simp[valueAt,yZ,g]
   rw[qJ e,b];exact s
  ·have g:¬q.1=k:=fun z=>e (l.trans z)
   have b:valueAt (q::i) k=valueAt i k:=by simp[valueAt,yZ,g]
   rw[qK e,b];exact u
theorem KV.any{c:List (κ×V)}{i:List (κ×Value)}(r:KV c i)(k:κ):(c.any fun g=>decide (g.1=k))=i.any fun g=>decide (g.1=k):=by
 unfold KV at r;induction r with
 | nil=>rfl
 | cons h t l=>rw[wG,wG,l,h.1]
theorem KV.repl{g:List (κ×V)}{l:List (κ×Value)}(r:KV g l)(k:κ){y:V}{u:Value}(w:RelV y u) :
  KV (g.map fun c=>if c.1=k then(c.1,y) else c) (l.map fun c=>if c.1=k then(c.1,u) else c):=by
 unfold KV at r ⊢;induction r with
 | nil=>exact .nil
 | @cons p q A B h t s=>
  rw[jn,jn];refine .cons ?_ s
  obtain⟨i,o⟩:=h;by_cases e:p.1=k
  ·rw[zr e,zr (i.symm.trans e)];exact⟨i,w⟩
  ·rw[zn e,zn (fun z=>e (i.trans z))];exact⟨i,o⟩
theorem KV.put{c:List (κ×V)}{g:List (κ×Value)}(r:KV c g)(k:κ){y:V}{u:Value}(i:RelV y u):KV (jB c k y) (stored g k u):=by
 unfold jB stored;rw[r.any k];by_cases e:(g.any fun l=>decide (l.1=k))=true
 ·rw[zr e,zr e];exact r.repl k i
 ·rw[zn e,zn e];exact Paired.snoc r ⟨rfl,i⟩
theorem KV.drop{c:List (κ×V)}{l:List (κ×Value)}(r:KV c l)(k:κ):KV (zfb c k) (without l k):=by
 unfold KV at r ⊢;unfold zfb without;induction r with
 | nil=>exact .nil
 | @cons p q u w h t i=>
  obtain⟨g,s⟩:=h;rw[List.filter_cons,List.filter_cons];by_cases e:p.1=k
  ·have a:¬decide (p.1≠k)=true:=by simp[e]
   have b:¬decide (q.1≠k)=true:=by simp[g.symm.trans e]
   rw[zn a,zn b];exact i
  ·have o:¬q.1=k:=fun z=>e (g.trans z)
   have a:decide (p.1≠k)=true:=by simp[e]
   have b:decide (q.1≠k)=true:=by simp[o]
   rw[zr a,zr b];exact .cons ⟨g,s⟩ i
theorem KV.keys{c:List (κ×V)}{g:List (κ×Value)}(r:KV c g):c.map (·.1)=g.map (·.1):=by
 unfold KV at r;induction r with
 | nil=>rfl
 | cons h t i=>rw[jn,jn,i,h.1]
theorem KV.length{c:List (κ×V)}{g:List (κ×Value)}(r:KV c g):c.length=g.length:=Xb r
end
theorem xo{P:Program}{w:World}{k:Key}{u:Value}(r:RelV (kV k) u):(zG P w).is k u=true:=by
 cases k with
 | inl i=>obtain⟨t,e⟩:=(show ∃t,u=Value.int i t from r);subst e;exact Vk P w i t
 | inr x=>obtain⟨t,e⟩:=(show ∃t,u=Value.str x t from r);subst e;exact Vj P w x t
theorem yO{P:Program}{w:World}:∀{c:List Key} {g:List Value},Vals (c.map kV) g->ItemsAre (zG P w) c g
 | [],_,r=>by rw[J8] at r;cases r;exact .nil
 | k::c,_,r=>by
  rw[jn] at r;cases r with
  | cons h t=>exact .cons (xo h) (yO t)
abbrev KT(H:Hp):List (List Key×V)->List (List Key×Addr×Value)->Prop:=Paired fun p q=>p.1=q.1/\H q.2.1=some (.tup (p.1.map kV))/\RelV p.2 q.2.2
theorem KT.val{H:Hp}{c:List (List Key×V)}{o:List (List Key×Addr×Value)}(r:KT H c o)(k:List Key):RelO (z7 c k) ((atKey o k).map (·.2)):=by
 induction r with
 | nil=>exact True.intro
 | @cons p q w i h t u=>
  obtain⟨l,_,s⟩:=h;by_cases e:p.1=k
  ·have g:q.1=k:=l.symm.trans e
   have b:atKey (q::i) k=some q.2:=by simp[atKey,yZ,g]
   rw[qJ e,b];exact s
  ·have g:¬q.1=k:=fun z=>e (l.trans z)
   have b:atKey (q::i) k=atKey i k:=by simp[atKey,yZ,g]
   rw[qK e,b];exact u
theorem KT.repl{H:Hp}{c:List (List Key×V)}{o:List (List Key×Addr×Value)}(r:KT H c o)(k:List Key){y:V}{u:Value}(A:RelV y u) :
  KT H (c.map fun i=>if i.1=k then(i.1,y) else i) (o.map (putAt k u)):=by
 induction r with
 | nil=>exact .nil
 | @cons p q B C h t w=>
  rw[jn,jn];refine .cons ?_ w
  obtain⟨g,l,s⟩:=h;unfold putAt;by_cases e:p.1=k
  ·rw[zr e,zr (g.symm.trans e)];exact⟨g,l,A⟩
  ·rw[zn e,zn (fun z=>e (g.trans z))];exact⟨g,l,s⟩
theorem KT.put{H:Hp}{c:List (List Key×V)}{g:List (List Key×Addr×Value)}(r:KT H c g)(k:List Key){b:Addr}{y:V}{u:Value}(hb:H b=some (.tup (k.map kV)))(i:RelV y u) :
  KT H (jB c k y) (storedH g k b u):=by
 have e:(c.any fun l=>decide (l.1=k))=(atKey g k).isSome:=by
  rw[xY,(r.val k).isSome_eq,WC]
 unfold jB storedH;rw[e];by_cases q:(atKey g k).isSome=true
 ·rw[zr q,zr q];exact r.repl k i
 ·rw[zn q,zn q];exact Paired.snoc r ⟨rfl,hb,i⟩
theorem KT.keeps{H g:Hp}{c:List (List Key×V)}{i:List (List Key×Addr×Value)}(r:KT H c i)(o:∀b l,H b=some (.tup l)->g b=some (.tup l)):KT g c i:=
 Paired.mapP r fun _ _ z=>⟨z.1,o _ _ z.2.1,z.2.2⟩
section
variable{P:Program}{w:World}{H:Hp}{h:Heap}{a:Addr}
theorem zeX{u:HO}(ok:HOk P w H h)(e:Rd H a u):ObjOk P w H h a u:=e.ok ok
theorem Qb{c:List (Key×V)}(ok:HOk P w H h)(e:Rd H a (.dK c)):c.length<=sizeLine/\(a==sysModules)=false/\∃g,KV c g/\h.DictOf (zG P w) a g:=
 show ObjOk P w H h a (.dK c) from zeX ok e
theorem Vv{c:List (Key×V)}(ok:HOk P w H h)(e:H a=some (.dK c)):c.length<=sizeLine/\(a==sysModules)=false/\∃g,KV c g/\h.DictOf (zG P w) a g:=Qb ok (.inl e)
theorem yN{g:List Key}(ok:HOk P w H h)(e:H a=some (.tup (g.map kV))):(tupleKind (zG P w)).is h g a:=by
 obtain⟨_,c,r,⟨o,i,l,n,s⟩,_⟩:=(show ObjOk P w H h a (.tup (g.map kV)) from ok a _ e)
 exact⟨o,c.toArray,n,i,l,s,by simpa using yO r⟩
theorem Qa{c:List (List Key×V)}(ok:HOk P w H h)(e:Rd H a (.dT c)):c.length<=sizeLine/\(a==sysModules)=false /\
  ∃g,KT H c g/\h.DictOfH (tupleKind (zG P w)) a g:=by
 obtain⟨z,y,g,r,o,s,i,u,A,B,C,D⟩:=(show ObjOk P w H h a (.dT c) from zeX ok e)
 refine⟨z,y,g,r,o,s,i,u,A,B,C,fun x hx=>?_,D⟩
 have all:∀{l:List (List Key×V)} {m:List (List Key×Addr×Value)},KT H l m->∀x∈m,(tupleKind (zG P w)).is h x.1 x.2.1:=by
  intro l m q;induction q with
  | nil=>intro x hx;exact nomatch hx
  | @cons p q G I hq t E=>
   intro x hx;rcases zQ.mp hx with e | hx
   ·subst e
    exact yN ok (by rw[<- hq.1];exact hq.2.1)
   ·exact E x hx
 exact all r x hx
theorem zhq{c:List (List Key×V)}(ok:HOk P w H h)(e:H a=some (.dT c)):c.length<=sizeLine/\(a==sysModules)=false /\
  ∃g,KT H c g/\h.DictOfH (tupleKind (zG P w)) a g:=Qa ok (.inl e)
end
def DGet(H:Hp)(a:Addr)(y:V)(r:Option V):Prop:=
 (∃c k,Rd H a (.dK c)/\y=kV k/\r=z7 c k)\/∃c k b,Rd H a (.dT c)/\y=.ref b/\H b=some (.tup (k.map kV))/\r=z7 c k
def DPut(H:Hp)(a:Addr)(y v:V)(g:Hp):Prop:=
 (∃c k,H a=some (.dK c)/\y=kV k/\c.length<sizeLine/\g=upd H a (.dK (jB c k v))) \/
 ∃c k b,H a=some (.dT c)/\y=.ref b/\H b=some (.tup (k.map kV))/\c.length<sizeLine/\g=upd H a (.dT (jB c k v))
theorem DGet.k{H:Hp}{a:Addr}{c:List (Key×V)}{k:Key}(e:H a=some (.dK c)):DGet H a (kV k) (z7 c k):=.inl ⟨c,k,.inl e,rfl,rfl⟩
theorem DGet.t{H:Hp}{a b:Addr}{c:List (List Key×V)}{k:List Key}(e:H a=some (.dT c))(g:H b=some (.tup (k.map kV))):DGet H a (.ref b) (z7 c k):=.inr ⟨c,k,b,.inl e,rfl,g,rfl⟩
theorem DPut.k{H:Hp}{a:Addr}{c:List (Key×V)}{k:Key}{v:V}(e:H a=some (.dK c))(g:c.length<sizeLine):DPut H a (kV k) v (upd H a (.dK (jB c k v))):=.inl ⟨c,k,e,rfl,g,rfl⟩
theorem DPut.t{H:Hp}{a b:Addr}{c:List (List Key×V)}{k:List Key}{v:V}(e:H a=some (.dT c))(g:H b=some (.tup (k.map kV)))(i:c.length<sizeLine) :
  DPut H a (.ref b) v (upd H a (.dT (jB c k v))):=.inr ⟨c,k,b,e,rfl,g,i,rfl⟩
section
variable{X:Cx}{i:List (Addr×Obj)}{σ:St}{H:Hp}{s:Shared}{a:Addr}{y v:V}{u r:Value}{o:Option V}{A:Around}{E:Value->Shared->Prop}
theorem Inv.big(I:Inv X i σ H s):sysModules<s.heap.objs.size:=by
 have h:mainGlobals<s.heap.objs.size:=(I.mod.glob.keeps I.bk).lt;exact Nat.lt_trans (by decide) h
theorem za7{Q:Value->Shared->Prop}(hu:A.units+1<cLine)(I:Inv X i σ H s)(g:DGet H a y (some v))(L:RelV y u)(h:∀w M,Inv X i σ H M->RelV v w->Q w M) :
  wpAny (model X.prog X.w) A (getItem (.ref a) u) Q E s:=by
 rcases g with ⟨J,k,e,C,l⟩ | ⟨J,k,b,e,C,N,l⟩
 ·subst C
  obtain⟨z,O,Y,c,B⟩:=Qb I.hok e;obtain⟨w,G,t⟩:=RelO.some_of (v:=v) (o:=valueAt Y k) (by rw[l];exact c.val k)
  exact wpAny_getItem_of (xo L) B.mapOf G (h w _ (I.tok _) t)
 ·subst C
  cases(show u=Value.ref b from L)
  obtain⟨z,O,xs,c,B⟩:=Qa I.hok e;obtain⟨w,G,t⟩:=RelO.some_of (v:=v) (o:=(atKey xs k).map (·.2)) (by rw[l];exact c.val k)
  obtain⟨p,U,D⟩:=z9.mp G;refine wpAny_getItem_heap (tupleKind_room_in1 hu) (yN I.hok N) B U ?_
  rw[D];exact h w _ (I.tok _) t
theorem zhS{Q:Value->Shared->Prop}(hu:A.units+1<cLine)(I:Inv X i σ H s)(g:DGet H a y o)(D:RelV y u)(h:∀G,Inv X i σ H G->Q (.bool o.isSome) G) :
  wpAny (model X.prog X.w) A (compareOp .In u (.ref a)) Q E s:=by
 rcases g with ⟨C,k,e,w,l⟩ | ⟨C,k,b,e,w,J,l⟩
 ·subst w
  obtain⟨z,B,L,c,t⟩:=Qb I.hok e;refine wpAny_in_of (xo D) B t.mapOf ?_
  rw[<- (c.val k).isSome_eq,<- l];exact h _ (I.tok _)
 ·subst w
  cases(show u=Value.ref b from D)
  obtain⟨z,B,M,c,t⟩:=Qa I.hok e;refine wpAny_in_heap (tupleKind_room_in1 hu) (yN I.hok J) B t ?_
  have q:=(c.val k).isSome_eq;rw[WC] at q;rw[<- q,<- l];exact h _ (I.tok _)
theorem zei{Q:Value->Shared->Prop}(hu:A.units+1<cLine)(I:Inv X i σ H s)(g:DGet H a y o)(D:RelV y u)(h:∀G,Inv X i σ H G->Q (.bool (!o.isSome)) G) :
  wpAny (model X.prog X.w) A (compareOp .NotIn u (.ref a)) Q E s:=by
 rcases g with ⟨C,k,e,w,l⟩ | ⟨C,k,b,e,w,J,l⟩
 ·subst w
  obtain⟨z,B,L,c,t⟩:=Qb I.hok e;refine wpAny_notIn_of (xo D) B t.mapOf ?_
  rw[<- (c.val k).isSome_eq,<- l];exact h _ (I.tok _)
 ·subst w
  cases(show u=Value.ref b from D)
  obtain⟨z,B,M,c,t⟩:=Qa I.hok e;refine wpAny_notIn_heap (tupleKind_room_in1 hu) (yN I.hok J) B t ?_
  have q:=(c.val k).isSome_eq;rw[WC] at q;rw[<- q,<- l];exact h _ (I.tok _)
theorem ZB{c:Heap}{C:Nat}{l:HO}(I:Inv X i σ H s)(B:Mut (H a))(w:Heap.SameBut a s.heap c)(t:∃q,c.get? a=some q)(g:ObjOk X.prog X.w (upd H a l) c a l) :
  Inv X i σ (upd H a l) { s with heap:=c,toks:=C }:=
 I.write (x:=a) (e:=a) B (.inl rfl) (fun b q hb z=>(w.2 b hb).trans z) t g
theorem JU{P:Program}{w:World}{B:Hp}{t:Heap}{c:List (Key×V)}{l:List (Key×Value)}(z:c.length<=sizeLine)(D:(a==sysModules)=false)(g:KV c l)(C:t.DictOf (zG P w) a l) :
  ObjOk P w B t a (.dK c):=⟨z,D,l,g,C⟩
theorem za6{U:Hp}{Q:Unit->Shared->Prop}(hu:A.units+1<cLine)(I:Inv X i σ H s)(g:DPut H a y v U)(ry:RelV y u)(rv:RelV v r)(h:∀s',Inv X i σ U s'->Q () s') :
  wpAny (model X.prog X.w) A (setItem (.ref a) u r) Q E s:=by
 rcases g with ⟨t,k,e,G,l,D⟩ | ⟨t,k,b,e,G,Y,l,D⟩
 ·subst G D
  obtain⟨z,J,vs,w,C⟩:=Vv I.hok e;have O:vs.length<=sizeLine:=by rw[<- w.length];exact z
  have L:(jB t k v).length<=sizeLine:=by have:=xc t k v;omega
  refine wpAny_setItem_pairs (hsz:=O) (xo ry) C fun h' B M=>h _ ?_
  have he:∃q,h'.get? a=some q:=let ⟨q,_,_,hq,_⟩:=B;⟨q,hq⟩
  exact ZB I (by rw[e];exact True.intro) M he (JU L J (w.put k rv) B)
 ·subst G D
  cases(show u=Value.ref b from ry)
  obtain⟨z,J,xs,w,C⟩:=zhq I.hok e;have O:xs.length<=sizeLine:=by rw[<- Xb w];exact z
  have L:(jB t k v).length<=sizeLine:=by have:=xc t k v;omega
  refine wpAny_setItem_heap (hsz:=O) (tupleKind_room_in1 hu) (yN I.hok Y) C fun h' B M=>h _ ?_
  obtain⟨q,es,ep,hq,h2,h3,h4,_,h5⟩:=B;refine ZB I (by rw[e];exact True.intro) M ⟨q,hq⟩ ⟨L,J,_,(w.put k Y rv).keeps fun c ys ec=>?_,q,es,ep,hq,h2,h3,h4,h5⟩
  rw[zk (Vi ec e (fun z=>nomatch z))]
  exact ec
end
section
variable{X:Cx}{c:List (Addr×Obj)}{σ:St}{H:Hp}{s:Shared}{a:Addr}{g:List (Key×V)}{k:Key}{u:Value}{A:Around}{E:Value->Shared->Prop}
end
def zhu(i:Expr):Prop:=∀g c,subscripted i false g c=operate [g,c] (getItem g c)
theorem zdz{c:Program}{w:World}{A:Around}{E:Value->Shared->Prop}{s:Shared}{t:Env}{l g:Expr}{D:Pos}{T id:String}{Q:Value->Shared->Prop}
  (J:typeLookup (.type T) "__getitem__" = pure (some (.builtin id))) (L:zhu g)
  (h:wpAny (model c w) A (eval l t) (fun o H=>wpAny (model c w) A (eval g t) (fun i B=>B.TypeIs o T/\wpAny (model c w) A (getItem o i) Q E B) E H) E s) :
  wpAny (model c w) A (eval (.Subscript l g D) t) Q E s:=by
 refine Subscript_ (qN h (fun o H M=>qN M (fun i B C=>?_) fun _ _ x=>x) fun _ _ x=>x)
 obtain⟨G,C⟩:=C;unfold subscriptTail;refine zd ?_
 rw[getitemInPython_of_ne G.not_modules];refine zd (wpAny_specialOf G J ?_)
 have u:wpAny (model c w) A (subscripted g false o i) (fun r I=>wpAny (model c w) A (letTemporaryGo l o r >>= fun _=>pure r) Q E I) E B:=by
  rw[L o i];exact wpAny_operating (qN C (fun r I N=>zd (wpAny_letTemporaryGo (zp N))) fun _ _ x=>x)
 first
  | exact zp (zd u)
  | exact zd (zp (zd u))
  | exact zd u
theorem Vx{X:Cx}{c:List (Addr×Obj)}{σ:St}{H:Hp}{s:Shared}{a:Addr}{y:V}{o:Option V}(I:Inv X c σ H s)(g:DGet H a y o):s.TypeIs (.ref a) "dict" :=by
 rcases g with ⟨l,k,e,_,_⟩ | ⟨l,k,b,e,_,_,_⟩
 ·obtain⟨_,_,t,_,i⟩:=Qb I.hok e
  exact i.typeIs
 ·obtain⟨_,_,u,_,i⟩:=Qa I.hok e
  exact i.typeIs
def zgv(i ty:TE):TE:=fun σ H Q=>i σ H fun x g=>ty σ g fun y c=>∃a v,x=.ref a/\DGet c a y (some v)/\Q v c
def zhI(ty i:TE):TE:=fun σ H Q=>ty σ H fun y g=>i σ g fun x c=>∃a o,x=.ref a/\DGet c a y o/\Q (.bl o.isSome) c
def zdy(ty i:TE):TE:=fun σ H Q=>ty σ H fun y g=>i σ g fun x c=>∃a o,x=.ref a/\DGet c a y o/\Q (.bl (!o.isSome)) c
def zgM(o ty s:TE):TS:=fun D σ H=>s σ H fun v g=>o σ g fun x i=>ty σ i fun y l=>∃a c,x=.ref a/\DPut l a y v c/\D.nx σ c
section
variable{X:Cx}{o i e c:Expr}{w l A:Pos}{t ty B:TE}
theorem JE(hu:X.A.units+1<cLine)(U:PE X o t)(O:PE X i ty)(Y:zhu i):PE X (.Subscript o i w) (zgv t ty):=by
 intro C s σ H Q I h;refine zdz PySem.F.slot_dict_getitem.lookup Y (thn (U C s σ H _ I h) fun u s1 ⟨x,G,L,rx,q1⟩=>thn (O C s1 σ G _ L q1) fun iv s2 ⟨y,J,E,ry,a,v,N,g,q2⟩=>?_)
 subst N;obtain rfl:u=Value.ref a:=rx;exact⟨Vx E g,za7 hu E g ry fun w' s3 M D=>⟨v,J,M,D,q2⟩⟩
theorem zfI(hu:X.A.units+1<cLine)(N:PE X i ty)(O:PE X o t):PC X .In i o (zhI ty t):=by
 intro C s σ H Q I h;refine thn (N C s σ H _ I h) fun iv s1 ⟨y,D,G,ry,Y⟩=>thn (O C s1 σ D _ G Y) fun u s2 ⟨x,E,J,rx,a,U,M,g,q2⟩=>?_
 subst M;obtain rfl:u=Value.ref a:=rx;exact zhS hu J g ry fun s3 L=>⟨.bl U.isSome,E,L,rfl,q2⟩
theorem zaJ(hu:X.A.units+1<cLine)(N:PE X i ty)(O:PE X o t):PC X .NotIn i o (zdy ty t):=by
 intro C s σ H Q I h;refine thn (N C s σ H _ I h) fun iv s1 ⟨y,D,G,ry,Y⟩=>thn (O C s1 σ D _ G Y) fun u s2 ⟨x,E,J,rx,a,U,M,g,q2⟩=>?_
 subst M;obtain rfl:u=Value.ref a:=rx;exact zei hu J g ry fun s3 L=>⟨.bl (!U.isSome),E,L,rfl,q2⟩
theorem YO(hu:X.A.units+1<cLine)(Y:PE X o t)(U:PE X i ty)(hv:PE X c B)(hs:swapsWith c (some (.Subscript o i l)) w.line X.env=pure false) :
  PS X (.Assign [.Subscript o i l] c w) (zgM t ty B):=by
 intro C s σ H D I h;refine wpAny_Assign_Subscript (thn (hv C s σ H _ I h) fun r s1 ⟨v,E,L,rv,q1⟩=>thn (Y C s1 σ E _ L q1) fun u s2 ⟨x,G,M,rx,q2⟩=>thn (U C s2 σ G _ M q2) fun iv s3 ⟨y,H3,N,ry,a,J,Q,g,q3⟩=>?_) hs
 subst Q;obtain rfl:u=Value.ref a:=rx;exact za6 hu N g ry rv fun s4 O=>⟨σ,J,O,q3⟩
end
theorem Vw{P:Program}{w:World}{H:Hp}(h:Heap)(hb:sysModules<h.objs.size):ObjOk P w H (h.push { cls:=.type "dict",data:=.dict #[] }) h.objs.size (.dK []):=
 ⟨qB _,beq_eq_false_iff_ne.mpr (zN (zS hb)),[],.nil,Heap.DictOf.new h⟩
def zfj:TE:=fun _ H Q=>∀p,H p=none->Q (.ref p) (upd H p (.dK []))
section
variable{X:Cx}{c:Pos}
theorem Ve:PE X (.Dict [] [] c) zfj:=fun g s σ H Q I h=>
 wpAny_Dict_empty ⟨.ref s.heap.objs.size,_,I.laid (a:=s.heap.objs.size) (o:=.dK []) (t':=s.toks) (fun _ _ q=>zI _ q) (zy _) (Vw s.heap I.big),rfl,h _ (I.hok.fresh (zy _))⟩
end
def VU:List (TE×TE)->St->Hp->(List (V×V)->Hp->Prop)->Prop
 | [],_,H,Q=>Q [] H
 | (o,s)::r,σ,H,Q=>o σ H fun x c=>s σ c fun y g=>VU r σ g fun l i=>Q ((x,y)::l) i
abbrev VV:List (V×V)->List (Value×Value)->Prop:=Paired fun p q=>RelV p.1 q.1/\RelV p.2 q.2
def PPs(X:Cx)(l:Pos)(i:List (Option Expr))(c:List Expr)(o:List (TE×TE)):Prop:=
 ∀(g:List (Addr×Obj)) (s:Shared) (σ:St) (H:Hp) (Q:List (V×V)->Hp->Prop),Inv X g σ H s->VU o σ H Q ->
  wpAny (model X.prog X.w) X.A (evalPairs (pairTrees i c X.env l)) (fun A w=>∃u t,Inv X g σ t w/\VV u A/\Q u t) X.xe s
theorem zdJ{X:Cx}{c:Pos}:PPs X c [] [] []:=fun g s σ H Q I h=>pairTrees_nil_walk ⟨[],H,I,.nil,h⟩
theorem zb7{X:Cx}{g:Pos}{k v:Expr}{o:List (Option Expr)}{A:List Expr}{t w:TE}{i:List (TE×TE)}(hk:PE X k t)(hv:PE X v w)(L:PPs X g o A i) :
  PPs X g (some k::o) (v::A) ((t,w)::i):=fun c s σ H Q I h=>
 pairTrees_cons_walk (thn (hk c s σ H _ I h) fun u s1 ⟨x,B,E,Y,N⟩=>thn (hv c s1 σ B _ E N) fun w2 s2 ⟨y,C,G,ry,O⟩=>
  thn (L c s2 σ C _ G O) fun ws s3 ⟨M,D,J,l,U⟩=>⟨(x,y)::M,D,J,.cons ⟨Y,ry⟩ l,U⟩)
def jJ(g more:List (Key×V)):List (Key×V):=more.foldl (fun c i=>jB c i.1 i.2) g
theorem KV.merge:∀{more:List (Key×V)} {i:List (Key×Value)} {c:List (Key×V)} {g:List (Key×Value)},KV more i->KV c g->KV (jJ c more) (merged g i):=by
 intro more i c g r;unfold KV at r;induction r generalizing c g with
 | nil=>intro q;exact q
 | @cons p q s u h t l=>
  intro o;have e:KV (jB c p.1 p.2) (stored g q.1 q.2):=by
   have:=o.put p.1 h.2;rw[<- h.1];exact this
  exact l e
theorem xW:∀(more c:List (Key×V)),(jJ c more).length<=c.length+more.length
 | [],c=>by show c.length<=c.length+0;omega
 | p::r,c=>by
  have g:=xW r (jB c p.1 p.2);have i:=xc c p.1 p.2;show(jJ (jB c p.1 p.2) r).length<=_;rw[jy];omega
theorem Qc{P:Program}{w:World}:∀{g:List (Key×V)} {o:List (Value×Value)},VV (g.map fun l=>(kV l.1,l.2)) o->∃i,Carries (zG P w) o i/\KV g i
 | [],_,r=>by rw[J8] at r;cases r;exact⟨[],True.intro,.nil⟩
 | p::g,_,r=>by
  rw[jn] at r;cases r with
  | @cons a b s u h t=>
   obtain⟨i,c,q⟩:=Qc (P:=P) (w:=w) t;obtain⟨b1,b2⟩:=b;exact⟨(p.1,b2)::i,⟨xo h.1,rfl,c⟩,.cons ⟨rfl,h.2⟩ q⟩
def zgu(g:List (TE×TE)):TE:=fun σ H Q=>∀p,H p=none->VU g σ (upd H p (.dK [])) fun o i=>i p=some (.dK [])/\∃c:List (Key×V),o=c.map (fun l=>(kV l.1,l.2))/\c.length<=15/\Q (.ref p) (upd i p (.dK (jJ [] c)))
theorem zdM{X:Cx}{B:Pos}{g:List (Option Expr)}{i:List Expr}{C:List (TE×TE)}(h:PPs X B g i C)(t:g.all (·.isSome)=true)(hl:g.length=i.length)(O:g≠[])
  (D:g.length<=15):PE X (.Dict g i B) (zgu C):=by
 intro A s σ H Q I q;have hn:=I.hok.fresh (zy s.heap.objs.size);have L:=I.laid (a:=s.heap.objs.size) (o:=.dK []) (h':=s.heap.push { cls:=.type "dict",data:=.dict #[] }) (t':=s.toks) (fun _ _ q=>zI _ q) (zy _) (Vw s.heap I.big)
 refine wpAny_Dict_walk (knd:=zG X.prog X.w) t hl O D (thn (h A _ σ _ _ L (q _ hn)) fun ws s2 ⟨ps,H2,G,E,e,u,N,lk,q2⟩=>?_)
 subst N;obtain⟨rs,c,rk⟩:=Qc (P:=X.prog) (w:=X.w) E;obtain⟨z,Y,aa,r0,M⟩:=Vv G.hok e;cases r0;refine⟨rs,c,M,fun J l hs=>⟨.ref s.heap.objs.size,_,?_,rfl,q2⟩⟩
 have hz:(jJ [] u).length<=sizeLine:=by
  have U:=xW u [];rw[y6] at U;rw[sizeLine_eq];omega
 have he:∃q,J.get? s.heap.objs.size=some q:=let ⟨q,_,_,hq,_⟩:=l;⟨q,hq⟩
 exact ZB G (by rw[e];exact True.intro) hs he (JU hz Y (rk.merge .nil) l)
structure M1(X:Cx)(o:Expr)(m:Str)(apos:Pos)(e:Expr)(cpos:Pos):Prop where
 base:attributeBase o m X.env (eval o X.env)=eval o X.env
 few:((backTo cpos (starEach [e] X.env)).all (fun x=>!x.1)&&(backToKw cpos (keywordEach [] X.env)).all (fun x=>x.1.isSome)
  && decide (([e]:List Expr).length+([]:List Keyword).length+(if([]:List Keyword).isEmpty then 0 else 1)<30))=true
 line:(apos.endLine==cpos.line)=true
 trees:backTo cpos (starEach [e] X.env)=[(false,eval e X.env)]
structure M2(X:Cx)(o:Expr)(m:Str)(apos:Pos)(e f:Expr)(cpos:Pos):Prop where
 base:attributeBase o m X.env (eval o X.env)=eval o X.env
 few:((backTo cpos (starEach [e,f] X.env)).all (fun x=>!x.1)&&(backToKw cpos (keywordEach [] X.env)).all (fun x=>x.1.isSome)
  && decide (([e,f]:List Expr).length+([]:List Keyword).length+(if([]:List Keyword).isEmpty then 0 else 1)<30))=true
 line:(apos.endLine==cpos.line)=true
 trees:backTo cpos (starEach [e,f] X.env)=[(false,eval e X.env),(false,eval f X.env)]
def IsD(H:Hp)(a:Addr):Prop:=(∃c,Rd H a (.dK c))\/∃c,Rd H a (.dT c)
theorem zcK{X:Cx}{i:List (Addr×Obj)}{σ:St}{H:Hp}{s:Shared}{a:Addr}(I:Inv X i σ H s)(d:IsD H a) :
  s.TypeIs (.ref a) "dict" /\ (∀b,Value.ref a=.ref b->∃c,s.heap.get? b=some c/\c.dict=none)/\(a==sysModules)=false:=by
 rcases d with ⟨u,e⟩ | ⟨u,e⟩
 ·obtain⟨_,t,w,_,g⟩:=Qb I.hok e
  refine⟨g.typeIs,fun b q=>?_,t⟩
  cases q;obtain⟨c,_,_,l,o,_⟩:=g;exact⟨c,l,o.2.1⟩
 ·obtain⟨_,t,A,_,g⟩:=Qa I.hok e
  refine⟨g.typeIs,fun b q=>?_,t⟩
  cases q;obtain⟨c,_,_,l,o,_⟩:=g;exact⟨c,l,o.2.1⟩
section
variable{X:Cx}{c:List (Addr×Obj)}{σ:St}{H:Hp}{s:Shared}{a:Addr}{y d:V}{u r:Value}{o:Option V}{A:Around}{E:Value->Shared->Prop}
theorem zgg{Q:Value->Shared->Prop}(hu:A.units+1<cLine)(I:Inv X c σ H s)(g:DGet H a y o)(G:RelV y u)(D:RelV d r)(h:∀L J,Inv X c σ H J->RelV (o.getD d) L->Q L J) :
  wpAny (model X.prog X.w) A (call (.builtin "dict.get") [.ref a,u,r]) Q E s:=by
 rcases g with ⟨C,k,e,w,l⟩ | ⟨C,k,b,e,w,M,l⟩
 ·subst w
  obtain⟨z,B,O,i,t⟩:=Qb I.hok e;refine call_meetsIn WR t.typeIs PySem.F.entry_dict_get (PySem.F.args_dict_get_3 _ _ _) (meets_dict_get_default (zG X.prog X.w) a (xo G) B r) ⟨_,t.mapOf,h _ _ (I.tok _) ?_⟩
  rw[l];exact(i.val k).getD D
 ·subst w
  cases(show u=Value.ref b from G)
  obtain⟨z,B,N,i,t⟩:=Qa I.hok e;refine call_meetsIn WR t.typeIs PySem.F.entry_dict_get (PySem.F.args_dict_get_3 _ _ _) (meetsH_dict_get_default (tupleKind (zG X.prog X.w)) a b B r) ⟨tupleKind_room_in1 hu,k,N,yN I.hok M,t,h _ _ (I.tok _) ?_⟩
  rw[l];exact(i.val k).getD D
end
def zfk(l ty s:TE):TE:=fun σ H Q=>l σ H fun x c=>∃a,x=.ref a/\IsD c a/\ty σ c fun y i=>s σ i fun z g=>∃o,DGet g a y o/\Q (o.getD z) g
section
variable{X:Cx}{o e f:Expr}{c i:Pos}{l ty t:TE}
theorem yh(hu:X.A.units+1<cLine)(U:PE X o l)(N:PE X e ty)(O:PE X f t)(m:M2 X o "get" c e f i):PE X (.Call (.Attribute o "get" c) [e,f] [] i) (zfk l ty t):=by
 intro w s σ H Q I h;refine wpAny_Call_method m.base m.few m.line WW WR PySem.F.type_dict_get (thn (U w s σ H _ I h) fun u s1 ⟨x,C,B,rx,a,M,d,Y⟩=>?_)
 subst M;obtain rfl:u=Value.ref a:=rx;obtain⟨t1,t2,_⟩:=zcK B d;refine⟨t1,t2,?_⟩
 rw[m.trees];refine Xy rfl (WQ (wZ (thn (N w s1 σ C _ B Y) fun iv s2 ⟨y,D,G,ry,q2⟩=>
  wZ (thn (O w s2 σ D _ G q2) fun fv s3 ⟨z,E,J,rz,ov,g,q3⟩=>Qq ?_))))
 exact zgg hu J g ry rz fun w' s4 L A=>⟨_,E,L,A,q3⟩
end
section
variable{X:Cx}{c:List (Addr×Obj)}{σ:St}{H:Hp}{s:Shared}{a:Addr}{g:List (Key×V)}{A:Around}{E:Value->Shared->Prop}
end
section
variable{X:Cx}{c:List (Addr×Obj)}{σ:St}{H:Hp}{s:Shared}{a:Addr}{y:V}{u:Value}{A:Around}{E:Value->Shared->Prop}
end
end L2
namespace PySem
open PySem PySem.W PySem.Calls PyProof.Rows PyProof.V PySem.Spec
end PySem
namespace L2
open PySem PySem.Spec PyProof.Rows
section
variable{X:Cx}
end
section
variable{X:Cx}{c:Expr}
end
section
variable{X:Cx}
end
section
variable{X:Cx}
variable{e st:Expr}{i:TE}{l:TO}{c g:Pos}
end
end L2
namespace PySem
def RawD(h:Heap)(d:Addr)(g:Array DictEntry)(c:Nat):Prop:=∃o,h.get? d=some o/\o.ExactDict/\o.data=.dict g c
theorem RawD.at{h i:Heap}{d:Addr}{g:Array DictEntry}{c:Nat}(x:RawD h d g c)(e:∀o,h.get? d=some o->i.get? d=some o):RawD i d g c:=let ⟨o,a,b⟩:=x;⟨o,e _ a,b⟩
section
variable{l:Program}{w:World}{A:Around}{E:Value->Shared->Prop}{s:Shared}{d g:Addr}{c:Array DictEntry}{t i:Nat}
theorem zb1{Q:Value->Shared->Prop}(D:(d==sysModules)=false)(G:RawD s.heap d c t)
  (C:Q (.ref s.heap.objs.size) { s with heap:=s.heap.push { cls:=.type "dict_keyiterator",data:=.fields #[.ref d,.int 0 0,.int c.size 0,.int t 0] } }):wpAny (model l w) A (pyIter (.ref d)) Q E s:=by
 obtain⟨o,B,hc,u⟩:=G;have ty:s.TypeIs (.ref d) "dict" :=⟨o,B,hc.1⟩;refine wpAny_pyIter_slot ty F.slot_dict_iter (xq F.slot_dict_iter ty F.entry_dict_iter ?go (F.args_dict_iter_1 _))
 unfold Builtin.«dict.__iter__» Builtin.Dict.dictSlotNone;refine zd (zd (wpAny_notOrdered_dict ty ?go2));refine(zp ?go3:wpAny _ _ (pure (Value.ref d)) _ _ s)
 refine(?go7:wpAny _ _ (Builtin.Dict.showsAll d >>= _) _ _ s);unfold Builtin.Dict.showsAll
 rw[zn (by rw[D];exact qE)];refine zd (zp ?go5)
 refine zd (wpAny_dictEntries B u (zd (wpAny_dictEpoch B u (zd (xO (zp ⟨_,rfl, "dict_keyiterator",_,⟨_,qv _ rfl,rfl⟩,VE.lookup,?go6⟩))))))
 simpa [rawInt] using C
theorem zb2{e:DictEntry}{Q:Option Value->Shared->Prop}(C:s.heap.IsKeyIter g d i c.size t)(O:RawD s.heap d c t)(hx:c[i]? =some e)
  (M:∀H,H.IsKeyIter g d (i+1) c.size t->Heap.SameBut g s.heap H->Q (some e.key) { s with heap:=H }):wpAny (model l w) A (pyNext (.ref g)) Q E s:=by
 obtain⟨o,I,hc,G⟩:=id C;obtain⟨Y,D,N,B⟩:=O;have ty:=C.typeIs;obtain⟨U,L⟩:∃h:i<c.size,c[i]=e:=Qw.mp hx;unfold pyNext;refine zd (vv (vC (name:=Str.ofString "__next__") ty VE (xq VE ty zdj ?a (zdk _))))
 refine zd (zp ?a1);refine zd (zd ?a2)
 first| refine zd (wpAny_typeNameOfWhole_keyiter ty (zp ?a3)) | refine zd (wpAny_typeNameOf_keyiter ty (zp ?a3))
 refine zd (wpAny_fieldsOf I G ?a4)
 simp only[show Builtin.Dict_items.ownsTuple "dict_keyiterator" = false by decide,qW,if_false]
 refine(?a5:wpAny _ _ (if(Value.ref d==Value.none)=true then _ else _) _ _ s)
 rw[zn (show ¬((Value.ref d==Value.none)=true) from qE)];refine zd (zp (zd (wpAny_dictEntries D B ?a6)))
 rw[zn (by simp)];refine zd (zp (zd (wpAny_dictEpoch D B ?a7)))
 rw[zn (by simp)];refine zp ?a8
 simp only[show ¬((i:Int)<0) from by omega,if_false,jT,xR U];refine zd ?a9
 first| refine zd (wpAny_typeNameOfWhole_keyiter ty (zp ?b1)) | refine zd (wpAny_typeNameOf_keyiter ty (zp ?b1))
 refine zd (wpAny_isOneOf_keyiter ty ?b2);refine(?b3:wpAny _ _ (setField (.ref g) 1 (rawInt ((i:Int)+1)) >>= _) _ _ s)
 have u:(s.heap.update g (Obj.mapFields (·.setIfInBounds 1 (rawInt ((i:Int)+1))))).IsKeyIter g d (i+1) c.size t:=
  ⟨_,xP _ I (WS (Qs G _)),(WD ..).trans hc,(by rw[Qs G];simp[rawInt])⟩
 refine zd (wpAny_setField I G (by simp) (zd (je (zd (wpAny_isOneOf_keyiter (s:={ s with heap:=s.heap.update g (Obj.mapFields (·.setIfInBounds 1 (rawInt ((i:Int)+1)))) }) u.typeIs ?b4)))))
 refine(?b5:wpAny _ _ (pure c[i].key) _ _ _)
 rw[L];exact zp (zp ⟨_,rfl,zp (M _ u (yx ..))⟩)
theorem zdF{Q:Option Value->Shared->Prop}(M:A.handled=none)(B:s.heap.IsKeyIter g d i c.size t)(N:RawD s.heap d c t)(hx:c.size<=i)
  (J:∀D,Heap.ExtBut g s.heap D->Q none { s with heap:=D }):wpAny (model l w) A (pyNext (.ref g)) Q E s:=by
 obtain⟨o,H,hc,G⟩:=id B;obtain⟨O,C,L,u⟩:=N;have ty:=B.typeIs;unfold pyNext;refine zd (vv (vC (name:=Str.ofString "__next__") ty VE (xq VE ty zdj ?a (zdk _))))
 refine zd (zp ?a1);refine zd (zd ?a2)
 first| refine zd (wpAny_typeNameOfWhole_keyiter ty (zp ?a3)) | refine zd (wpAny_typeNameOf_keyiter ty (zp ?a3))
 refine zd (wpAny_fieldsOf H G ?a4)
 simp only[show Builtin.Dict_items.ownsTuple "dict_keyiterator" = false by decide,qW,if_false]
 refine(?a5:wpAny _ _ (if(Value.ref d==Value.none)=true then _ else _) _ _ s)
 rw[zn (show ¬((Value.ref d==Value.none)=true) from qE)];refine zd (zp (zd (wpAny_dictEntries C u ?a6)))
 rw[zn (by simp)];refine zd (zp (zd (wpAny_dictEpoch C u ?a7)))
 rw[zn (by simp)];refine zp ?a8
 simp only[show ¬((i:Int)<0) from by omega,if_false,jT,Xx hx];refine zd ?a9
 first| refine zd (wpAny_typeNameOfWhole_keyiter ty (zp ?b1)) | refine zd (wpAny_typeNameOf_keyiter ty (zp ?b1))
 refine(?b3:wpAny _ _ (setField (.ref g) 0 .none >>= _) _ _ s);refine zd (wpAny_setField H G (by simp) ?b4)
 refine(?b5:wpAny _ _ (newExc (.type "StopIteration") [] >>= _) _ _ _);refine zd ?b6
 simp only[newExc,newTuple];refine zd (xO ?b7 (by size_fits))
 refine zd (m:=firstArgMember _ _) (yT (a:=Value.none) (by first| rfl | (simp only[firstArgMember];rfl)) (xO ?b8 (by size_fits)))
 simp only[raiseNew];refine zd (wpAny_handled ?b9)
 rw[show A.in1.handled=none from M];refine zd (zp (wpAny_throw ?c1))
 exact zd (vV (T:= "StopIteration") (b:=true) ⟨_,qv _ rfl,rfl⟩ isSubtype_stop (zp (J _ (((yx ..).extBut.push _).push _))))
end
end PySem
namespace L2
open PySem PySem.Spec PyProof.Rows
section
variable{X:Cx}{c:Expr}
end
section
variable{c:Program}{w:World}{A:Around}{R:Result->Shared->Prop}{s:Shared}
end
def DPutT(H:Hp)(D:Addr)(y v:V)(g:Hp):Prop:=∃c k b,H D=some (.dT c)/\y=.ref b/\H b=some (.tup (k.map kV))/\c.length<sizeLine/\g=upd H D (.dT (jB c k v))
theorem DPutT.t{H:Hp}{a b:Addr}{c:List (List Key×V)}{k:List Key}{v:V}(e:H a=some (.dT c))(g:H b=some (.tup (k.map kV)))(i:c.length<sizeLine):DPutT H a (.ref b) v (upd H a (.dT (jB c k v))):=⟨c,k,b,e,rfl,g,i,rfl⟩
section
variable{X:Cx}{O vx L w:Expr}{A:List Expr}{U D:Expr}{E:List Expr}{t:Scope}{G:Pos}{wi M:TI}{g N:TG}{Q J:TT}{Y tv:TE}
theorem Wp{aa:List (Addr×Obj)}{σ:St}{H:Hp}{s:Shared}{fp:List Addr}(own fr:List Str)(js:List Nat)(I:Inv X aa σ H s)(B:zds t.names X.env.scope.names X.N fr js)(hk:t.kind=.function)
  (f2:∀b∈fp,jF X aa H b) (fl:∀b∈fp,b<s.heap.objs.size) {C:Addr} (hC:C=s.heap.objs.size) {h1:Heap} {m:Str->Option Value} (ag:h1.Ns C m) (k4:∀b o,s.heap.get? b=some o->h1.get? b=some o) {t4:Nat} :
  Inv (zM X (own++fr) t C s H fp) [] (upS own.length js σ) H { s with heap:=h1,toks:=t4 }:=by
 have a0:∀y∈t.names,y.2=NameKind.free->∃c,X.env.cells.lookup y.1=some c:=fun y hy e=>I.ok.has y.1 (B.free y hy e)
 refine⟨⟨I.ok.mod,hk,I.ok.glob,I.ok.blt,wc hC.symm,fun x y c e1 e2=>?_,fun x hx=>?_,fun x c hf=>(nomatch hf),fun hc=>I.ok.hd hc,I.ok.frames,.inl rfl,fun b hb=>?_,I.bs,zX I.ok.bsz I.sz,fun b o e hb=>?_,fun b hb hf=>?_,I.stack,I.stkFree⟩,
  rfl,I.bare,Un.kept k4,⟨m,ag,fun i x v e1 e2 ah=>?_⟩,fun x c e=>?_,?_,fun x c e=>?_,fun p hp=>absurd (show p∈([]:List (Addr×Obj)) from hp) (by simp),I.hok.kept k4,?_⟩
 ·exact I.ok.inj x y c (qg e1 a0) (qg e2 a0)
 ·obtain⟨k,e,z⟩:∃k,t.names.lookup x=some k/\(k=.free):=by
   rcases hx with hx | hx
   ·obtain⟨k,e,z⟩:=vH hx
    rcases z with z | z
    ·subst z;exact absurd rfl (B.cell _ (wK e))
    ·exact⟨k,e,z.1⟩
   ·obtain⟨k,e,z⟩:=vH hx
    rcases z with z | z
    ·subst z;exact⟨_,e,rfl⟩
    ·exact⟨k,e,z.1⟩
  subst z;exact⟨_,wA e⟩
 ·refine⟨by rw[hC];exact zS (fl b hb),fun x c e=>?_⟩
  exact(f2 b hb).2.2.2.2.1 x c (qg e a0)
 ·rcases(f2 b hb).2.2.2.1 with z | z
  ·exact I.ok.noex b o e z
  ·exact absurd (jt (zA (I.ok.bs b o e).1) z) (xh _)
 ·rcases zQ.mp (I.stkSub b hf) with y | y
  ·exact(f2 b hb).2.1 y
  ·exact(f2 b hb).2.2.1 y
 ·obtain⟨hn,_,j,ej,es⟩:=yc e2
  have ex:fr[i-own.length]? =some x:=by rw[jW hn] at e1;exact e1
  obtain⟨ab,j',ac,eN⟩:=B.fr _ x ex;have:j'=j:=by rw[ej] at ac;exact(jq ac).symm
  subst this;have ae:=B.free _ (wK ab) rfl;obtain⟨m0,_,hl⟩:=I.loc;obtain⟨u,r,l⟩:=hl j' x v eN es (by rcases ae with z | z;exact .inr (.inl z);exact .inr (.inr z))
  refine⟨u,r,.inr ?_⟩
  rcases l with ⟨kl,_⟩ | ⟨_,c,ec,o,eo,ed⟩
  ·have af:X.env.scope.names.lookup x=some .local:=kl
   rcases ae with z | z
   ·exact absurd (z.symm.trans af) (by decide)
   ·exact absurd (z.symm.trans af) (by decide)
  ·obtain⟨k',e',z⟩:=wP (env:=X.env) ab
   have eq:(jP X.env.cells t.names []).lookup x=some c:=by rw[wA ab,ec];rfl
   refine⟨?_,c,eq,o,k4 c o eo,ed⟩
   rcases z with z | z
   ·subst z;exact .inl e'
   ·subst z;exact .inr e'
 ·obtain⟨v,o,eo,ed⟩:=I.cell x c (qg e a0)
  exact⟨v,o,k4 c o eo,ed⟩
 ·exact I.hok.fresh (wc hC.symm)
 ·exact I.freeC x c (qg e a0)
 ·rw[Yd,<- B.len]
  show _=(own++fr).length;rw[zL]
end
structure BlkOkC(sn on:List (Str×NameKind))(N:List Str)(x:Str)(fr:List Str)(js:List Nat):Prop where
 one:(sn.filter fun y=>y.2==.cell)=[(x,.cell)]
 lk:sn.lookup x=some .cell
 nd:([x]++fr).Nodup
 loc:∀y∈sn,y.2=NameKind.local->sn.lookup y.1=some .local
 free:∀y∈sn,y.2=NameKind.free->on.lookup y.1=some .cell\/on.lookup y.1=some .free
 len:fr.length=js.length
 fr:∀(k:Nat) (x:Str),fr[k]? =some x->sn.lookup x=some .free/\∃j:Nat,js[k]? =some j/\N[j]? =some x
theorem BlkOkC.is{sn on:List (Str×NameKind)}{N:List Str}{x:Str}{c:List Str}{g:List Nat}(B:BlkOkC sn on N x c g){y:Str×NameKind}(h:y∈sn)(e:y.2=.cell):y.1=x:=by
 have:y∈sn.filter fun y=>y.2==.cell:=wm.mpr ⟨h,by rw[e];rfl⟩
 rw[B.one,zP] at this;rw[this]
section
variable{X:Cx}{l w i:Expr}{o:List Expr}{c:Scope}{s:Pos}{A:TI}{g:TG}{u:TT}{t:TE}{x:Str}
end
end L2
namespace L2
end L2
namespace L2
open PySem PySem.W PySem.Spec PyProof.Rows
abbrev bmV:List Value:=[.type "ValueError",.type "Exception",.type "BaseException",.type "object"]
def zhy(K:Frag)(C:Addr)(g:Option Value):Bool:=match K.lookup C with
 | some ⟨.type "type",_,.cls c,o⟩=>(match c.mro with
  | .ref i::l=>(match o.toList with
   | [_,_,_,_,some (.builtin n),_]=>i==C&&(n == "ValueError.__new__" && (!c.hasDel&&(tailIn K bmV l&&(nsOkIn K c.ns&&nsIn K c.ns "__init__" == some g))))
   | _=>false)
  | _=>false)
 | _=>false
structure Xc(h:Heap)(C:Addr)(ini:Option Value):Prop where
 is:∃(bm:List Value) (N:Addr) (nm qn:Str) (bs:List Value) (hd:Bool) (sn:List Str) (sub:List Value) (ab:Bool) (col:Option Bool) (dd:Option Addr) (k0 k1 k2 k3 k5:Option Value) (mN:Str->Option Value),
  h.get? C=some (excClassObj nm qn C N bs bm hd sn sub ab col dd k0 k1 k2 k3 k5 "ValueError.__new__")/\h.Ns N mN/\mN "__init__" = ini/\OwnTail h bmV bm
end L2
namespace L2
open PySem PySem.W PySem.Spec PyProof.Rows
section
variable{P:Program}{w:World}{H:Hp}{h c:Heap}{a:Addr}{o:HO}
theorem ObjOk.has(x:ObjOk P w H h a o):∃u,h.get? a=some u:=by
 cases o with
 | lst l=>obtain⟨_,_,_,_,e⟩:=x;exact⟨_,e⟩
 | tup l=>obtain⟨_,_,_,⟨u,e,_⟩,_⟩:=x;exact⟨u,e⟩
 | dK g=>obtain⟨_,_,_,_,u,_,_,e,_⟩:=x;exact⟨u,e⟩
 | dT g=>obtain⟨_,_,_,_,u,_,_,e,_⟩:=x;exact⟨u,e⟩
 | set S n=>obtain⟨u,_,_,_,e,_⟩:=x;exact⟨u,e⟩
 | ins C s i=>obtain⟨_,_,_,e,_⟩:=x;exact⟨_,e⟩
 | own y=>obtain⟨u,e⟩:=x;exact⟨u,e⟩
 | xd i=>obtain⟨_,⟨u,_,_,e,_⟩,_⟩:=x;exact⟨u,e⟩
 | rng lo t=>obtain⟨_,_,_,e⟩:=x;exact⟨_,e⟩
 | frz A u=>obtain⟨e,_⟩:=x;exact⟨_,e⟩
 | tbl B=>exact⟨_,show h.get? a=some _ from x⟩
 | met f y=>exact⟨_,show h.get? a=some _ from x⟩
 | ext φ=>obtain⟨_,⟨u,e⟩,_⟩:=x;exact⟨u,e⟩
theorem HOk.none_of(x:HOk P w H h)(e:h.get? a=none):H a=none:=by
 cases q:H a with
 | none=>rfl
 | some u=>obtain⟨z,g⟩:=(x a u q).has;rw[e] at g;cases g
end
section
variable{X:Cx}{g:List (Addr×Obj)}{σ:St}{H:Hp}{s:Shared}{i:Heap}
theorem Inv.laidN{a:Addr}{o:HO}{t':Nat}(I:Inv X g σ H s)(k:∀b u,s.heap.get? b=some u->i.get? b=some u)(w:s.heap.get? a=none)(t:ObjOk X.prog X.w (upd H a o) i a o) :
  Inv X g σ (upd H a o) { s with heap:=i,toks:=t' }:=by
 have B:=I.hok.none_of w;have ne:∀b u,s.heap.get? b=some u->b≠a:=fun b u q z=>by rw[z,w] at q;cases q
 have l:∀b u,H b=some u->b≠a:=fun b u q z=>by rw[z,B] at q;cases q
 refine I.un ⟨fun b u q _ _ _=>k b u q,fun b u q _ _ _=>⟨u.slots,k b u q⟩,fun b u q n _=>by rw[zk (ne b u q)];exact n,fun b u q _=>⟨u,k b u q⟩,
  fun b A q=>by rw[zk (l b _ q)];exact q,fun b u A q=>by rw[zk (l b _ q)];exact q,fun b C q=>⟨#[],by rw[zk (l b _ q),q];simp⟩⟩ ?_
 intro b u e;by_cases hb:b=a
 ·subst hb;rw[zc] at e;cases e;exact t
 ·rw[zk hb] at e
  exact(I.hok b u e).stay (fun c v _ q=>k c v q) (fun c q=>by rw[zk (l c _ q)];exact q) fun c A q=>by rw[zk (l c _ q)];exact q
end
section
variable{c:Program}{w:World}{A:Around}{E:Value->Shared->Prop}{h:Heap}{g:Array GenState}{d:Drawn}{t:Nat}{os:OsState}{C:Addr}
end
section
variable{i:Program}{w:World}{A:Around}{E:Value->Shared->Prop}{h:Heap}{g:Array GenState}{d:Drawn}{t:Nat}{os:OsState}
variable{L q:Str}{C N:Addr}{u s:List Value}{c:Bool}{sn:List Str}{sub:List Value}{o:Bool}{l:Option Bool}{B:Option Addr}{D G H I J:Option Value}
end
end L2
namespace L2
open PySem PySem.W PySem.Spec PyProof.Rows
structure XK2(K:Frag)(C:Addr)(ini:Option Value):Prop where
 cls:zhy K C ini=true
 sa:findIn K (.ref C) "__setattr__" = some (some (.builtin "object.__setattr__"))
 ga:findIn K (.ref C) "__getattribute__" = some (some (.builtin "BaseException.__getattribute__"))
 gh:findIn K (.ref C) "__getattr__" = some none
 ob:mroIn K C (.type "object")=some true
 be:mroIn K C (.type "BaseException")=some true
 hd:hasDictIn K C=true
section
variable{c:Program}{w:World}{A:Around}{E:Value->Shared->Prop}{h:Heap}{g:Array GenState}{d:Drawn}{t:Nat}{os:OsState}{K:Frag}{C e l:Addr}{i:Option Value}{f:Str}{v:Value}
end
end L2
namespace L2
open PySem PySem.W PySem.Spec PyProof.Rows
section
variable{c:Program}{w:World}{A:Around}{E:Value->Shared->Prop}{h:Heap}{g:Array GenState}{d:Drawn}{t:Nat}{os:OsState}{K:Frag}{C e u l:Addr}{s:Option Addr}{i:Option Value}{f:Str}{v:Value}{o:Str->Option Value}
end
end L2
namespace L2
open PySem PySem.W PySem.Spec PyProof.Rows
structure XKc(K:Frag)(C:Addr):Prop where
 lk:findIn K (.ref C) "__class__" = some (some (.builtin "object.__class__"))
 gt:specialIn K (.builtin "object.__class__") "__get__" = some (some (.builtin "getset_descriptor.__get__"))
 tk:takesIn K (.builtin "object.__class__")=some true
section
variable{c:Program}{w:World}{A:Around}{E:Value->Shared->Prop}{h:Heap}{g:Array GenState}{d:Drawn}{t:Nat}{os:OsState}{K:Frag}{C l e u:Addr}{o:Option Addr}{i:Option Value}{s:Option Obj}
end
end L2
namespace L2
open PySem PySem.W PySem.Spec PyProof.Rows
structure XOk(K:Frag)(C:Addr)(ini:Option Value):Prop where
 k:XK2 K C ini
 c:XKc K C
 kp:keepIn K (.ref C)=true
 ty:typeIn K (.ref C)=some (.type "type")
 cd:∃cd,clsIn K C=some cd
 ve:mroIn K C (.type "ValueError")=some true
section
variable{X:Cx}{u:CXT}{k:Nat}{f C:Addr}{B:FuncData}{D:List Str}{w:List Value}{i:List V}{G:Sp}{E:XK}{x m:Str}{p s g:Pos}{e o c:Expr}{A:List Expr}{t:TA}{H I:TE}{l:Option Value}
end
end L2
namespace L2
open PySem PySem.W PySem.Spec PyProof.Rows
section
variable{X:Cx}
inductive VF(K:W.Frag)(x:V)(y:V)(H:Hp)(Q:VK):Prop
 | mk (a b:Addr) (c:List V) (_:x=.ref a) (_:y=.ref b) (_:SqL K H a c) (_:SqL K H b c) (_:c.all x9=true) (_:(∀v∈c,eqV v v=true)) (_:Q (.bl false) H):VF K x y H Q
theorem Wd(hu:X.A.units<cLine):OpR X (compareOp .NotEq) (VF X.K):=by
 intro w s σ H x y v u Q I Y ry h;obtain⟨a,b,o,rfl,rfl,hx,hy,E,D,q⟩:=h;cases Y;cases ry;obtain⟨g,B,M,z1⟩:=I.list hx;obtain⟨l,C,N,z2⟩:=I.list hy;have l1:=B.length;have l2:=C.length;refine WI (e:=fun _=>true) M.isList N.isList (by rw[zZ,zZ];omega) hu (fun j L h2=>?_) _ _ _ _ ⟨.bl _,H,I,rfl,?_⟩
 ·have c:j<o.length:=by rw[zZ] at L;omega
  obtain⟨w1,e1,O⟩:=B.get (i:=j) (x:=o[j]) (by simp[c])
  obtain⟨w2,e2,U⟩:=C.get (i:=j) (x:=o[j]) (by simp[c])
  have G:g.toArray[j]=w1:=by simpa using (zK.mp e1).2
  have J:l.toArray[j]=w2:=by simpa using (zK.mp e2).2
  have t:=j3.mp E _ (vy c);have z:=Wm (A:=X.A.in1) (s:=s) O U t t;rw[D _ (vy c)] at z;rw[G,J];exact z
 ·rw[show((List.range g.toArray.size).all fun _=>true)=true from j3.mpr fun _ _=>rfl]
  exact q
end
structure Xs(K:Frag)(mg:Str->Option Value)(x:Str)(C:Addr)(ini:Option Value):Prop where
 ok:XOk K C ini
 gl:mg x=some (.ref C)
structure XsI(P:Program)(w:World)(K:Frag)(mg:Str->Option Value)(base:Heap)(x:Str)(C f:Addr)(k:Nat)(ps:List Str)(sp:Sp):Prop extends Xs K mg x C (some (.ref f)) where
 ex:∃fd oF,FnOk P w K mg base CX0 k f fd ps sp/\K.lookup f=some oF/\oF.cls=.type "function" /\ Binds K fd ps []
section
variable{X:Cx}{x:Str}{k:Nat}{C f:Addr}{i:List Str}{l:Sp}{p c:Pos}{e:Expr}{g:List Expr}{t:TA}
end
end L2
namespace L2
open PySem PySem.Spec PyProof.Rows
theorem XM:∀{g:List Value} {c:List Int},IntsAre g c->Vals (c.map V.int) g
 | _,_,.nil=>.nil
 | _,_,.cons n t r=>.cons ⟨t,rfl⟩ (XM r)
section
variable{X:Cx}
inductive wo(K:W.Frag)(i:List V)(H:Hp)(Q:VK):Prop
 | mk (a:Addr) (g:List Int) (_:i=[.ref a]) (_:SqL K H a (g.map V.int)) (_:g.length<64) (_:∀(p:Addr) (c:List Int),H p=none->c.Perm g->c.Pairwise (·<= ·)->Q (.ref p) (upd H p (.lst (c.map V.int)))):wo K i H Q
theorem xu:CallR X (.builtin "sorted") (wo X.K):=by
 intro t s σ H N M Q I r h;obtain⟨a,J,rfl,hx,E,q⟩:=h;obtain⟨u,rfl,D⟩:=Vals.one r;cases(show u=Value.ref a from D)
 obtain⟨g,w,C,G⟩:=I.list hx;have i:=w.length;rw[zo] at i;refine sorted_ints C.isList (Wl w) (by omega) fun c l a1 a2 a3=>?_
 obtain⟨e,A⟩:=sortedAll_at s.heap g c;have B:H (s.heap.objs.size+1)=none:=I.hok.fresh (J6 _);refine⟨.ref (s.heap.objs.size+1),_,I.laid (a:=s.heap.objs.size+1) (o:=.lst (l.map V.int)) (t':=s.toks) (fun _ _=>sortedAll_old) (J6 _) ⟨?_,c.toList,e,XM a1,?_⟩,rfl,q _ l B a2 a3⟩
 ·rw[zo,a2.length_eq,sizeLine_eq];omega
 ·rw[A]
end
section
variable{g:Program}{w:World}{κ:Type}[DecidableEq κ]{c:PySem.KeyKind g w κ}{A:Around}{E:Value->Shared->Prop}{s:Shared}
theorem zbR{d:Addr}{t:List (κ×Value)}{k:κ}{O dflt:Value}{Q:Value->Shared->Prop}(u:c.is k O=true)(hm:s.heap.DictOf c d t)(ag:t.length<=sizeLine)
  (G:∀v,valueAt t k=some v->Q v { s with toks:=s.toks+1 })
  (M:valueAt t k=none->∀h',h'.DictOf c d (stored t k dflt)->Heap.SameBut d s.heap h'->Q dflt { s with heap:=h',toks:=s.toks+1 }) :
  wpAny (model g w) A (dictSetDefault d O dflt) Q E s:=by
 obtain⟨o,B,ep,N,hc,H,hk,hp,hn⟩:=id hm;obtain⟨o',ae,ac,D,-,J,-,hf⟩:=hm.mapOf;rw[N] at D;injection D with D;subst D;rw[H] at J;injection J with aa af;subst aa;have ab:B.size<=sizeLine:=by
  have e1:=hp.length;have e2:B.toList.length=B.size:=by simp
  omega
 have Y:(B.findIdx? fun en=>c.is k en.key)=t.findIdx? fun p=>decide (p.1=k):=by
  obtain⟨l⟩:=B;rw[<- hp.findIdx k];simp
 unfold dictSetDefault;refine je (zd (c.pyHash u (zd (wpAny_dictFind_of (s:={ s with toks:=s.toks+1 }) u N H hk ?_))))
 cases U:B.findIdx? fun en=>c.is k en.key with
 | some i=>
  have L:i<B.size:=(Array.findIdx?_eq_some_iff_findIdx_eq.mp U).1
  have C:valueAt t k=(B[i]?).map (·.val):=by rw[<- hf k,findBy_of_findIdx?,U]
  rw[xR L] at C;refine zd (wpAny_dictEntries (s:={ s with toks:=s.toks+1 }) N H ?_)
  rw[xR L];exact zd (xp (zp (G _ C)))
 | none=>
  have fresh:k∉t.map (·.1):=not_mem_of_findIdx_none (Y▸U)
  have I:¬(t.any fun kv=>decide (kv.1=k))=true:=fun z=>by
   obtain⟨kv,h1,h2⟩:=Xg.mp z;exact fresh (zT.mpr ⟨kv,h1,vk h2⟩)
  have C:valueAt t k=none:=by rw[<- hf k,findBy_of_findIdx?,U]
  have a0:stored t k dflt=t++[(k,dflt)]:=by rw[stored,zn I]
  refine zd (xp (zd (wpAny_updateDictKeys (s:={ s with toks:=s.toks+1 }) (hz:=ab) N H (zp (M C _ ?_ (yx ..))))))
  rw[a0];refine⟨_,_,ep+1,xP _ N (Obj.isFreed_of_dict (Obj.data_mapDictKeys H _)),hc.mapDictKeys _,Obj.data_mapDictKeys H _,hk.push u _,?_,?_⟩
  ·have z:=hp.append u (c.hash k) dflt
   obtain⟨l⟩:=B;simpa using z
  ·rw[zF,Zi]
   refine⟨hn,by simp,fun a ha b hb z=>fresh ?_⟩
   rw[show List.map (·.1) [(k,dflt)]=[k] from rfl,zP] at hb
   rw[<- hb,<- z];exact ha
end
section
variable{c:Program}{w:World}{κ:Type}[DecidableEq κ]{knd:PySem.KeyKind c w κ}
theorem zcz{d:Addr}{k:κ}{i x:Value}(o:knd.is k i=true)(H:(d==sysModules)=false) :
  MeetsIn c w (Builtin.«dict.setdefault» ⟨[.ref d,i,x],[]⟩) (fun _ R s=>∃g,s.heap.DictOf knd d g/\g.length<=sizeLine/\(∀v,valueAt g k=some v->R (.ok (.ret v)) { s with toks:=s.toks+1 }) /\
   (valueAt g k=none->∀l,l.DictOf knd d (stored g k x)->Heap.SameBut d s.heap l->R (.ok (.ret x)) { s with heap:=l,toks:=s.toks+1 })):=
 .of_wp fun A R s ⟨g,C,I,D,E⟩=>by
  delta Builtin.«dict.setdefault» Builtin.Dict.keyAndDefault;refine zd (zd (wpAny_notOrdered_dict C.typeIs (zp (a:=(d,i,some x)) ?_)))
  have B:¬(d==sysModules)=true:=by rw[H];exact qE
  refine(show wpAny _ _ (if(d==sysModules)=true then _ else(dictSetDefault d i x >>= _)) _ _ _ from ?_)
  rw[zn B];exact zd (zbR o C I (fun v hv=>zp ⟨v,rfl,D v hv⟩) fun G l t u=>zp ⟨x,rfl,E G l t u⟩)
end
section
variable{X:Cx}{i ty t:TE}{o e f:Expr}{c g:Pos}
def zhH(i ty t:TE):TE:=fun σ H Q=>i σ H fun x u=>∃a,x=.ref a/\IsD u a/\ty σ u fun y w=>t σ w fun z s=>∃l k,s a=some (.dK l)/\y=kV k/\l.length<sizeLine /\
 (∀v,z7 l k=some v->Q v s)/\(z7 l k=none->Q z (upd s a (.dK (jB l k z))))
theorem zfG(ho:PE X o i)(he:PE X e ty)(hf:PE X f t)(m:M2 X o "setdefault" c e f g):PE X (.Call (.Attribute o "setdefault" c) [e,f] [] g) (zhH i ty t):=by
 intro A s σ H Q I h;refine wpAny_Call_method m.base m.few m.line WW zdg PySem.F.type_dict_setdefault (thn (ho A s σ H _ I h) fun u s1 ⟨x,H1,L,rx,a,ex,d,q1⟩=>?_)
 subst ex;obtain rfl:u=Value.ref a:=rx;obtain⟨t1,t2,_⟩:=zcK L d;refine⟨t1,t2,?_⟩
 rw[m.trees];refine Xy rfl (WQ (wZ (thn (he A s1 σ H1 _ L q1) fun iv s2 ⟨y,H2,I2,ry,q2⟩=>
  wZ (thn (hf A s2 σ H2 _ I2 q2) fun fv s3 ⟨z,H3,G,U,w,k,N,ey,l,g1,g2⟩=>Qq ?_))))
 subst ey;obtain⟨zz,O,Y,B,M⟩:=Vv G.hok N;have hz:Y.length<=sizeLine:=by rw[<- B.length];exact zz
 refine call_meetsIn zdg M.typeIs PySem.F.entry_dict_setdefault (PySem.F.args_dict_setdefault_3 _ _ _) (zcz (knd:=zG X.prog X.w) (xo ry) O) ⟨Y,M,hz,fun v hv=>?_,fun hn h' E hs=>?_⟩
 ·have C:=B.val k
  rw[hv] at C;cases D:z7 w k with
  | none=>rw[D] at C;exact C.elim
  | some J=>
   rw[D] at C;exact⟨J,H3,G.tok _,C,g1 J D⟩
 ·have C:=B.val k
  rw[hn] at C;have D:z7 w k=none:=by
   cases D:z7 w k with
   | none=>rfl
   | some J=>rw[D] at C;exact C.elim
  have hl:(jB w k z).length<=sizeLine:=by have:=xc w k z;omega
  have ee:∃q,h'.get? a=some q:=let ⟨q,_,_,hq,_⟩:=E;⟨q,hq⟩
  exact⟨z,_,ZB G (by rw[N];exact True.intro) hs ee (JU hl O (B.put k U) E),U,g2 D⟩
end
theorem zfa{P:Program}{w:World}{k:Key}{u:Value}(h:(zG P w).is k u=true):RelV (kV k) u:=by
 rw[Wh] at h;rcases qz h with ⟨i,t,rfl,rfl⟩ | ⟨x,t,rfl,rfl⟩
 ·exact⟨t,rfl⟩
 ·exact⟨t,rfl⟩
theorem KV.get:∀{c:List (Key×V)} {g:List (Key×Value)} {j:Nat} {q:Key×Value},KV c g->g[j]? =some q->∃p,c[j]? =some p/\p.1=q.1/\RelV p.2 q.2
 | _,_,j,_,.nil,e=>by simp at e
 | _,_,0,_,.cons h _,e=>by simp at e;subst e;exact⟨_,rfl,h⟩
 | _,_,j+1,_,.cons _ t,e=>by
  obtain⟨p,e1,r⟩:=KV.get (j:=j) t (by simpa using e)
  exact⟨p,by simpa using e1,r⟩
section
variable{X:Cx}
end
section
variable{X:Cx}{i ty:TE}{o e:Expr}{c g:Pos}
end
section
variable{X:Cx}
end
def zdr(d:Addr)(o:Obj)(c:List (Key×V)):It:=
 ⟨fun i H=>H d=some (.frz o (.dK c))/\i<c.length,fun i H x g=>g=H/\∃k v,c[i]? =some (k,v)/\x=kV k,fun i H=>H d=some (.frz o (.dK c))/\c.length<=i⟩
theorem Q9{P:Program}{w:World}:∀{g:List DictEntry} {l:List (Key×Value)},Pairs (zG P w) g l->∀{i:Nat} {q:Key×Value},l[i]? =some q->∃c,g[i]? =some c/\(zG P w).is q.1 c.key=true
 | _,_,.nil,_,_,h=>by simp at h
 | _,_,.cons o _ t,0,_,h=>by simp at h;subst h;exact⟨_,rfl,o⟩
 | _,_,.cons _ _ t,i+1,_,h=>by
  obtain⟨c,e,r⟩:=Q9 t (i:=i) (by simpa using h)
  exact⟨c,by simpa using e,r⟩
theorem KV.back:∀{c:List (Key×V)} {g:List (Key×Value)} {j:Nat} {p:Key×V},KV c g->c[j]? =some p->∃q,g[j]? =some q/\p.1=q.1
 | _,_,j,_,.nil,e=>by simp at e
 | _,_,0,_,.cons h _,e=>by simp at e;subst e;exact⟨_,rfl,h.1⟩
 | _,_,j+1,_,.cons _ t,e=>by
  obtain⟨q,e1,r⟩:=KV.back (j:=j) t (by simpa using e)
  exact⟨q,by simpa using e1,r⟩
theorem Vs{P:Program}{w:World}{H:Hp}{h:Heap}{d:Addr}{o:Obj}{c:List (Key×V)}{g:Array DictEntry}{t:Nat}(ok:HOk P w H h)(e:H d=some (.frz o (.dK c)))(C:o.data=.dict g t):RawD h d g t/\g.size=c.length /\
  ∀(i:Nat) (k:Key) (v:V),c[i]? =some (k,v)->∃l:DictEntry,g[i]? =some l/\RelV (kV k) l.key:=by
 obtain⟨e1,z,y,Y,r,U,I,G,u,J,A,L,B,M⟩:=(show ObjOk P w H h d (.frz o (.dK c)) from ok d _ e)
 rw[e1] at u;cases u;rw[C] at A;cases A;have N:=B.length;have O:=r.length;have Q:g.toList.length=g.size:=qF;refine⟨⟨o,e1,J,C⟩,by omega,fun i k v hk=>?_⟩
 obtain⟨q,e2,s⟩:=KV.back r hk;obtain⟨l,D,E⟩:=Q9 B e2;have s:k=q.1:=s;exact⟨l,by rw[<- yz];exact D,by rw[s];exact zfa E⟩
theorem VS{P:Program}{w:World}{K:W.Frag}{tg:Expr}(d l:Addr)(o:Obj)(t:List (Key×V))(es:Array DictEntry)(ep:Nat)(he:o.data=.dict es ep):QA P w K tg (zdr d o t) [l] l (fun i h=>h.IsKeyIter l d i es.size ep) where
 mem:=by simp
 obj:=fun i h st b hb=>by
  have e:b=l:=by simpa using hb
  subst e;obtain⟨o,e,c,d⟩:=st;exact⟨o,e,fun v z=>by rw[d] at z;cases z⟩
 keep:=fun i h A st k=>st.at fun o e=>k l (by simp) o e
 item:=by
  intro X N Y M hc i g s σ H E I B st U;subst N Y M;obtain⟨O,hi⟩:=U;obtain⟨rd,sz,all⟩:=Vs I.hok O he;obtain⟨⟨k,v⟩,hx⟩:∃p,t[i]? =some p:=⟨t[i],by simp[hi]⟩
  obtain⟨en,Q,ek⟩:=all i k v hx;obtain⟨C,D,f2,G,J,L⟩:=B l (by simp)
  refine zb2 st rd Q fun A u sb=>?_
  have I1:Inv X g σ H { s with heap:=A }:=I.turned (t':=s.toks) (fun b o hb e=>(sb.2 b hb).trans e) C D G J L
  obtain⟨o',e',c',d'⟩:=id u;exact⟨_,rfl,Je (s:={ s with heap:=A }) e' c' d' (by decide) ⟨kV k,H,I1,ek,⟨rfl,k,v,hx,rfl⟩,u,fun b hb=>(B b hb).1⟩⟩
 done:=by
  intro X N Y M hc i g s σ H E I B st U;subst N Y M;obtain⟨O,hi⟩:=U;obtain⟨rd,sz,_⟩:=Vs I.hok O he;obtain⟨C,D,f2,G,J,L⟩:=B l (by simp)
  exact zdF (I.ok.hd hc) st rd (by omega) fun A eb=>⟨rfl,I.turned (t':=s.toks) (fun b o hb e=>eb b o hb e) C D G J L⟩
 self:=fun _ _ _ _ _ st h=>wpAny_pyIter_keyiter st h
section
variable{X:Cx}{c:Expr}
def zf9(l:TE):TI:=fun σ H R=>l σ H fun x i=>∃d g,x=.ref d/\i d=some (.dK g)/\∀o,R (zdr d o g) (upd i d (.frz o (.dK g)))
theorem zcb{l:Expr}{J:TE}(Q:PE X l J):PI X c l (zf9 J):=by
 intro g s σ H R I h;refine thn (Q g s σ H _ I h) fun v s1 ⟨x,E,t,Y,U⟩=>?_
 obtain⟨d,i,e,D,q⟩:=U;subst e;cases Y;obtain⟨z,y,vs,r,o,B,A,w,G,C,M,N,O⟩:=(show ObjOk X.prog X.w E s1.heap d (.dK i) from t.hok d _ D)
 refine zb1 y ⟨o,w,G,C⟩ ?_
 have L:Inv X g σ (upd E d (.frz o (.dK i))) { s1 with heap:=s1.heap.push { cls:=.type "dict_keyiterator",data:=.fields #[.ref d,.int 0 0,.int B.size 0,.int A 0] },toks:=s1.toks }:=by
  refine t.write (x:=d) (e:=d) (by rw[D];exact True.intro) (.inl rfl) (fun b u _ e=>zI _ e) ⟨o,zI _ w⟩ ?_
  exact⟨zI _ w,z,y,vs,r,o,B,A,zI _ w,G,C,M,N,O⟩
 refine⟨s1.heap.objs.size,[s1.heap.objs.size],_,_,_,rfl,L,VS d _ o i B A C,⟨_,qv _ rfl,rfl,rfl⟩,fun b hb=>?_,q o⟩
 have e:b=s1.heap.objs.size:=by simpa using hb
 subst e;refine t.fpOk (zy _) ?_
 rw[zk (zN (zm D (t.hok.fresh (zy _))))];exact t.hok.fresh (zy _)
end
theorem zcH{d:Addr}{o:Obj}{kvs:List (Key×V)}{n:Nat}{g:TG}{J:TT}{I:TE}{w:St}{R:List V->Hp->Prop}{H:Hp}(Pv:Nat->List V->Hp->Prop)(L:Pv 0 [] H)
  (E:∀i c H,Pv i c H->H d=some (.frz o (.dK kvs)))
  (O:∀i k v c H,kvs[i]? =some (k,v)->Pv i c H->g (kV k) w H fun s C=>s.drop n=w.drop n/\J s C fun b t=>if b=true then I s t fun v D=>c.length<sizeLine/\Pv (i+1) (c++[v]) D else Pv (i+1) c t)
  (N:∀c H,Pv kvs.length c H->c.length<=sizeLine/\R c H) :
  ∃W:Nat->Nat->List V->Hp->Prop,(∃m,W 0 m [] H)/\∀i m c l,W i m c l ->
   ((zdr d o kvs).stop i l/\c.length<=sizeLine/\R c l) \/
   ((zdr d o kvs).go i l/\∃M:List V->Hp->Prop,(∀c A,M c A->∃G,G<m/\W (i+1) G c A)/\∀x B,(zdr d o kvs).yld i l x B->g x w B fun s C=>s.drop n=w.drop n/\J s C fun b t=>
    if b=true then I s t fun y D=>c.length<sizeLine/\M (c++[y]) D else M c t):=by
 refine⟨fun i m c l=>m=kvs.length-i/\i<=kvs.length/\Pv i c l,⟨_,rfl,qB _,L⟩,?_⟩
 rintro i m c l ⟨rfl,hi,p⟩;by_cases u:i<kvs.length
 ·refine .inr ⟨⟨E i c l p,u⟩,Pv (i+1),fun a0 A Q=>⟨_,by omega,rfl,u,Q⟩,fun x B y=>?_⟩
  obtain⟨e,k,v,hk,rfl⟩:=y;subst e;exact O i k v c _ hk p
 ·have e:i=kvs.length:=by omega
  subst e;obtain⟨U,Y⟩:=N c l p;exact .inl ⟨⟨E _ c l p,zy _⟩,U,Y⟩
section
variable{X:Cx}{c:Expr}
def zhP(K:W.Frag)(l:TE):TI:=fun σ H R=>l σ H fun x g=>∃a,x=.ref a/\(((∃i,SqL K g a i)/\R (Itl K a) g)\/((∃i,SqT K g a i)/\R (Itt K a) g))
theorem zb9{l:Expr}{A:TE}(B:PE X l A):PI X c l (zhP X.K A):=by
 intro t s σ H R I h;refine thn (B t s σ H _ I h) fun v s1 ⟨x,u,g,E,D⟩=>?_
 obtain⟨a,e,q⟩:=D;subst e;cases E;have w:∀b∈[s1.heap.objs.size],_:=fun b hb=>by
  have e:b=s1.heap.objs.size:=by simpa using hb
  subst e;exact g.fpOk (zy _) (g.hok.fresh (zy _))
 rcases q with ⟨⟨L,hq⟩,q⟩ | ⟨⟨L,hq⟩,q⟩
 ·obtain⟨i,G,p,C⟩:=g.list hq
  refine wpAny_pyIter_list p.isList ⟨s1.heap.objs.size,[s1.heap.objs.size],_,_,u,rfl,g.kept (t':=s1.toks) fun b o e=>zI _ e,QR a _,⟨_,qv _ rfl,rfl,rfl⟩,?_,q⟩
  exact w
 ·obtain⟨i,G,p,C⟩:=g.tuple hq
  refine wpAny_pyIter_tuple (show s1.heap.IsTuple a i.toArray from p) ⟨s1.heap.objs.size,[s1.heap.objs.size],_,_,u,rfl,g.kept (t':=s1.toks) fun b o e=>zI _ e,ZF a _,⟨_,qv _ rfl,rfl,rfl⟩,?_,q⟩
  exact w
end
open Sem (wp)
theorem JJ:typeLookup (.type "list") "keys" = pure none:=by rw[typeLookup_type,builtinLookup_eq_fast];kernel_rfl
theorem JK:typeLookup (.type "list") "__getattr__" = pure none:=by rw[typeLookup_type,builtinLookup_eq_fast];kernel_rfl
theorem yD:isSubtype (.type "AttributeError") (.type "AttributeError")=pure true:=by rw[isSubtype_type];kernel_rfl
section
variable{c:Program}{w:World}{A:Around}{E:Value->Shared->Prop}{s:Shared}
theorem V5{α:Type}{M:Model}{o:Value}{i g:Str}{Q:α->Shared->Prop}(u:A.handled=none)(B:g.length<=sizeLine)
  (hq:∀l C e,(∀b p,s.heap.get? b=some p->l.get? b=some p)->(∃t,l.get? e=some t/\t.cls=.type "AttributeError")->E (.ref e) { s with heap:=l,toks:=C }) :
  wpAny M A (raiseAttrError o i g:Sem α) Q E s:=by
 unfold raiseAttrError newExc newTuple;refine zd (wpAny_mkStr (zd (zd (xO (zd (m:=firstArgMember _ _) (yT (a:=Value.none) (by simp only[firstArgMember];rfl) (xO ?_)))))) B)
 refine zd (wpAny_mkText (zd (show wpAny _ _ (noteAttr _ _ _) _ _ _ from ?_)))
 unfold noteAttr;dsimp only;unfold lacksNameAndObj;refine zd (zd (vV (T:= "AttributeError") ⟨_,qv _ rfl,rfl⟩ yD ?_))
 refine zd (wpAny_load (qv _ rfl) ?_)
 refine zp ?_
 refine zd (xp (zd (wb (T:= "AttributeError") ⟨_,qv _ rfl,rfl⟩ ?_)))
 refine wpAny_layMembers (qv _ rfl) rfl ?_
 unfold raiseNew;refine zd (wpAny_handled ?_);rw[u];refine zd (zp (wpAny_throw ?_))
 refine hq _ _ _ (fun b p e=>?_) ⟨_,xP _ (qv _ rfl) (WS (Qs rfl _)),WD _ _⟩
 rw[vY _ _ (vg (jt (zA e) (by simp)))]
 exact zI _ (zI _ e)
end
section
variable{c:Program}{w:World}{A:Around}{E:Value->Shared->Prop}{h:Heap}{g:Array GenState}{d:Drawn}{t:Nat}{os:OsState}{a:Addr}{n:Nat}{i:Array Value}
theorem Zw{B:Tok}{Q:Fin->Shared->Prop}(s:A.handled=none)(hx:h.get? a=some { cls:=.type "list",data:=.seq i n })
  (hq:∀l u e,(∀b p,h.get? b=some p->l.get? b=some p)->(∃o,l.get? e=some o/\o.cls=.type "AttributeError")->E (.ref e) ⟨l,g,d,u,os⟩) :
  wpAny (model c w) A (Builtin.«object.__getattribute__» ⟨[.ref a,.str "keys" B],[]⟩) Q E ⟨h,g,d,t,os⟩:=by
 have D:(⟨h,g,d,t,os⟩:Shared).TypeIs (.ref a) "list" :=⟨_,hx,rfl⟩;have C:=JJ;repeat(any_goals (first| assumption | wp_step))
 refine V5 s ?_ hq
 rw[sizeLine_eq];decide +kernel
theorem ZY{B:Tok}{R:Result->Shared->Prop}(s:A.handled=none)(hx:h.get? a=some { cls:=.type "list",data:=.seq i n })
  (hq:∀l u e,(∀b p,h.get? b=some p->l.get? b=some p)->(∃o,l.get? e=some o/\o.cls=.type "AttributeError")->R (.error (.ref e)) ⟨l,g,d,u,os⟩) :
  codeAny (model c w) A (.call (.builtin "list.__getattribute__") ⟨[.ref a,.str "keys" B],[]⟩) R ⟨h,g,d,t,os⟩:=
 codeAny_call_builtin XC.plain F.entry_list_ga (XC.check _ _ _ _ _ _ _ _ (show(⟨h,g,d,t,os⟩:Shared).TypeIs (.ref a) "list" from ⟨_,hx,rfl⟩) (F.args_list_getattribute_2 _ _) (Zw s hx hq))
theorem JL{C:Tok}{Q:Value->Shared->Prop}(B:A.handled=none)(hx:h.get? a=some { cls:=.type "list",data:=.seq i n })
  (hq:∀l s e,(∀b p,h.get? b=some p->l.get? b=some p)->(∃o,l.get? e=some o/\o.cls=.type "AttributeError")->E (.ref e) ⟨l,g,d,s,os⟩):wpAny (model c w) A (getAttrBy (.ref a) (.str "keys" C) false) Q E ⟨h,g,d,t,os⟩:=by
 have H:(⟨h,g,d,t,os⟩:Shared).TypeIs (.ref a) "list" :=⟨_,hx,rfl⟩;have D:=XC.lookup;have G:=XC.bind (.ref a);repeat(any_goals (first| assumption | wp_step))
 refine ZY B hx fun l s e k ⟨o,u,hc⟩=>?_
 dsimp only;unfold getattributeRaised;refine zd (vV (T:= "AttributeError") ⟨_,u,hc⟩ yD ?_)
 rw[zr rfl];unfold hookBehind;refine zd ?_
 rw[zn (by decide)]
 refine yT JK ?_
 unfold hookOrError attributeErrorLeaves;dsimp only;rw[zr (show(!false)=true from rfl)]
 first
  | exact wpAny_throw (hq l s e k ⟨o,u,hc⟩)
  | exact zd (wpAny_throw (hq l s e k ⟨o,u,hc⟩))
theorem ZZ{Q:Option Value->Shared->Prop}(s:A.handled=none)(hx:h.get? a=some { cls:=.type "list",data:=.seq i n })
  (hq:∀l o,(∀b p,h.get? b=some p->l.get? b=some p)->Q none ⟨l,g,d,o,os⟩):wpAny (model c w) A (getAttr? (.ref a) "keys") Q E ⟨h,g,d,t,os⟩:=by
 unfold getAttr? getAttrBy?;refine zd (wpAny_mkText (zd (vv (JL s hx fun l o e k ⟨B,u,hc⟩=>?_))))
 dsimp only;refine zd (vV (T:= "AttributeError") ⟨_,u,hc⟩ yD ?_)
 rw[zr rfl];exact zp (hq l o k)
end
end L2
namespace L2
open PySem PySem.Spec PyProof.Rows
theorem wE:entryFor table "dict.update.loop" = some Builtin.«dict.update.loop»:=entryFor_of_tree (by kernel_rfl)
theorem j8:plainId "dict.update.loop" = true:=by decide +kernel
theorem Vl{K:Type}[DecidableEq K](c more:List (K×Value))(i:Nat)(g:K×Value)(h:more[i]? =some g):merged (stored c g.1 g.2) (more.drop (i+1))=merged c (more.drop i):=by
 obtain⟨l,o⟩:=zK.mp h;rw[zc8 l,o];rfl
section
variable{c:Program}{w:World}{K:Type}[DecidableEq K]{knd:KeyKind c w K}{A:Around}{R:Result->Shared->Prop}{it l D:Addr}{items:Array Value}{pairs:List (K×Value)}{res:Value}
theorem zef(hh:A.handled=none)(N:l≠it)(O:l≠D)(E:it≠D)(a0:pairs.length=items.size) :
  ∀(m:Nat) (s:Shared) (i:Nat) (g:List (K×Value)),items.size-i=m->i<=items.size->s.heap.IsListIter it l i->s.heap.IsList l items->s.heap.DictOf knd D g->g.length+m<=sizeLine ->
   (∀(j:Nat) (u:Value),items[j]? =some u->∃(T:Addr) (k:K) (t v:Value),u=.ref T/\T≠it/\T≠D/\IsTup s.heap T #[t,v]/\knd.is k t=true/\pairs[j]? =some (k,v)) ->
   (∀C tk,C.DictOf knd D (merged g (pairs.drop i))->(∀b o,b≠it->b≠D->s.heap.get? b=some o->C.get? b=some o)->R (.ok (.ret res)) { s with heap:=C,toks:=tk }) ->
   codeAny (model c w) A (.builtin "dict.update.loop" ⟨[.ref D,.ref it,.int i 0,res],[]⟩) R s:=by
 intro m;induction m with
 | zero=>
  intro s i g hm hi U J L hz Q q;have G:items[i]? =none:=by simp;omega
  refine codeAny_builtin wE ?_
  rw[yy j8 _];show wpAny _ A.in1 (pyNext (.ref it) >>= _) _ _ s;refine zd (wpAny_pyNext_list_end hh U J G fun C hx=>?_)
  show wpAny _ _ (Builtin.Dict.addKeywords D [] >>= _) _ _ _;refine zd (zp (zp ?_))
  have e0:merged g (pairs.drop i)=g:=by rw[List.drop_eq_nil_of_le (by omega)];rfl
  have:=q C s.toks (by rw[e0];exact L.extBut hx (zN E)) (fun b o hb _ e=>?_)
  ·exact this
  ·exact hx b o hb e
 | succ m ih=>
  intro s i g hm hi U J L hz Q q;have H:i<items.size:=by omega
  obtain⟨u,hu⟩:∃u,items[i]? =some u:=⟨_,xR H⟩;obtain⟨T,k,t,v,rfl,nT,nD,tT,kk,ep⟩:=Q i u hu;refine codeAny_builtin wE ?_
  rw[yy j8 _];show wpAny _ A.in1 (pyNext (.ref it) >>= _) _ _ s;refine zd (wpAny_pyNext_list_item U J hu fun h1 i1 s1=>?_)
  dsimp only;refine zd (je (zd ?_))
  obtain⟨oT,eT,cT,nn,dT⟩:=tT;have Y:∀b o,b≠it->s.heap.get? b=some o->h1.get? b=some o:=fun b o hb e=>(s1.2 b hb).trans e
  have M:({ s with heap:=h1 }:Shared).TypeIs (.ref T) "tuple" :=⟨_,Y _ _ nT eT,cT⟩;show wpAny _ _ (tryCatch (Builtin.Dict.pairItems (.ref T)) _) _ _ _;refine yX ?_
  unfold Builtin.Dict.pairItems;refine zd (wb M ?_)
  rw[zr (show(Value.type "tuple" == Value.type "list" || Value.type "tuple" == Value.type "tuple")=true by decide)]
  refine zd (xi (Y _ _ nT eT) dT (zp ?_))
  show wpAny _ _ (holding [t,v] (dictSet D t v)) _ _ _;refine je (wpAny_dictSet_pairs kk (L.sameBut s1 (zN E)) (hsz:=by omega) fun h2 d2 s2=>?_)
  refine zp ⟨plainId_quiet j8 _,?_⟩
  have k2:∀b o,b≠it->b≠D->s.heap.get? b=some o->h2.get? b=some o:=fun b o hb B e=>(s2.2 b B).trans (Y b o hb e)
  have lst:(stored g k v).length<=g.length+1:=stored_length_le g k v;have:=ih { s with heap:=h2,toks:=s.toks+1 } (i+1) (stored g k v) (by omega) H (i1.at fun o e=>(s2.2 it E).trans e) (J.at fun o e=>k2 l o N O e) d2 (by omega)
   (fun j u hj=>by
    obtain⟨T',k',I,v',z1,z2,z3,z4,z5,z6⟩:=Q j u hj;obtain⟨o',e',r'⟩:=z4;exact⟨T',k',I,v',z1,z2,z3,⟨o',k2 _ _ z2 z3 e',r'⟩,z5,z6⟩)
   (fun C tk d' kp=>q C tk (by rw[<- Vl g pairs i (k,v) ep];exact d') fun b o hb B e=>kp b o hb B (k2 b o hb B e))
  exact this
end
def zgf:Obj:={ cls:=.type "dict",data:=.dict #[] }
theorem QG:(Value.type "list" != Value.type "dict")=true:=by decide
section
variable{c:Program}{w:World}{K:Type}[DecidableEq K]{knd:KeyKind c w K}{A:Around}{E:Value->Shared->Prop}{s:Shared}
theorem Zy{l:Addr}{items:Array Value}{n:Nat}{pairs:List (K×Value)}{Q:Value->Shared->Prop}(hh:A.handled=none)(H:s.heap.get? l=some { cls:=.type "list",data:=.seq items n })(C:pairs.length=items.size)(L:items.size<=sizeLine)
  (ht:∀(j:Nat) (u:Value),items[j]? =some u->∃(T:Addr) (k:K) (g v:Value),u=.ref T/\IsTup s.heap T #[g,v]/\knd.is k g=true/\pairs[j]? =some (k,v))
  (h:∀B U,B.DictOf knd s.heap.objs.size (merged [] pairs)->(∀b o,s.heap.get? b=some o->B.get? b=some o)->Q (.ref s.heap.objs.size) { s with heap:=B,toks:=U }) :
  wpAny (model c w) A (call (.type "dict") [.ref l]) Q E s:=by
 have J:(s.heap.push zgf).DictOf knd s.heap.objs.size []:=.new s.heap;have i:=zI zgf H;refine callType_codes (Q₁:=fun u s1=>u=.ref s.heap.objs.size/\s1={ s with heap:=s.heap.push zgf }) F.kt_called_dict (F.kt_typeCall_dict_1 _) F.entry_dict_init (kt_code_dict_new _ ⟨rfl,rfl⟩) fun u s1 e=>?_
 obtain⟨eu,es⟩:=e;subst eu es;refine⟨J.typeIs,F.args_dict_init_2 _ _,?_⟩
 show wpAny _ _ (Builtin.Dict.selfAndRest _ _ >>= fun x=>Builtin.Dict.updateCommon _ _ x.1 x.2 _) _ _ _
 refine zd (zd (wpAny_notOrdered_dict J.typeIs ?_))
 refine zp (show wpAny _ _ (Builtin.Dict.updateFrom "dict.__init__" s.heap.objs.size (.ref l) [] .none) _ _ _ from ?_)
 refine zd (wb (T:= "list") ⟨_,i,rfl⟩ ?_)
 rw[zr QG];refine zd (ZZ hh i fun G t1 I=>?_)
 rw[zr (show(none:Option Value).isNone=true from rfl)]
 refine zd (xp (zd (wpAny_pyIter_list ⟨_,I _ _ i,rfl,n,rfl⟩ ?_)))
 have Y:=J.keep I;have O:=zA H;obtain⟨oD,_,_,eD,_⟩:=id Y;have N:=zA eD;have M:∀b o,s.heap.get? b=some o->(G.push { cls:=.type "list_iterator",data:=.fields #[.ref l,.int 0 0] }).get? b=some o:=fun b o e=>zI _ (I _ _ (zI _ e))
 have t:∀b o,s.heap.get? b=some o->b<G.objs.size:=fun b o e=>zA (I _ _ (zI _ e))
 refine zp ⟨plainId_quiet j8 _,?_⟩
 refine zef (knd:=knd) (s:=⟨G.push { cls:=.type "list_iterator",data:=.fields #[.ref l,.int 0 0] },s.gens,s.drawn,t1,s.os⟩) (l:=l) (it:=G.objs.size) (D:=s.heap.objs.size) (items:=items) (pairs:=pairs) (A:=A.in1) (res:=.none) hh (zS (t _ _ H)) (zS O) (vg N) C items.size 0 [] rfl (qB _) ⟨_,qv _ rfl,rfl,rfl⟩ ⟨_,M _ _ H,rfl,n,rfl⟩ (Y.push _) (by simpa using L) (fun j u hj=>?_) (fun B U d' kp=>?_)
 ·obtain⟨T,k,g,v,rfl,⟨o,e,r⟩,z,y⟩:=ht j u hj
  exact⟨T,k,g,v,rfl,zS (t _ _ e),zS (zA e),⟨o,M _ _ e,r⟩,z,y⟩
 ·exact⟨rfl,h B U (by simpa using d') fun b o e=>kp b o (zS (t _ _ e)) (zS (zA e)) (M _ _ e)⟩
end
def PrsL(H:Hp)(g:List V)(c:List (Key×V)):Prop:=g.length=c.length/\∀(j:Nat) (x:V),g[j]? =some x->∃(T:Addr) (k:Key) (v:V),x=.ref T/\H T=some (.tup [kV k,v])/\c[j]? =some (k,v)
theorem PrsL.nil{H:Hp}:PrsL H [] []:=⟨rfl,fun j x e=>by simp at e⟩
theorem PrsL.same{H i:Hp}{l:List V}{g:List (Key×V)}(h:PrsL H l g)(s:Same H i):PrsL i l g:=⟨h.1,fun j x e=>let ⟨T,k,v,a,b,c⟩:=h.2 j x e;⟨T,k,v,a,s _ _ b,c⟩⟩
theorem PrsL.snoc{H:Hp}{o:List V}{i:List (Key×V)}{T:Addr}{k:Key}{v:V}(h:PrsL H o i)(e:H T=some (.tup [kV k,v])):PrsL H (o++[.ref T]) (i++[(k,v)]):=by
 refine⟨by rw[zL,zL,h.1];rfl,fun j x g=>?_⟩
 have l:=h.1;by_cases t:j<o.length
 ·rw[jV t] at g
  obtain⟨s,u,w,a,b,c⟩:=h.2 j x g;exact⟨s,u,w,a,b,by rw[jV (by omega)];exact c⟩
 ·rw[jW (by omega)] at g
  have:j=o.length:=by
   have:=(zK.mp g).1;simp at this;omega
  subst this;simp at g;subst g;exact⟨T,k,v,rfl,e,by rw[l,jW (zy _)];simp⟩
theorem ze9:∀{c:List (Key×V)} {g:List (Key×Value)},c.length=g.length->(∀(j:Nat) p,g[j]? =some p->∃q,c[j]? =some q/\q.1=p.1/\RelV q.2 p.2)->KV c g
 | [],[],_,_=>.nil
 | [],_::_,h,_=>by simp at h
 | _::_,[],h,_=>by simp at h
 | x::l,u::i,h,f=>by
  refine .cons ?_ (ze9 (by simpa using h) fun j v e=>?_)
  ·obtain⟨y,e1,r⟩:=f 0 u rfl
   cases e1;exact r
  ·obtain⟨y,e1,r⟩:=f (j+1) v (by simpa using e)
   exact⟨y,by simpa using e1,r⟩
theorem Ze{α β:Type}:∀(P:Nat->α->β->Prop) (l:List α),(∀j u,l[j]? =some u->∃b,P j u b)->∃g:List β,g.length=l.length/\∀j u,l[j]? =some u->∃b,g[j]? =some b/\P j u b
 | _,[],_=>⟨[],rfl,fun j u e=>by simp at e⟩
 | P,x::l,f=>by
  obtain⟨b,hb⟩:=f 0 x rfl;obtain⟨g,i,o⟩:=Ze (fun j=>P (j+1)) l fun j u e=>f (j+1) u (by simpa using e)
  refine⟨b::g,by simp[i],fun j u e=>?_⟩
  cases j with
  | zero=>simp at e;subst e;exact⟨b,rfl,hb⟩
  | succ j=>
   obtain⟨c,s,t⟩:=o j u (by simpa using e)
   exact⟨c,by simpa using s,t⟩
theorem Vals.at:∀{c:List V} {g:List Value} {i:Nat} {u:Value},Vals c g->g[i]? =some u->∃x,c[i]? =some x/\RelV x u:=fun {c g i u} r e=>by
 have l:=Vals.length r;have h:=(zK.mp e).1;obtain⟨v,e1,o⟩:=r.get (i:=i) (x:=c[i]'(by omega)) (qA _)
 rw[e] at e1;cases e1;exact⟨_,qA _,o⟩
section
variable{X:Cx}
inductive yC(g:List V)(H:Hp)(Q:VK):Prop
 | mk (a:Addr) (i:List V) (c:List (Key×V)) (_:g=[.ref a]) (_:H a=some (.lst i)) (_:PrsL H i c) (_:∀p,H p=none->Q (.ref p) (upd H p (.dK (jJ [] c)))):yC g H Q
theorem Wo(Y:X.A.handled=none):CallR X (.type "dict") (yC):=by
 intro G s σ H xs us Q I r h;obtain⟨a,ys,i,rfl,hx,J,q⟩:=h;obtain⟨u,rfl,ru⟩:=Vals.one r;cases(show u=Value.ref a from ru)
 obtain⟨zz,l,n,t,hl⟩:=(show ObjOk X.prog X.w H s.heap a (.lst ys) from I.hok a _ hx)
 have ln:=t.length;have kn:=J.1;have w:∀(j:Nat) (u:Value),l[j]? =some u->∃(T:Addr) (k:Key) (g v:Value) (y:V),u=.ref T/\IsTup s.heap T #[g,v]/\(zG X.prog X.w).is k g=true/\i[j]? =some (k,y)/\RelV y v:=fun j u D=>by
  obtain⟨x,U,rx⟩:=Vals.at t D;obtain⟨T,k,v,rfl,N,O⟩:=J.2 j x U;cases(show u=Value.ref T from rx)
  obtain⟨_,ts,rt,it,_⟩:=(show ObjOk X.prog X.w H s.heap T (.tup [kV k,v]) from I.hok T _ N)
  obtain⟨u1,u2,rfl,r1,C⟩:=Vals.two rt;exact⟨T,k,u1,u2,v,rfl,it,xo r1,O,C⟩
 obtain⟨L,lp,E⟩:=Ze (fun j u (p:Key×Value)=>∃(T:Addr) (g:Value) (y:V),u=.ref T/\IsTup s.heap T #[g,p.2]/\(zG X.prog X.w).is p.1 g=true/\i[j]? =some (p.1,y)/\RelV y p.2) l fun j u e=>by
  obtain⟨T,k,g,v,y,a,b,c,d,f⟩:=w j u e;exact⟨(k,v),T,g,y,a,b,c,d,f⟩
 have kv:KV i L:=ze9 (by omega) fun j p e=>by
  have D:=(zK.mp e).1;obtain⟨b,e1,T,g,y,_,_,_,e2,C⟩:=E j _ (qA (by omega))
  rw[e] at e1;cases e1;exact⟨_,e2,rfl,C⟩
 have mg:(jJ [] i).length<=sizeLine:=by
  have:=xW i [];rw[y6] at this;omega
 have hn:H s.heap.objs.size=none:=I.hok.fresh (zy _);refine Zy (knd:=zG X.prog X.w) (pairs:=L) (items:=l.toArray) Y hl (by simp[lp]) (by simp;omega) (fun j u e=>?_) fun h' tk M kp=>?_
 ·rw[List.getElem?_toArray] at e
  obtain⟨p,e1,T,g,y,a,b,c,d,f⟩:=E j u e;exact⟨T,p.1,g,p.2,a,b,c,e1⟩
 ·have ns:(s.heap.objs.size==sysModules)=false:=beq_eq_false_iff_ne.mpr (vg I.big)
  exact⟨.ref s.heap.objs.size,_,I.laid (a:=s.heap.objs.size) (o:=.dK (jJ [] i)) (t':=tk) kp (zy _) (JU mg ns (KV.merge kv .nil) M),rfl,q _ hn⟩
end
section
variable{X:Cx}{l C i:Expr}{o:List Expr}{c:Scope}{s:Pos}{E:TI}{g:TG}{B:TT}{A:TE}{x:Str}
variable{y:Str}{u w D:Pos}{t:Nat}
end
def Up(c:Array Nat):Prop:=c.toList.Pairwise (·< ·)
theorem Up.lt{g:Array Nat}(h:Up g){i j:Nat}{a b:Nat}(s:g[i]? =some a)(t:g[j]? =some b)(c:i<j):a<b:=by
 have l:=Qw.mp s;have o:=Qw.mp t;obtain⟨u,e1⟩:=l;obtain⟨w,e2⟩:=o;have:=XD.mp h i j (by simpa using u) (by simpa using w) c
 simpa [e1,e2] using this
theorem Qe(l:Array Nat)(j:Nat):∀(fuel lo g:Nat),g-lo<=fuel->lo<=g->g<=l.size->Up l->(∀i a,i<lo->l[i]? =some a->a<j)->(∀i a,g<=i->l[i]? =some a->j<=a) ->
  SetTable.below.go l j fuel lo g<=l.size/\(∀i a,i<SetTable.below.go l j fuel lo g->l[i]? =some a->a<j)/\∀i a,SetTable.below.go l j fuel lo g<=i->l[i]? =some a->j<=a
 | 0,lo,g,B,C,s,u,a1,a2=>by
  have e:g=lo:=by omega
  subst e;exact⟨s,a1,a2⟩
 | fuel+1,lo,g,B,C,s,u,a1,a2=>by
  unfold SetTable.below.go;by_cases c:lo<g
  ·rw[zr c]
   dsimp only;have t:(lo+g)/2<l.size:=by omega
   have o:l[(lo+g)/2]? =some (l[(lo+g)/2]'t):=xR t;have A:l.getD ((lo+g)/2) j=l[(lo+g)/2]'t:=by rw[vZ,o];rfl
   rw[A];by_cases d:l[(lo+g)/2]'t<j
   ·rw[zr d]
    refine Qe l j fuel _ g (by omega) (by omega) s u (fun i a w e=>?_) a2
    by_cases q:i=(lo+g)/2
    ·subst q;rw[o] at e;cases e;exact d
    ·have:=u.lt e o (by omega)
     omega
   ·rw[zn d]
    refine Qe l j fuel lo _ (by omega) (by omega) (by omega) u a1 fun i a w e=>?_
    by_cases q:i=(lo+g)/2
    ·subst q;rw[o] at e;cases e;omega
    ·have:=u.lt o e (by omega)
     omega
  ·rw[zn c]
   have e:g=lo:=by omega
   subst e;exact⟨s,a1,a2⟩
theorem zc3{c:Array Nat}(u:Up c)(j:Nat):SetTable.below c j<=c.size/\(∀i a,i<SetTable.below c j->c[i]? =some a->a<j)/\∀i a,SetTable.below c j<=i->c[i]? =some a->j<=a:=by
 unfold SetTable.below;exact Qe c j c.size 0 c.size (by omega) (qB _) (zy _) u (fun i a h=>absurd h (yY _)) fun i a h e=>absurd (Qw.mp e).1 (by omega)
theorem QP{c:Array Nat}(u:Up c){j:Nat}(C:c[SetTable.below c j]?≠some j):Up (SetTable.insertAt c (SetTable.below c j) j):=by
 obtain⟨b1,b2,b3⟩:=zc3 u j;unfold Up SetTable.insertAt;generalize SetTable.below c j=p at *
 have A:((c.extract 0 p).push j++c.extract p c.size).toList=c.toList.take p++(j::c.toList.drop p):=by
  simp[Array.toList_extract,List.extract_eq_drop_take];exact Qv (by simp)
 rw[A,List.pairwise_append];have w:c.toList.Pairwise (·< ·):=u
 refine⟨w.sublist (WE _ _),Qr.mpr ⟨fun a l=>?_,w.sublist (List.drop_sublist _ _)⟩,fun a l b hb=>?_⟩
 ·obtain⟨k,hk,e⟩:=zc7.mp l
  have g:c[k+p]? =some a:=by rw[<- yz,zK];exact⟨by omega,by rw[<- e];congr 1;omega⟩
  have:=b3 (k+p) a (by omega) g
  by_cases q:k=0
  ·subst q
   rw[Qi] at g;exact Nat.lt_of_le_of_ne this fun z=>C (by rw[g,z])
  ·have s:p<c.size:=by rw[qF] at hk;omega
   have:=b3 p _ (zy _) (xR s);have:=u.lt (xR s) g (by omega)
   omega
 ·obtain⟨k,hk,e⟩:=zc6.mp l
  have g:c[k]? =some a:=by rw[<- yz,zK];exact⟨by omega,e⟩
  have o:=b2 k a (by omega) g
  rcases zQ.mp hb with z | z
  ·rw[z];exact o
  ·obtain⟨t,B,e2⟩:=zc7.mp z
   have i:c[t+p]? =some b:=by rw[<- yz,zK];exact⟨by omega,by rw[<- e2];congr 1;omega⟩
   have:=b3 (t+p) b (by omega) i
   omega
structure TabOk(b:Bool)(t:SetTable):Prop where
 up:Up t.place
 no:t.dummies=#[]
 led:t.led=b
theorem Z8(j:Nat):SetTable.has #[] j=false:=by
 unfold SetTable.has;rw[show(#[]:Array Nat)[SetTable.below #[] j]? =none from Xx (by simp)]
 rfl
theorem yE{t:SetTable}(h:t.dummies=#[])(j:Nat):(t.slot j=.empty/\t.place[SetTable.below t.place j]?≠some j)\/∃i,t.slot j=.live i:=by
 unfold SetTable.slot;rw[h,Z8];dsimp only;by_cases c:(t.place[SetTable.below t.place j]? ==some j)=true
 ·rw[zr c]
  exact .inr ⟨_,rfl⟩
 ·rw[zn c,zn qE]
  exact .inl ⟨rfl,fun z=>c (by rw[z];simp)⟩
theorem QK(t:SetTable)(p:SetTable.Probe):(t.advance p).dummy=p.dummy:=by
 unfold SetTable.advance;split
 ·rfl
 ·rfl
theorem Zb{t:SetTable}(g:t.dummies=#[]){f:Nat->Int}{h:Int}:∀(fuel:Nat) (p:SetTable.Probe) (j:Nat) (d:Option Nat),SetTable.probe.go t f h fuel p=some (.empty j d)->t.place[SetTable.below t.place j]?≠some j/\d=p.dummy
 | 0,p,j,d,e=>by unfold SetTable.probe.go at e;cases e
 | fuel+1,p,j,d,e=>by
  unfold SetTable.probe.go at e;rcases yE g p.j with ⟨c1,l⟩ | ⟨i,c⟩
  ·rw[c1] at e
   cases e;exact⟨l,rfl⟩
  ·rw[c] at e
   dsimp only at e;split at e
   ·cases e
   ·have:=Zb g fuel _ j d e
    rw[QK] at this;exact this
theorem zed{t:SetTable}(i:t.dummies=#[]){h:Int}{s:Nat}{w:Bool}(e:t.freeSlot h=some (s,w)):t.place[SetTable.below t.place s]?≠some s:=by
 unfold SetTable.freeSlot SetTable.probe at e;split at e
 ·rename_i j d q
  obtain⟨c,g⟩:=Zb i _ _ _ _ q;cases(show d=none from g)
  cases e;exact c
 ·cases e
theorem zbt(n:Nat):Up (Array.range n):=by
 unfold Up;rw[Array.toList_range];exact WU
theorem TabOk.stand{b:Bool}{t:SetTable}(h:TabOk b t)(n:Nat):TabOk b (t.standIn n):=⟨zbt n,rfl,h.led⟩
theorem TabOk.plain{b p:Bool}{t:SetTable}(h:TabOk b t):TabOk b { t with plain:=p }:=⟨h.up,h.no,h.led⟩
theorem TabOk.or{b:Bool}{t:SetTable}(h:TabOk b t)(n:Nat):TabOk b (t.orStandIn n):=by
 unfold SetTable.orStandIn;split
 ·exact h
 ·exact h.stand n
theorem TabOk.layNew{b:Bool}{t:SetTable}(h:TabOk b t)(g:Array (Int×Value))(k:Int)(x:Value):TabOk b (layNew t g k x).2.1:=by
 unfold PySem.layNew;split
 ·rename_i c w e
  have i:TabOk b (t.put c).1:=⟨QP h.up (zed h.no e),by
   show(if SetTable.has t.dummies c=true then _ else t.dummies)=#[]
   rw[h.no,Z8];rfl,h.led⟩
  exact i.or _
 ·exact h.stand _
theorem Yc{α:Type}(m:Nat)(f:Nat->Option α):(((List.range m).filterMap fun j=>(f j).map (j,·)).map (·.1)).Pairwise (·< ·):=by
 have g:∀l:List Nat,((l.filterMap fun j=>(f j).map (j,·)).map (·.1)).Sublist l:=fun l=>by
  induction l with
  | nil=>exact .slnil
  | cons x l c=>
   rw[Xp];cases f x with
   | none=>exact c.cons _
   | some y=>exact c.cons₂ _
 exact List.Pairwise.sublist (g _) WU
theorem TabOk.relay{b:Bool}{t:SetTable}(h:TabOk b t)(i:Array (Int×Value))(n:Nat):TabOk b (relayAll t i n).2.1:=by
 unfold relayAll;split
 ·rename_i l g e
  dsimp only;split
  ·unfold SetTable.relaid SetTable.laid at e
   obtain⟨c,_,e2⟩:=Option.bind_eq_some_iff.mp e;cases e2;refine⟨?_,rfl,h.led⟩
   exact Yc _ fun j=>c.getD j none
  ·exact h.stand _
 ·exact h.stand _
theorem TabOk.fresh(b:Bool):TabOk b (.fresh 0 0 b):=⟨List.Pairwise.nil,rfl,rfl⟩
theorem zaW{α:Type}{l:List α}{x:α}(h:l.Nodup)(hx:x∉l):(l++[x]).Nodup:=by
 rw[Zi];exact⟨h,by simp,fun a c b hb e=>hx (by rw[zP] at hb;rw[<- hb,<- e];exact c)⟩
theorem Vf{α β:Type}{R:α->β->Prop}{u i:List β}(p:i.Perm u):∀{g:List α},Paired R g u->∃c,c.Perm g/\Paired R c i:=by
 induction p with
 | nil=>intro g h;exact⟨g,.refl _,h⟩
 | cons y _ C=>
  intro g h;cases h with
  | cons r t=>
   obtain⟨c,D,w⟩:=C t;exact⟨_::c,D.cons _,.cons r w⟩
 | swap y z l=>
  intro g h;cases h with
  | cons r t=>
   cases t with
   | cons H I=>exact⟨_,.swap _ _ _,.cons H (.cons r I)⟩
 | trans _ _ o s=>
  intro g h;obtain⟨L,E,A⟩:=s h;obtain⟨J,G,B⟩:=o A;exact⟨J,G.trans E,B⟩
theorem ZU{α β:Type}{R:α->β->Prop}{x:α}{y:β}(r:R x y):∀{c:List α} {g:List β},Paired R c g->Paired R (c++[x]) (g++[y])
 | _,_,.nil=>.cons r .nil
 | _,_,.cons h t=>.cons h (ZU r t)
theorem ZT{α β:Type}{R:α->β->Prop}:∀{c:List α} {g:List β},Paired R c g->(∀x∈c,∃y∈g,R x y)/\∀y∈g,∃x∈c,R x y
 | _,_,.nil=>⟨fun x h=>(nomatch h),fun y h=>(nomatch h)⟩
 | _,_,.cons h t=>by
  obtain⟨a,b⟩:=ZT t;refine⟨fun x hx=>?_,fun y hy=>?_⟩
  ·rcases zQ.mp hx with z | z
   ·rw[z];exact⟨_,jU,h⟩
   ·obtain⟨y,hy,r⟩:=a x z
    exact⟨y,qw _ hy,r⟩
  ·rcases zQ.mp hy with z | z
   ·rw[z];exact⟨_,jU,h⟩
   ·obtain⟨x,hx,r⟩:=b y z
    exact⟨x,qw _ hx,r⟩
section
variable{l:Program}{w:World}{K:Type}[DecidableEq K](i:KeyKind l w K)
def ElX(g:List (Int×Value))(o:List K):Prop:=ElemsOf i g/\∃c,c.Perm o/\Paired (fun k (e:Int×Value)=>i.is k e.2=true) c g
def ObX(b:Bool)(o:Obj)(g:List K):Prop:=∃c u t,o.ExactSet/\o.data=.set c u t/\ElX i c.toList g/\g.Nodup/\c.size<scanBound/\t.fits c.size=true/\TabOk b t
def SetX(b:Bool)(h:Heap)(a:Addr)(c:List K):Prop:=∃o,h.get? a=some o/\ObX i b o c
variable{i}
theorem ElX.perm{o c:List (Int×Value)}{t:List K}(h:ElX i o t)(p:c.Perm o):ElX i c t:=by
 obtain⟨u,B,C,G⟩:=h;obtain⟨g,D,pr2⟩:=Vf p G;exact⟨u.perm p,g,D.trans C,pr2⟩
theorem ElX.len{c:List (Int×Value)}{g:List K}(h:ElX i c g):c.length=g.length:=by
 obtain⟨_,o,t,u⟩:=h;rw[<- t.length_eq];exact(Xb u).symm
theorem ElX.mem{c:List (Int×Value)}{g:List K}(h:ElX i c g)(k:K):k∈g↔∃e∈c,i.is k e.2=true:=by
 obtain⟨_,t,u,B⟩:=h;obtain⟨a,b⟩:=ZT B;rw[<- u.mem_iff];refine⟨a k,fun ⟨e,o,r⟩=>?_⟩
 obtain⟨D,hk,C⟩:=b e o;rwa[i.inj _ _ _ r C]
theorem ElX.snoc{g:List (Int×Value)}{o:List K}(h:ElX i g o){k:K}{x:Value}(hk:i.is k x=true)(hx:x.scannable=true):ElX i (g++[(i.hash k,x)]) (o++[k]):=by
 obtain⟨t,c,u,B⟩:=h;exact⟨t.push hk hx,c++[k],u.append_right _,ZU (R:=fun k (e:Int×Value)=>i.is k e.2=true) hk B⟩
theorem SetX.at{b:Bool}{h c:Heap}{a:Addr}{g:List K}(x:SetX i b h a g)(k:∀o,h.get? a=some o->c.get? a=some o):SetX i b c a g:=let ⟨o,e,r⟩:=x;⟨o,k o e,r⟩
variable{A:Around}{E:Value->Shared->Prop}{s:Shared}
theorem zgT{b:Bool}{h:Heap}{a:Addr}{o:Obj}{J:Array (Int×Value)}{D:Nat}{t:SetTable}(M:h.get? a=some o)(B:o.ExactSet)(H:o.data=.set J D t){c:Array (Int×Value)}{u:SetTable}{G:List K}(I:ElX i c.toList G)(N:G.Nodup)
  (hb:c.size<scanBound) (L:u.fits c.size=true) (O:TabOk b u):∃C,(h.update a (Obj.putSet c u)).get? a=some C/\C.ExactSet/\C.data=.set c (D+1) u/\ObX i b C G:=by
 have g:=xP (Obj.putSet c u) M (by rw[putSet_of c u H];rfl)
 rw[putSet_of c u H] at g;exact⟨_,g,B,rfl,c,D+1,u,B,rfl,I,N,hb,L,O⟩
theorem zex{b:Bool}{g:Bool->Sem Unit}(hg:∀(c:Bool) (s1:Shared) (M:Unit->Shared->Prop),M () s1->wpAny (model l w) A (g c) M E s1){a:Addr}{o:Obj}{es:Array (Int×Value)}{ep:Nat}{t:SetTable}(U:s.heap.get? a=some o)(H:o.ExactSet)
  (Q:o.data=.set es ep t) {u:Array (Int×Value)} {C:SetTable} {I:List K} (O:ElX i u.toList I) (Y:I.Nodup) (hb:u.size<scanBound) (hf:C.fits u.size=true) (tb:TabOk b C) {B:Bool} {R:Option Bool->Shared->Prop}
  (h:∀G,Heap.SameBut a s.heap G->SetX i b G a I->R (some true) { s with heap:=G }) :
  wpAny (model l w) A (storeSet a u C >>= fun _=>if(!B&&C.tooFull)=true then g (relayAll C u (SetTable.grown u.size)).2.2 >>= fun _=>storeSet a (relayAll C u (SetTable.grown u.size)).1 (relayAll C u (SetTable.grown u.size)).2.1 >>= fun _=>pure (some true) else pure (some true)) R E s:=by
 obtain⟨o1,D,x1,N,J⟩:=zgT U H Q O Y hb hf tb;have sb:=yx s.heap a (Obj.putSet u C);refine zd (wpAny_storeSet_of U Q ?_ (fits_of_scanBound hb))
 split
 ·have pm:=relayAll_perm C u (SetTable.grown u.size)
  have ft:=relayAll_fits C u (SetTable.grown u.size);have tr:=tb.relay u (SetTable.grown u.size);have sz:(relayAll C u (SetTable.grown u.size)).1.size=u.size:=by have:=pm.length_eq;rwa[qF,qF] at this
  obtain⟨o2,g2,x2,d2,L⟩:=zgT D x1 N (O.perm pm) Y (by rw[sz];exact hb) ft tr
  exact zd (hg _ _ _ (zd (wpAny_storeSet_of D N (zp (h _ (sb.trans (yx _ a _)) ⟨o2,g2,L⟩)) (fits_of_scanBound (by rw[sz];exact hb)))))
 ·exact zp (h _ sb ⟨o1,D,J⟩)
theorem zhT{b:Bool}{a:Addr}{g:List K}{k:K}{x:Value}{Q:Bool->Shared->Prop}(u:i.is k x=true)(I:x.scannable=true)(hS:SetX i b s.heap a g)(H:g.length+1<scanBound)
  (h:∀D c,Heap.SameBut a s.heap D->SetX i b D a (if k∈g then g else g++[k])->Q c { s with heap:=D }):wpAny (model l w) A (setAddHashed a x (i.hash k)) Q E s:=by
 obtain⟨o,Y,J,ep,t,G,U,B,nd,hb,hf,tb⟩:=hS;have ln:=B.len;rw[qF] at ln;unfold setAddHashed setAddHashedIn;refine je (zd (wX Y U hf ?_));dsimp only
 rw[byScan_of I hb B.1,zr rfl];unfold setAddByScan;refine zd (zd (xp (zd (wpAny_setScan_of u Y U hf B.1 ?_))))
 cases hr:List.findIdx? (fun e=>i.is k e.2) J.toList with
 | some j=>
  obtain⟨hj,aa,_⟩:=List.findIdx?_eq_some_iff_getElem.mp hr
  have hk:k∈g:=(B.mem k).mpr ⟨_,vy hj,aa⟩;have:=h s.heap false (Heap.SameBut.refl a s.heap) (by rw[zr hk];exact⟨o,Y,J,ep,t,G,U,B,nd,hb,hf,tb⟩)
  exact zp (zp this)
 | none=>
  have hk:k∉g:=fun z=>by
   obtain⟨e,he,r⟩:=(B.mem k).mp z;have:=List.findIdx?_eq_none_iff.mp hr e he
   rw[r] at this;cases this
  rw[zn hk] at h;have gw:∀(c:Bool) (s1:Shared) (Q':Unit->Shared->Prop),Q' () s1->wpAny (model l w) A (match c with | true=>rule "set.scan.the-table-gave-way" | false=>pure ()) Q' E s1:=fun c s1 Q' hq=>by
   cases c
   ·exact zp hq
   ·exact xp hq
  have pm:=layNew_perm t J (i.hash k) x;have N:=layNew_fits t J (i.hash k) x;have tn:=tb.layNew J (i.hash k) x;generalize layNew t J (i.hash k) x=L at pm N tn;obtain⟨M,t1,wd,ab⟩:=L;dsimp only at pm N tn ⊢;rw[Xi] at pm;have C:ElX i M.toList (g++[k]):=(B.snoc u I).perm pm;have l1:=C.len;rw[qF,zL] at l1;have O:M.size<scanBound:=by rw[l1];exact H
  have a0:(g++[k]).Nodup:=zaW nd hk;refine zd (gw _ _ _ ?_)
  split
  ·rw[hashByValue_scannable 8 I]
   refine zd (zp (zex gw Y G U C a0 O ?_ ?_ fun D sb sx=>zp (h D true sb sx)))
   ·split
    ·exact N
    ·exact SetTable.fits_plain_off N
   ·split
    ·exact tn
    ·exact tn.plain
  ·exact zd (zp (zex gw Y G U C a0 O N tn fun D sb sx=>zp (h D true sb sx)))
end
def zcF(w:World):Bool:=!w.params.followText "set-order"
def vF(w:World):Obj:={ cls:=.type "set",dict:=none,data:=.set #[] 0 (.fresh 0 0 (zcF w)) }
section
variable{K:Type}[DecidableEq K]
def yA(c:List K)(k:K):List K:=if k∈c then c else c++[k]
def Zt(i c:List K):List K:=c.foldl yA i
theorem zbm(c:List K)(k:K):(yA c k).length<=c.length+1:=by
 unfold yA;split
 ·omega
 ·rw[zL];exact zy _
theorem zav{o c:List K}{i:Nat}{k:K}(h:c[i]? =some k):Zt (yA o k) (c.drop (i+1))=Zt o (c.drop i):=by
 obtain⟨s,t⟩:=zK.mp h;rw[zc8 s,t];rfl
variable{g:Program}{w:World}{knd:KeyKind g w K}{A:Around}{R:Result->Shared->Prop}{it l S:Addr}{items:Array Value}{keys:List K}{b:Bool}
theorem zdA(hh:A.handled=none)(J:l≠it)(L:l≠S)(D:it≠S)(a0:keys.length=items.size)(I:∀(j:Nat) (u:Value),items[j]? =some u->∃k,keys[j]? =some k/\knd.is k u=true/\u.scannable=true) :
  ∀(m:Nat) (s:Shared) (i:Nat) (B:List K),items.size-i=m->i<=items.size->s.heap.IsListIter it l i->s.heap.IsList l items->SetX knd b s.heap S B->B.length+m+1<scanBound ->
   (∀C U,SetX knd b C S (Zt B (keys.drop i))->(∀c o,c≠it->c≠S->s.heap.get? c=some o->C.get? c=some o)->R (.ok (.ret .none)) { s with heap:=C,toks:=U }) ->
   codeAny (model g w) A (.builtin "set.update.loop" ⟨[.ref S,.ref it],[]⟩) R s:=by
 intro m;induction m with
 | zero=>
  intro s i B hm hi M H N hz q;have E:items[i]? =none:=by simp;omega
  refine codeAny_builtin zdl ?_
  rw[yy W4 _];refine zd (wpAny_pyNext_list_end hh M H E fun C hx=>zp ?_)
  have e0:Zt B (keys.drop i)=B:=by rw[List.drop_eq_nil_of_le (by omega)];rfl
  exact q C s.toks (by rw[e0];exact N.at fun o e=>hx S o (zN D) e) fun c o hc _ e=>hx c o hc e
 | succ m ih=>
  intro s i B hm hi M H N hz q;have G:i<items.size:=by omega
  obtain⟨u,hu⟩:∃u,items[i]? =some u:=⟨_,xR G⟩;obtain⟨k,ek,kk,sc⟩:=I i u hu;refine codeAny_builtin zdl ?_
  rw[yy W4 _];refine zd (wpAny_pyNext_list_item M H hu fun Y i1 s1=>?_)
  have k1:∀c o,c≠it->s.heap.get? c=some o->Y.get? c=some o:=fun c o hc e=>(s1.2 c hc).trans e
  refine zd (je (show wpAny _ _ (setAdd S u) _ _ _ from je (zd (knd.pyHash kk ?_))))
  refine zhT (s:={ s with heap:=Y,toks:=s.toks+1 }) kk sc (N.at fun o e=>k1 S o (zN D) e) (by omega) fun h2 c sb Q=>?_
  have k2:∀c o,c≠it->c≠S->s.heap.get? c=some o->h2.get? c=some o:=fun c o hc t e=>(sb.2 c t).trans (k1 c o hc e)
  have lk:=zbm B k;refine zp ⟨plainId_quiet W4 _,?_⟩
  refine ih { s with heap:=h2,toks:=s.toks+1 } (i+1) (yA B k) (by omega) G (i1.at fun o e=>(sb.2 it D).trans e) (H.at fun o e=>k2 l o J L e) Q (by omega) fun C U O kp=>?_
  exact q C U (by rw[<- zav ek];exact O) fun c o hc t e=>kp c o hc t (k2 c o hc t e)
end
section
variable{i:Program}{w:World}{A:Around}{E:Value->Shared->Prop}{s:Shared}
theorem zdu{T l g:String}{args:List Value}{Q Q1:Value->Shared->Prop}(o:TypeCalled T l g)(I:checkTypeCall T ⟨args,[]⟩=pure ())
  (C:codeAny (model i w) A.in1 (.call (.builtin l) ⟨.type T::args,[]⟩) (wants Q1 E) s)
  (t:∀u s1,Q1 u s1->s1.TypeIs u T/\codeAny (model i w) A.in1 (.call (.builtin g) ⟨u::args,[]⟩) (wants (fun r s2=>r=.none/\Q u s2) E) s1) :
  wpAny (model i w) A (call (.type T) args) Q E s:=by
 obtain⟨c,tl,L⟩:=o.mro;have M:=o.made;have N:=o.sub;have O:=o.notType;have U:=o.canCreate;refine wpAny_call (codeAny_of_tree (show wpAny _ _ (callAny (.type T) _) _ _ _ from zp ⟨Code.quiet_builtin _ (by decide +kernel),codeAny_builtin F.entry_type_call ?_⟩))
 rw[Around.under_plain (weight_type_call_type T args []) rfl];repeat' (first| assumption | wp_step)
 refine codeAny_mono C fun r s1 D=>?_
 match r,D with
 | .error e,D=>exact D
 | .ok (.ret u),D=>
  obtain⟨ty,G⟩:=t _ _ D;have Y:=o.init.lookup;have m7:=o.init.bind u;repeat' (first| assumption | wp_step)
  refine codeAny_mono G fun J s2 B=>?_
  match J,B with
  | .error e,B=>exact B
  | .ok (.ret v),⟨H,hq⟩=>
   subst H;repeat' (first| assumption | wp_step)
theorem zcw(x:Value){c:Value->Shared->Prop}(h:c (.ref s.heap.objs.size) { s with heap:=s.heap.push (vF w) }) :
  codeAny (model i w) A (.call (.builtin "set.__new__") ⟨[.type "set",x],[]⟩) (wants c E) s:=by
 refine codeAny_call_builtin F.plain_set_new F.entry_set_new (yT (F.newCall_set_1 x) ?_)
 unfold Builtin.«set.__new__» Builtin.Frozenset.newClass;have o:=sub_set_self;obtain⟨l,g,d,t,os⟩:=s;dsimp only;wp_walk
 refine wpAny_askSetting (zp ?_)
 simp only[newObj];exact zd (wpAny_alloc (zp (zp h)))
end
section
variable{g:Program}{w:World}{K:Type}[DecidableEq K]{knd:KeyKind g w K}{A:Around}{E:Value->Shared->Prop}{s:Shared}
theorem zbP(h:Heap):SetX knd (zcF w) (h.push (vF w)) h.objs.size []:=
 ⟨vF w,qv _ rfl,#[],0,_,⟨rfl,rfl,rfl⟩,rfl,⟨fun e c=>by simp at c,[],.refl _,.nil⟩,Wt,by decide,rfl,TabOk.fresh _⟩
theorem zbb{l:Addr}{i:Array Value}{n:Nat}{keys:List K}{Q:Value->Shared->Prop}(hh:A.handled=none)(U:s.heap.get? l=some { cls:=.type "list",data:=.seq i n })(D:keys.length=i.size)(hb:i.size+1<scanBound)
  (I:∀(j:Nat) (u:Value),i[j]? =some u->∃k,keys[j]? =some k/\knd.is k u=true/\u.scannable=true)
  (h:∀B N,SetX knd (zcF w) B s.heap.objs.size (Zt [] keys)->(∀c o,s.heap.get? c=some o->B.get? c=some o)->Q (.ref s.heap.objs.size) { s with heap:=B,toks:=N }) :
  wpAny (model g w) A (call (.type "set") [.ref l]) Q E s:=by
 refine zdu (Q1:=fun u s1=>u=.ref s.heap.objs.size/\s1={ s with heap:=s.heap.push (vF w) }) F.called_set (F.typeCall_set_1 (.ref l)) (zcw (.ref l) ⟨rfl,rfl⟩) fun u s1 e=>?_
 obtain⟨eu,Y⟩:=e;subst eu Y;have O:(s.heap.push (vF w)).get? s.heap.objs.size=some (vF w):=qv _ rfl;have H:Shared.TypeIs { s with heap:=s.heap.push (vF w) } (.ref s.heap.objs.size) "set" :=⟨_,O,rfl⟩;have t:=zI (vF w) U;refine⟨H,codeAny_call_builtin F.called_set.init.plain F.entry_set_init (check_set_init_1 H ?_)⟩
 have m1:=F.sub_list_set;have m2:=F.sub_list_frozenset;have m3:(Value.type "list" == Value.type "dict")=false:=by decide
 have C:l<s.heap.objs.size:=zA U;unfold vF at O H t;unfold Builtin.«set.__init__» noKeywords Builtin.Frozenset.updateFrom vF;generalize G:pyIter=PI;wp_walk
 subst G;refine wpAny_pyIter_list ⟨_,t,rfl,n,rfl⟩ (zd (wpAny_runValue ?_))
 have J:A.in1.in1.in1.handled=none:=by simp[hh]
 have M:(s.heap.push (vF w)).objs.size=s.heap.objs.size+1:=jD ..;have L:∀c o,s.heap.get? c=some o->c<s.heap.objs.size:=fun c o e=>zA e
 refine zdA (knd:=knd) (b:=zcF w) (A:=A.in1.in1) (S:=s.heap.objs.size) (it:=(s.heap.push (vF w)).objs.size) (l:=l) (items:=i) (keys:=keys) J (by rw[M];exact zS (Qp C)) (zS C) (by rw[M];exact vg (wn _)) D I i.size
  ⟨(s.heap.push (vF w)).push { cls:=.type "list_iterator",data:=.fields #[.ref l,.int 0 0] },s.gens,s.drawn,s.toks,s.os⟩ 0 [] rfl (qB _) ⟨_,qv _ rfl,rfl,rfl⟩ ⟨_,zI _ t,rfl,n,rfl⟩ ((zbP s.heap).at fun o e=>zI _ e) (by rw[y6];omega) fun B N sx kp=>?_
 refine zp (zp ⟨rfl,h B N (by simpa using sx) fun c o e=>?_⟩)
 have:=L c o e;exact kp c o (by rw[M];exact zS (Qp this)) (zS this) (zI _ (zI _ e))
end
section
variable{M:Model}{A:Around}{E:Value->Shared->Prop}{s:Shared}
end
section
variable{c:Program}{w:World}{A:Around}{E:Value->Shared->Prop}{h:Heap}{g:Array GenState}{d:Drawn}{B:Nat}{os:OsState}{u a:Addr}{o:Obj}{s:Array (Int×Value)}{l:Nat}{t:SetTable}{i:Nat}
end
section
variable{c:Program}{w:World}{A:Around}{E:Value->Shared->Prop}{s:Shared}{a:Addr}{o:Obj}{l:Array (Int×Value)}{g:Nat}{t:SetTable}{i u:Nat}
end
section
variable{l:Program}{w:World}{A:Around}{E:Value->Shared->Prop}{h:Heap}{g:Array GenState}{d:Drawn}{G:Nat}{os:OsState}{B a T:Addr}{o C:Obj}{u:Array (Int×Value)}{s:Nat}{t:SetTable}{i n c:Nat}{D:Array Value}
end
section
variable{c:Program}{w:World}{A:Around}{E:Value->Shared->Prop}{s:Shared}{g:Addr}{i:Obj}
end
section
variable{g:Program}{w:World}{A:Around}
variable{s a T:Addr}{o u:Obj}{l:Array (Int×Value)}{i c:Nat}{t:SetTable}
end
section
variable{c:Program}{w:World}{A:Around}{E:Value->Shared->Prop}{s:Shared}{a:Addr}{o:Obj}{i:Array (Int×Value)}{g:Nat}{t:SetTable}
end
section
variable{X:Cx}
def V1(P:Program)(w:World)(p:Addr)(c:List Key):HO:=.ext fun h=>SetX (zG P w) (zcF w) h p c
inductive Zn(P:Program)(w:World)(g:List V)(H:Hp)(Q:VK):Prop
 | mk (a:Addr) (c:List Key) (_:g=[.ref a]) (_:H a=some (.lst (c.map kV))) (_:c.length<=4000) (_:∀p,H p=none->Q (.ref p) (upd H p (V1 P w p (Zt [] c)))):Zn P w g H Q
theorem zbc(J:X.A.handled=none):CallR X (.type "set") (Zn X.prog X.w):=by
 intro C s σ H xs us Q I r h;obtain⟨a,g,rfl,hx,hl,q⟩:=h;obtain⟨u,rfl,O⟩:=Vals.one r;cases(show u=Value.ref a from O)
 obtain⟨zz,M,n,c,G⟩:=(show ObjOk X.prog X.w H s.heap a (.lst (g.map kV)) from I.hok a _ hx)
 have ln:=c.length;rw[zo] at ln;have L:H s.heap.objs.size=none:=I.hok.fresh (zy _);have sb:scanBound=4096:=rfl;refine zbb (knd:=zG X.prog X.w) (keys:=g) J G (by simp[ln]) (by simp;omega) (fun j u e=>?_) fun Y U D k=>?_
 ·rw[List.getElem?_toArray] at e
  obtain⟨x,w,l⟩:=Vals.at c e;rw[zY] at w;obtain⟨B,E,rfl⟩:=z9.mp w;refine⟨B,E,xo l,?_⟩
  cases B with
  | inl i=>obtain⟨t,rfl⟩:=l;rfl
  | inr i=>obtain⟨t,rfl⟩:=l;rfl
 ·refine⟨.ref s.heap.objs.size,_,I.laid (a:=s.heap.objs.size) (o:=V1 X.prog X.w s.heap.objs.size (Zt [] g)) (t':=U) k (zy _) ⟨D,?_,fun h1 h2 x e=>x.at e⟩,rfl,q _ L⟩
  obtain⟨o,e,_⟩:=D;exact⟨o,e⟩
end
theorem Inv.drawn{X:Cx}{c:List (Addr×Obj)}{σ:St}{H:Hp}{s:Shared}(I:Inv X c σ H s)(d:Drawn):Inv X c σ H { s with drawn:=d }:=
 I.call' (s':={ s with drawn:=d }) (ch:=[]) rfl Un.refl I.hok I.bare fun b hb=>(nomatch hb)
section
variable{X:Cx}
theorem Vq{i:List (Addr×Obj)}{σ:St}{H:Hp}{s:Shared}{g:Heap}{vs:List Value}{out:Array Value}{zs:List V}{tk:Nat}{d':Drawn}(I:Inv X i σ H s)(c:∀b u,s.heap.get? b=some u->g.get? b=some u)(B:Vals zs out.toList)(D:zs.length<=sizeLine) :
  Inv X i σ (upd H g.objs.size (.lst zs)) { s with heap:=sortedHeap (g.push (seqObj "list" vs.toArray 0)) g.objs.size vs out,toks:=tk,drawn:=d' }/\H g.objs.size=none:=by
 have t:(g.push (seqObj "list" vs.toArray 0)).get? g.objs.size=some (seqObj "list" vs.toArray 0):=qv _ rfl;have l:s.heap.get? g.objs.size=none:=by
  cases z:s.heap.get? g.objs.size with
  | none=>rfl
  | some o=>exact absurd (zA (c _ _ z)) (xh _)
 obtain⟨w,A⟩:=sortedHeap_at (out:=out) t;refine⟨(I.drawn d').laidN (a:=g.objs.size) (o:=.lst zs) (t':=tk) (fun b o e=>?_) l ⟨D,out.toList,w,B,by rw[A]⟩,I.hok.none_of l⟩
 have C:=zA (c b o e);rw[sortedHeap_old (zS C) (by rw[jD];exact Qp C)]
 exact zI _ (c b o e)
end
section
variable{X:Cx}{C s A:Expr}{w D:List Expr}{t:Scope}{G:Pos}{wi J:TI}{Y H:TT}{U:TE}{x y z u:Str}{N O Q M tp I:Pos}{L E:Nat}
variable{o e:Expr}{g:List Expr}{to:TE}{B:TA}{i:Str}{l c:Pos}{T id:String}{r:V->List V->Hp->VK->Prop}
theorem JF{K:W.Frag}(hK:X.K=K)(pa:PlainAttrs T)(ae:Slot T i id)(af:typeOf (.builtin id)=pure (.type "method_descriptor"))(hm:MtR X id r)(ho:PE X o to)(ha:PA X (e::g) B)
  (aa:attributeBase o i X.env (eval o X.env)=eval o X.env:=by rfl)
  (ac:((backTo c (starEach (e::g) X.env)).all (fun x=>!x.1)&&(backToKw c (keywordEach [] X.env)).all (fun x=>x.1.isSome)&&decide ((e::g).length+([]:List Keyword).length+(if([]:List Keyword).isEmpty then 0 else 1)<30))=true:=by rfl)
  (ab:(l.endLine==c.line)=true:=by rfl) (hs:starEach (e::g) X.env=(false,eval e X.env)::starEach g X.env:=by rfl) (a0:(backTo c (starEach g X.env)).any (·.1)=false:=by rfl) :
  PE X (.Call (.Attribute o i l) (e::g) [] c) (tBM K T r to B):=by
 subst hK;exact yi pa ae af hm ho ha aa ac ab hs a0
end
end L2
namespace L2
open PySem PySem.Spec PyProof.Rows PySem.W
def KRun{α:Type}(c:Nat->Nat->Bool)(n:Nat):KasT α->(α->Prop)->Prop
 | .ret a,Q=>Q a
 | .ask i j k,Q=>i<n/\j<n/\KRun c n (k (c i j)) Q
theorem KRun.mono{α:Type}{l:Nat->Nat->Bool}{n:Nat}{Q g:α->Prop}(h:∀a,Q a->g a):∀{t:KasT α},KRun l n t Q->KRun l n t g
 | .ret a,x=>h a x
 | .ask i j k,⟨a,b,c⟩=>⟨a,b,KRun.mono h c⟩
def ue:=@KRun.mono
theorem KRun.bind{α β:Type}{g:Nat->Nat->Bool}{n:Nat}{f:α->KasT β}{Q:β->Prop}:∀{t:KasT α},KRun g n t (fun a=>KRun g n (f a) Q)->KRun g n (t.bind f) Q
 | .ret a,x=>x
 | .ask i j k,⟨a,b,c⟩=>⟨a,b,KRun.bind c⟩
def ug:=@KRun.bind
theorem KRun.wp{α:Type}{bt:Nat->Nat->Bool}{n:Nat}{ask:Nat->Nat->(Bool->Shared->Prop)->Shared->Prop}{J:Shared->Prop}{Q:α->Prop}{G:α->Shared->Prop}
  (o:∀i j,i<n->j<n->∀(C:Bool->Shared->Prop) s,J s->(∀l,J l->C (bt i j) l)->ask i j C s) (u:∀a s,Q a->J s->G a s):∀{t:KasT α} {s:Shared},KRun bt n t Q->J s->t.kasWp ask G s
 | .ret a,s,x,j=>u a s x j
 | .ask i j k,s,⟨a,b,c⟩,w=>o i j a b _ s w fun l g=>KRun.wp o u c g
section
variable{n:Nat}{r:Nat->Nat}
def vA(r:Nat->Nat)(p:Array Nat)(k:Nat):Nat:=r (p.getD k 0)
structure Gd(n:Nat)(p:Array Nat):Prop where
 pm:p.toList.Perm (List.range n)
theorem Gd.sz{p:Array Nat}(g:Gd n p):p.size=n:=by have:=g.pm.length_eq;rwa[qF,qQ] at this
theorem Gd.at{p:Array Nat}(g:Gd n p){k:Nat}(h:k<n):p[k]? =some (p.getD k 0):=by
 rw[vZ,xR (by rw[g.sz];exact h)]
 rfl
theorem Gd.lt{p:Array Nat}(g:Gd n p)(c:0<n)(k:Nat):p.getD k 0<n:=by
 by_cases h:k<n
 ·have:=g.at h
  rw[<- yz] at this;exact qC.mp (g.pm.mem_iff.mp (qm this))
 ·rw[vZ,Xx (by rw[g.sz];omega)]
  exact c
theorem Gd.inj{p:Array Nat}(g:Gd n p)(o:∀i j,i<n->j<n->r i=r j->i=j){i j:Nat}(u:i<n)(w:j<n)(e:vA r p i=vA r p j):i=j:=by
 have c:0<n:=by omega
 have t:=o _ _ (g.lt c i) (g.lt c j) e;have A:p.toList.Nodup:=g.pm.nodup_iff.mpr Qn;have a1:=g.at u;have a2:=g.at w;rw[<- yz] at a1 a2;obtain⟨b1,c1⟩:=zK.mp a1;obtain⟨b2,l⟩:=zK.mp a2;exact(WA A).mp (by rw[c1,l,t])
theorem Gd.rev{p:Array Nat}(g:Gd n p)(i j:Nat):Gd n (kas_rev p i j):=⟨(zdb.mp (mirror_perm p i j _)).trans g.pm⟩
theorem Gd.bub{p:Array Nat}(g:Gd n p)(i j:Nat):Gd n (bubble p i j):=⟨(zdb.mp (bubble_perm p i j)).trans g.pm⟩
def AscA(r:Nat->Nat)(p:Array Nat)(m:Nat):Prop:=∀i j,i<j->j<m->vA r p i<vA r p j
def DscA(r:Nat->Nat)(p:Array Nat)(m:Nat):Prop:=∀i j,i<j->j<m->vA r p j<vA r p i
theorem AscA.step{p:Array Nat}{m:Nat}(h:AscA r p m)(l:1<=m)(g:vA r p (m-1)<vA r p m):AscA r p (m+1):=fun i j c t=>by
 by_cases e:j=m
 ·subst e
  by_cases e2:i=j-1
  ·subst e2;exact g
  ·have:=h i (j-1) (by omega) (by omega)
   omega
 ·exact h i j c (by omega)
theorem DscA.step{p:Array Nat}{m:Nat}(h:DscA r p m)(l:1<=m)(g:vA r p m<vA r p (m-1)):DscA r p (m+1):=fun i j c t=>by
 by_cases e:j=m
 ·subst e
  by_cases e2:i=j-1
  ·subst e2;exact g
  ·have:=h i (j-1) (by omega) (by omega)
   omega
 ·exact h i j c (by omega)
variable{s:Nat->Nat->Bool}(o:∀i j,i<n->j<n->r i=r j->i=j)(hb:∀i j,i<n->j<n->s i j=decide (r i<r j))
include o hb
theorem Jy{p:Array Nat}(g:Gd n p):∀(f m:Nat),1<=m->m+f<=n->AscA r p m->KRun s n (kas_asc p f m) fun i=>AscA r p i/\m<=i/\i<=m+f/\(i<m+f->vA r p i<vA r p (i-1))
 | 0,m,t,u,a=>⟨a,zy _,zy _,fun z=>absurd z (xh _)⟩
 | f+1,m,t,u,a=>by
  have l:0<n:=by omega
  refine⟨g.lt l _,g.lt l _,?_⟩
  rw[hb _ _ (g.lt l _) (g.lt l _)];by_cases c:vA r p m<vA r p (m-1)
  ·rw[show decide (r (p.getD m 0)<r (p.getD (m-1) 0))=true from zW c]
   dsimp only;rw[zr rfl];exact⟨a,zy _,by omega,fun _=>c⟩
  ·rw[show decide (r (p.getD m 0)<r (p.getD (m-1) 0))=false from qP c]
   dsimp only;rw[zn qE];have ne:vA r p m≠vA r p (m-1):=fun z=>by have:=g.inj o (by omega) (by omega) z;omega
   refine ue (fun i ⟨b1,b2,b3,b4⟩=>⟨b1,by omega,by omega,fun z=>b4 (by omega)⟩) (Jy g f (m+1) (by omega) (by omega) (a.step t (by omega)))
theorem Vc{p:Array Nat}(g:Gd n p):∀(f m:Nat),1<=m->m+f<=n->DscA r p m->KRun s n (kas_desc f p m 0) fun x=>x.1=p/\x.2.2=0/\DscA r p x.2.1/\m<=x.2.1/\x.2.1<=m+f
 | 0,m,l,u,a=>⟨rfl,rfl,a,zy _,zy _⟩
 | f+1,m,l,u,a=>by
  have i:0<n:=by omega
  refine⟨g.lt i _,g.lt i _,?_⟩
  rw[hb _ _ (g.lt i _) (g.lt i _)];by_cases c:vA r p m<vA r p (m-1)
  ·rw[show decide (r (p.getD m 0)<r (p.getD (m-1) 0))=true from zW c]
   dsimp only;rw[zr rfl,zn (xh 0)];exact ue (fun x ⟨t,b1,b2,b3,b4⟩=>⟨t,b1,b2,by omega,by omega⟩) (Vc g f (m+1) (by omega) (by omega) (a.step l c))
  ·rw[show decide (r (p.getD m 0)<r (p.getD (m-1) 0))=false from qP c]
   dsimp only;rw[zn qE];have ne:vA r p m≠vA r p (m-1):=fun z=>by have:=g.inj o (by omega) (by omega) z;omega
   refine⟨g.lt i _,g.lt i _,?_⟩
   rw[hb _ _ (g.lt i _) (g.lt i _),show decide (r (p.getD (m-1) 0)<r (p.getD m 0))=true from zW (show vA r p (m-1)<vA r p m by omega)]
   dsimp only;rw[zr rfl];exact⟨rfl,rfl,a,zy _,(by show m<=m+(f+1);omega)⟩
theorem yF{p:Array Nat}(g:Gd n p){k:Nat}(hk:k<n)(a:AscA r p k):∀(f l h:Nat),h-l<=f->l<=h->h<=k->(∀i,i<l->vA r p i<vA r p k)->(∀i,h<=i->i<k->vA r p k<vA r p i) ->
  KRun s n (kas_place p k f l h) fun x=>x<=k/\(∀i,i<x->vA r p i<vA r p k)/\∀i,x<=i->i<k->vA r p k<vA r p i
 | 0,l,h,A,B,t,a1,a2=>by
  have e:l=h:=by omega
  subst e;exact⟨t,a1,a2⟩
 | f+1,l,h,A,B,t,a1,a2=>by
  have u:0<n:=by omega
  unfold kas_place;by_cases c:l≥h
  ·rw[zr c]
   have e:l=h:=by omega
   subst e;exact⟨t,a1,a2⟩
  ·rw[zn c]
   refine⟨g.lt u _,g.lt u _,?_⟩
   rw[hb _ _ (g.lt u _) (g.lt u _)];by_cases d:vA r p k<vA r p ((l+h)/2)
   ·rw[show decide (r (p.getD k 0)<r (p.getD ((l+h)/2) 0))=true from zW d]
    dsimp only;rw[zr rfl];refine yF g hk a f l _ (by omega) (by omega) (by omega) a1 fun i C w=>?_
    by_cases q:i=(l+h)/2
    ·rw[q];exact d
    ·have:=a ((l+h)/2) i (by omega) w
     omega
   ·rw[show decide (r (p.getD k 0)<r (p.getD ((l+h)/2) 0))=false from qP d]
    dsimp only;rw[zn qE];have ne:vA r p k≠vA r p ((l+h)/2):=fun z=>by have:=g.inj o hk (by omega) z;omega
    refine yF g hk a f _ h (by omega) (by omega) t (fun i C=>?_) a2
    by_cases q:i=(l+h)/2
    ·rw[q];omega
    ·have:=a i ((l+h)/2) (by omega) (by omega)
     omega
omit hb in
theorem zdE{p:Array Nat}(g:Gd n p){m:Nat}(u:m<=n)(d:DscA r p m):AscA r (kas_rev p 0 m) m:=fun i j l t=>by
 have c:∀k,k<m->vA r (kas_rev p 0 m) k=vA r p (m-1-k):=fun k hk=>by
  unfold vA kas_rev;have e:=getElem?_mirror_all (xs:=p) (i:=0) (j:=m) (by rw[g.sz];exact u) k
  rw[zr ⟨qB _,hk⟩,Qi] at e;rw[vZ,e,<- vZ]
 rw[c i (by omega),c j t]
 exact d _ _ (by omega) (by omega)
theorem zbZ{p:Array Nat}(g:Gd n p){m:Nat}(i:1<=m)(l:m<=n)(d:DscA r p m):KRun s n (kas_tail3 m n p) fun x=>Gd n x.2/\AscA r x.2 x.1/\1<=x.1/\x.1<=n:=by
 unfold kas_tail3;refine ug (ue (fun c ⟨a1,a2,a3,_⟩=>?_) (Jy o hb (g.rev 0 m) (n-m) m i (by omega) (zdE o g l d)))
 exact⟨g.rev 0 m,a1,by show 1<=c;omega,by show c<=n;omega⟩
theorem zaG{p:Array Nat}(g:Gd n p)(B:2<=n):KRun s n (kas_count n p) fun x=>Gd n x.2/\AscA r x.2 x.1/\1<=x.1/\x.1<=n:=by
 have l:0<n:=by omega
 unfold kas_count;refine ug (ue (fun m ⟨a1,a2,a3,a4⟩=>?_) (Jy o hb g (n-1) 1 (zy _) (by omega) fun i j t A=>by omega))
 by_cases c:(m==n)=true
 ·rw[zr c]
  exact⟨g,a1,a2,by show m<=n;omega⟩
 ·rw[zn c]
  have C:m<n:=by
   have:m≠n:=fun z=>c (by rw[z];simp)
   omega
  by_cases c1:m>1
  ·rw[zr c1]
   refine⟨g.lt l _,g.lt l _,?_⟩
   rw[hb _ _ (g.lt l _) (g.lt l _),show decide (r (p.getD 0 0)<r (p.getD (m-1) 0))=true from zW (show vA r p 0<vA r p (m-1) from a1 0 (m-1) (by omega) (by omega))]
   dsimp only;rw[zr rfl];exact⟨g,a1,a2,by show m<=n;omega⟩
  ·rw[zn c1]
   have e:m=1:=by omega
   subst e;have w:DscA r p 2:=fun i j t A=>by
    have:i=0:=by omega
    have:j=1:=by omega
    subst i j;exact a4 (by omega)
   unfold kas_descPart;refine ug (ue (fun x ⟨u,b1,b2,b3,b4⟩=>?_) (Vc o hb g (n-(1+1)) (1+1) (by omega) (by omega) w))
   rw[b1,zn (xh 0),u];exact zbZ o hb g (by omega) (by omega) b2
theorem YJ:∀(f:Nat) (p:Array Nat) (k:Nat),Gd n p->k+f=n->AscA r p k->KRun s n (kas_bin f p k) fun x=>Gd n x/\AscA r x n
 | 0,p,k,g,e,a=>by
  have:k=n:=by omega
  subst this;exact⟨g,a⟩
 | f+1,p,k,g,e,a=>by
  unfold kas_bin;have hk:k<n:=by omega
  refine ug (ue (fun l ⟨a1,a2,a3⟩=>?_) (yF o hb g hk a k 0 k (by omega) (qB _) (zy _) (fun i B=>absurd B (yY _)) fun i E G=>by omega))
  refine YJ f _ (k+1) (g.bub k (k-l)) (by omega) fun i j u H=>?_
  have t:∀i,vA r (bubble p k (k-l)) i=if i=l then vA r p k else if l<i/\i<=k then vA r p (i-1) else vA r p i:=fun i=>by
   unfold vA;have e:=getElem?_bubble (xs:=p) (src:=k) (by rw[g.sz];exact hk) (k-l) (by omega) i
   rw[show k-(k-l)=l by omega] at e
   rw[vZ,e];by_cases c1:i=l
   ·rw[zr c1,zr c1,<- vZ]
   ·rw[zn c1,zn c1]
    by_cases c:l<i/\i<=k
    ·rw[zr c,zr c,<- vZ]
    ·rw[zn c,zn c,<- vZ]
  rw[t i,t j];by_cases c1:i=l
  ·rw[zr c1,zn (by omega),zr (by omega)]
   exact a3 (j-1) (by omega) (by omega)
  ·rw[zn c1]
   by_cases c:l<i/\i<=k
   ·rw[zr c,zn (by omega),zr (by omega)]
    exact a (i-1) (j-1) (by omega) (by omega)
   ·rw[zn c]
    by_cases w:j=l
    ·rw[zr w]
     exact a2 i (by omega)
    ·rw[zn w]
     by_cases A:l<j/\j<=k
     ·rw[zr A]
      by_cases D:i=j-1
      ·omega
      ·exact a i (j-1) (by omega) (by omega)
     ·rw[zn A]
      exact a i j u (by omega)
theorem zb0(C:2<=n):KRun s n (kas_sort n) fun p=>p.toList.Perm (List.range n)/\(p.toList.map r).Pairwise (·< ·):=by
 have l:∀p:Array Nat,Gd n p->AscA r p n->p.toList.Perm (List.range n)/\(p.toList.map r).Pairwise (·< ·):=fun p g a=>by
  refine⟨g.pm,Zh.mpr (XD.mpr fun i j w u t=>?_)⟩
  rw[qF,g.sz] at w u;have:=a i j t u;unfold vA at this;rw[vZ,vZ,xR (by rw[g.sz];exact w),xR (by rw[g.sz];exact u)] at this
  simpa using this
 unfold kas_sort;refine ug (ue (fun x ⟨g,a,b1,b2⟩=>?_) (zaG o hb (p:=List.toArray (List.range n)) ⟨.refl _⟩ C))
 by_cases c:x.1<n
 ·rw[zr c,Nat.max_eq_left b1]
  exact ue (fun p ⟨B,A⟩=>l p B A) (YJ o hb (n-x.1) x.2 x.1 g (by omega) a)
 ·rw[zn c]
  have e:x.1=n:=by omega
  rw[e] at a;exact l x.2 g a
end
end L2
namespace L2
open PySem PySem.Spec PyProof.Rows PySem.W
section
variable{g:Program}{w:World}{A:Around}{E:Value->Shared->Prop}{s:Shared}
theorem ZP(c:List Value):((List.range c.length).map fun i=>c.getD i Value.none)=c:=by
 refine Wy (by simp) fun i o l=>?_
 simp[l]
theorem zaA{a:Addr}{l:List Value}{n:Nat}{P:PySem.Fin->Shared->Prop}(N:s.heap.get? a=some (seqObj "list" l.toArray n))(Y:l.length<64)(r:Nat->Nat)(ri:∀i j,i<l.length->j<l.length->r i=r j->i=j)
  (hk:2<=l.length->∀L,(∀b o,b≠a->s.heap.get? b=some o->L.get? b=some o)->∃κ,(∀Q:SortKind->Shared->Prop,Q κ { s with heap:=L }->wpAny (model g w) A (keyKind' l.toArray) Q (fun _ _=>False) { s with heap:=L }) /\
   ∀i j,i<l.length->j<l.length->∀C:Bool->Shared->Prop,C (decide (r i<r j)) { s with heap:=L }->kas_ask g w A κ l i j C { s with heap:=L })
  (h:∀p:List Nat,p.Perm (List.range l.length)->(p.map r).Pairwise (·< ·)->P (.done (.ret .none)) { s with heap:=sortedHeap s.heap a l (p.map fun i=>l.getD i Value.none).toArray }) :
  wpAny (model g w) A (Builtin.«list.sort» ⟨[.ref a],[]⟩) P E s:=by
 have ha:a<s.heap.objs.size:=zA N;have sz:sizeLine=16777216:=sizeLine_eq;obtain⟨e1,M⟩:∃e1,(s.heap.update a (Obj.mapSeq fun _=>(#[]:Array Value))).get? a=some (seqObj "list" #[] e1):=⟨_,get?_update_seq N fun _=>#[]⟩
 rw[list_sort_plain];refine zd (listItems_at N rfl (zd (listUpdate_at N rfl ?_ (by rw[zZ];omega) (qB _))))
 refine zd (seqEpoch_at M rfl (zd (wpAny_newTuple ?_ (by show l.length<=_;omega))))
 refine zd (wpAny_newList ?_ (qB _))
 refine je (show wpAny (model g w) A _ P E { s with heap:=((s.heap.update a (Obj.mapSeq fun _=>(#[]:Array Value))).push (seqObj "tuple" l.toArray 0)).push (seqObj "list" #[] 0) } from ?_)
 have u:(((s.heap.update a (Obj.mapSeq fun _=>(#[]:Array Value))).push (seqObj "tuple" l.toArray 0)).push (seqObj "list" #[] 0)).get? a=some (seqObj "list" #[] e1):=zI _ (zI _ M)
 have a0:∀b o,b≠a->s.heap.get? b=some o->(((s.heap.update a (Obj.mapSeq fun _=>(#[]:Array Value))).push (seqObj "tuple" l.toArray 0)).push (seqObj "list" #[] 0)).get? b=some o:=fun b o hb e=>zI _ (zI _ ((vY _ _ (zN hb)).trans e))
 dsimp only;by_cases H:l.toArray.size<2
 ·rw[zr H,zr H]
  have l2:l.length<2:=by rw[zZ] at H;exact H
  refine zd (zp ?_)
  rw[StateT.run_pure];refine zd (zp ?_)
  dsimp only;have eo:((l.toArray.zip l.toArray).map (·.2))=((List.range l.length).map fun i=>l.getD i Value.none).toArray:=by
   rw[ZP];refine Array.ext (by simp) fun i h1 h3=>?_
   simp
  refine zd (seqEpoch_at u rfl (zd (listUpdate_at u rfl ?_ (qB _) (by rw[show arrOf (SortSt.mk' general' (l.toArray.zip l.toArray) #[] 7 none)=l.toArray.zip l.toArray from rfl,eo,ZP,zZ];omega))))
  simp only[bne_self_eq_false,qW,if_false];refine zp ?_
  have:=h (List.range l.length) (.refl _) (Zh.mpr (XD.mpr fun i j hi hj aa=>by simp at hj;omega))
  rw[<- eo] at this;exact this
 ·rw[zn H,zn H]
  have I:2<=l.length:=by rw[zZ] at H;omega
  obtain⟨κ,kk,ask⟩:=hk I _ a0;refine zd (qN (kk (fun κ' t=>κ'=κ/\t=_) ⟨rfl,rfl⟩) (fun κ' t e=>?_) fun _ _ x=>x.elim)
  obtain⟨O,U⟩:=e;subst O U;refine zd (qN (kat_run (ks:=l) (vs:=l) (κ:=κ') (Q:=fun B t=>∃p:Array Nat,arrOf B=p.map (kas_item (l.toArray.zip l.toArray))/\failedOf B=none/\p.toList.Perm (List.range l.length)/\(p.toList.map r).Pairwise (·< ·)/\t={ s with heap:=((s.heap.update a (Obj.mapSeq fun _=>(#[]:Array Value))).push (seqObj "tuple" l.toArray 0)).push (seqObj "list" #[] 0) })
   (G:=fun p t=>p.toList.Perm (List.range l.length)/\(p.toList.map r).Pairwise (·< ·)/\t={ s with heap:=((s.heap.update a (Obj.mapSeq fun _=>(#[]:Array Value))).push (seqObj "tuple" l.toArray 0)).push (seqObj "list" #[] 0) })
   rfl I Y (fun p B t _ a2 a3 ⟨a4,a5,a6⟩=>⟨p,a2,a3,a4,a5,a6⟩) (KRun.wp (J:=fun t=>t={ s with heap:=((s.heap.update a (Obj.mapSeq fun _=>(#[]:Array Value))).push (seqObj "tuple" l.toArray 0)).push (seqObj "list" #[] 0) }) (bt:=fun i j=>decide (r i<r j)) (n:=l.length)
    (fun i j hi hj C t e c=>?_) (fun p t ⟨q1,q2⟩ e=>⟨q1,q2,e⟩) (zb0 ri (fun i j _ _=>rfl) I) rfl)) (fun x t hx=>?_) fun _ _ e=>e)
  ·subst e
   exact ask i j hi hj C (c _ rfl)
  ·obtain⟨⟨⟩,B⟩:=x
   obtain⟨p,b1,b2,b3,b4,b5⟩:=hx;subst b5;dsimp only;have D:=kat_snds (ks:=l) (vs:=l) rfl b1;have lp:p.toList.length=l.length:=by have:=b3.length_eq;rwa[qQ] at this
   refine zd (seqEpoch_at u rfl (zd (listUpdate_at u rfl ?_ (qB _) (by rw[D,zZ,zo];omega))))
   rw[b2];simp only[bne_self_eq_false,qW,if_false];refine zp ?_
   have:=h p.toList b3 b4;rw[<- D] at this;exact this
end
end L2
namespace L2
open PySem PySem.Spec PyProof.Rows PySem.W
def rkB(n:Nat)(c:Nat->Nat->Bool)(i:Nat):Nat:=(List.range n).countP fun j=>c j i
theorem Jz{n:Nat}{g:Nat->Nat->Bool}(A:∀i,i<n->g i i=false)(C:∀i j k,i<n->j<n->k<n->g i j=true->g j k=true->g i k=true){i j:Nat}(u:i<n)(B:j<n)(h:g i j=true):rkB n g i<rkB n g j:=by
 unfold rkB;have sub:∀l:List Nat,(∀x∈l,x<n)->l.countP (fun x=>g x i)<=l.countP (fun x=>g x j):=fun l=>by
  induction l with
  | nil=>intro _;exact zy _
  | cons x l w=>
   intro s;have D:=w fun y hy=>s y (qw _ hy)
   rw[Xe,Xe];by_cases c:g x i=true
   ·have:=C x i j (s x (by simp)) u B c h
    rw[zr c,zr this];omega
   ·rw[zn c]
    split<;>omega
 have o:∀l:List Nat,(∀x∈l,x<n)->i∈l->l.countP (fun x=>g x i)<l.countP (fun x=>g x j):=fun l=>by
  induction l with
  | nil=>intro _ z;cases z
  | cons x l w=>
   intro s E;have t:∀y∈l,y<n:=fun y hy=>s y (qw _ hy)
   rw[Xe,Xe];rcases zQ.mp E with z | z
   ·subst z
    rw[zn (by rw[A i u];exact qE),zr h]
    have:=sub l t;omega
   ·have D:=w t z
    by_cases c:g x i=true
    ·have:=C x i j (s x (by simp)) u B c h
     rw[zr c,zr this];omega
    ·rw[zn c]
     split<;>omega
 exact o _ (fun x hx=>qC.mp hx) (qC.mpr u)
theorem YK{n:Nat}{g:Nat->Nat->Bool}(l:∀i,i<n->g i i=false)(u:∀i j k,i<n->j<n->k<n->g i j=true->g j k=true->g i k=true)(t:∀i j,i<n->j<n->i≠j->g i j=true\/g j i=true){i j:Nat}(o:i<n)(s:j<n):g i j=decide (rkB n g i<rkB n g j):=by
 by_cases c:g i j=true
 ·rw[c,zW (Jz l u o s c)]
 ·rw[(Bool.not_eq_true _).mp c,eq_comm]
  refine qP fun z=>?_
  by_cases e:i=j
  ·subst e;omega
  ·rcases t i j o s e with q | q
   ·exact c q
   ·have:=Jz l u s o q;omega
theorem zdD{n:Nat}{g:Nat->Nat->Bool}(l:∀i,i<n->g i i=false)(u:∀i j k,i<n->j<n->k<n->g i j=true->g j k=true->g i k=true)(t:∀i j,i<n->j<n->i≠j->g i j=true\/g j i=true)(i j:Nat)(o:i<n)(s:j<n)(e:rkB n g i=rkB n g j):i=j:=by
 by_cases c:i=j
 ·exact c
 ·rcases t i j o s c with q | q
  ·have:=Jz l u o s q;omega
  ·have:=Jz l u s o q;omega
def ltS(a b:Str):Bool:=decide (a.cps.toList<b.cps.toList)
theorem ym(a:Str):ltS a a=false:=qP (List.lt_irrefl _)
theorem zcA{a b c:Str}(g:ltS a b=true)(i:ltS b c=true):ltS a c=true:=zW (List.lt_trans (vk g) (vk i))
theorem zdB{a b:Str}(h:a.cps.toList=b.cps.toList):a=b:=by
 cases a;cases b
 congr
 exact Array.toList_inj.mp h
theorem zd3{a b:Str}(h:a≠b):ltS a b=true\/ltS b a=true:=by
 by_cases c1:a.cps.toList<b.cps.toList
 ·exact .inl (zW c1)
 ·by_cases c:b.cps.toList<a.cps.toList
  ·exact .inr (zW c)
  ·exact absurd (zdB (List.le_antisymm (show a.cps.toList<=b.cps.toList from c) c1)) h
theorem zbw:∀{i o:List Str},(i.Pairwise fun a b=>ltS a b=true)->(o.Pairwise fun a b=>ltS a b=true)->(∀j,j∈i↔j∈o)->i=o
 | [],[],_,_,_=>rfl
 | [],y::o,_,_,h=>absurd ((h y).mpr (by simp)) (by simp)
 | x::i,[],_,_,h=>absurd ((h x).mp (by simp)) (by simp)
 | x::i,y::o,hx,hy,h=>by
  obtain⟨s,C⟩:=Qr.mp hx;obtain⟨t,D⟩:=Qr.mp hy;have B:∀{a b:Str},ltS a b=true->ltS b a=true->False:=fun u w=>by have:=zcA u w;rw[ym] at this;cases this
  have e:x=y:=by
   rcases zQ.mp ((h x).mp (by simp)) with a | a
   ·exact a
   ·rcases zQ.mp ((h y).mpr (by simp)) with b | b
    ·exact b.symm
    ·exact(B (s y b) (t x a)).elim
  subst e;have g:∀{l:List Str},(∀b∈l,ltS x b=true)->x∉l:=fun A z=>by have:=A x z;rw[ym] at this;cases this
  rw[zbw C D fun j=>?_]
  constructor
  ·intro c
   rcases zQ.mp ((h j).mp (qw _ c)) with a | a
   ·exact absurd (a▸c) (g s)
   ·exact a
  ·intro c
   rcases zQ.mp ((h j).mpr (qw _ c)) with a | a
   ·exact absurd (a▸c) (g t)
   ·exact a
section
variable{X:Cx}{g:List (Addr×Obj)}{σ:St}{s:Shared}
theorem QS:∀(o:List Addr) (w:List (List V)) (H:Hp),o.Nodup->(∀a∈o,jF X g H a)->Inv X g σ H s->o.length=w.length ->
  (∀(j:Nat) a i,o[j]? =some a->w[j]? =some i->i.length<=sizeLine/\∃t:List Value,Vals i t/\TupX s.heap a t.toArray) ->
  ∃u,Inv X g σ u s/\Same H u/\(∀c,c∉o->u c=H c)/\∀(j:Nat) a i,o[j]? =some a->w[j]? =some i->u a=some (.tup i)
 | [],w,H,_,_,I,_,_=>⟨H,I,ua _,fun _ _=>rfl,fun j a i e=>by simp at e⟩
 | a::o,[],H,_,_,_,l,_=>by simp at l
 | a::o,i::w,H,O,A,I,l,E=>by
  obtain⟨N,C⟩:=vT.mp O;obtain⟨z,t,U,M⟩:=E 0 a i rfl rfl;have L:Inv X g σ (upd H a (.tup i)) s:=I.track (A a (by simp)) ⟨z,t,U,M⟩
  have B:∀b∈o,jF X g (upd H a (.tup i)) b:=fun b hb=>⟨by rw[zk (show b≠a from fun e=>N (e▸hb))];exact(A b (qw _ hb)).1,(A b (qw _ hb)).2⟩
  obtain⟨u,J,G,Q,Y⟩:=QS o w _ C B L (by simpa using l) fun j b D e1 e2=>E (j+1) b D (by simpa using e1) (by simpa using e2)
  refine⟨u,J,(ze (A a (by simp)).1).trans G,fun c hc=>?_,fun j b D e1 e2=>?_⟩
  ·rw[Q c (fun z=>hc (qw _ z)),zk (fun z=>hc (by rw[z];simp))]
  ·cases j with
   | zero=>
    cases e1;cases e2;exact G _ _ zc
   | succ j=>exact Y j b D (by simpa using e1) (by simpa using e2)
end
end L2
namespace L2
open PySem PySem.Spec PyProof.Rows PySem.W
def ltI(c:List (Str×Int))(i j:Nat):Bool:=ltS (c.getD i ("",0)).1 (c.getD j ("",0)).1
theorem zd4{c:List (Str×Int)}(o:(c.map (·.1)).Nodup)(i j:Nat)(g:i<c.length)(l:j<c.length)(h:i≠j):ltI c i j=true\/ltI c j i=true:=by
 refine zd3 fun e=>h ?_
 have e1:(c.map (·.1))[i]'(by simpa using g)=(c.map (·.1))[j]'(by simpa using l):=by simpa [g,l] using e
 exact(WA o).mp e1
theorem Z6{h:Heap}:∀(c:List Addr),(∀a∈c,∃o i n x t,h.get? a=some o/\o.cls=.type "tuple" /\ o.data=.seq i n/\i[0]? =some (Value.str x t))->∃g,KatTups h (c.map Value.ref) g/\g.length=c.length/\∀v∈g,∃x t,v=Value.str x t
 | [],_=>⟨[],KatTups.nil,rfl,fun v hv=>nomatch hv⟩
 | a::c,s=>by
  obtain⟨g,k,l,m⟩:=Z6 c fun b hb=>s b (qw _ hb)
  obtain⟨o,i,n,x,t,e1,e2,u,w⟩:=s a (by simp)
  refine⟨.str x t::g,KatTups.cons e1 e2 u w k,by rw[jy,l];rfl,fun v hv=>?_⟩
  rcases zQ.mp hv with z | z
  ·exact⟨x,t,z⟩
  ·exact m v z
section
variable{X:Cx}
def yb(p d:Addr):HO:=.ext fun h=>h.IsItemsView p d
inductive zb4(x:V)(g:List V)(H:Hp)(Q:VK):Prop
 | mk (d c:_) (_:x=.ref d) (_:g=[]) (_:H d=some (.dK c)) (_:∀p,H p=none->Q (.ref p) (upd H p (yb p d))):zb4  x g H Q
theorem zcy:MtM X "dict.items" zb4:=by
 intro g s σ H x i v L Q I D C h;obtain⟨d,A,rfl,rfl,l,q⟩:=h;cases D;cases C;obtain⟨M,lo,i,B,c⟩:=Vv I.hok l;have t:H s.heap.objs.size=none:=I.hok.fresh (zy _);refine call_meetsIn PySem.F.slot_dict_items c.typeIs PySem.F.entry_dict_items (PySem.F.args_dict_items_1 _) (meets_dict_items (zG X.prog X.w) d lo) ⟨⟨i,c⟩,?_⟩
 refine⟨.ref s.heap.objs.size,_,I.laid (a:=s.heap.objs.size) (o:=yb s.heap.objs.size d) (t':=s.toks) (fun b u e=>zI _ e) (zy _) ⟨⟨_,qv _ rfl,rfl,rfl⟩,⟨_,qv _ rfl⟩,fun E G x e=>let ⟨o,w,r⟩:=x;⟨o,e o w,r⟩⟩,rfl,q _ t⟩
inductive vE(t:List V)(H:Hp)(Q:VK):Prop
 | mk (p d:Addr) (c:List (Str×Int)) (_:t=[.ref p]) (_:H p=some (yb p d)) (_:H d=some (.dK (c.map fun s=>(Sum.inr s.1,.int s.2)))) (_:(c.map (·.1)).Nodup) (_:c.length<64) (_:∀(l:Addr) (i:List (Str×Int)) (o:List V) g,Same H g->H l=none->g l=some (.lst o)->i.Perm c->((i.map (·.1)).Pairwise fun a b=>ltS a b=true)->o.length=i.length->(∀(j:Nat) q,i[j]? =some q->∃T,o[j]? =some (.ref T)/\H T=none/\g T=some (.tup [.str q.1,.int q.2]))->Q (.ref l) g):vE t H Q
theorem QI(hh:X.A.handled=none):CallR X (.builtin "sorted") (vE):=by
 intro O s σ H xs us Q I r h;obtain⟨p,d,c,rfl,hp,hx,nd,ac,q⟩:=h;obtain⟨u,rfl,ru⟩:=Vals.one r;cases(show u=Value.ref p from ru)
 obtain⟨hv,_,_⟩:=(show ObjOk X.prog X.w H s.heap p (yb p d) from I.hok p _ hp)
 obtain⟨zz,lo,vs,E,dd⟩:=Vv I.hok hx;obtain⟨ep,da⟩:=dd.dictAt;have ln:=E.length;rw[zo] at ln;have sz:sizeLine=16777216:=sizeLine_eq;refine Calls.call_function_entry kind_sorted plain_sorted entry_sorted (args_sorted1 _) ?_
 delta Builtin.«sorted»;refine zd (m:=checkCount "sorted" 1 1 _) (zp (zd (kdx_collect (knd:=zG X.prog X.w) (kvs:=vs) (ep:=ep) hh hv da (by omega) fun N tk g ab la G=>?_)))
 have tup:∀(j:Nat) a o,g[j]? =some a->c[j]? =some o->∃B D,N.get? a=some { cls:=.type "tuple",data:=.seq #[.str o.1 B,.int o.2 D] }:=fun j a o e1 e2=>by
  obtain⟨ak,k,x,e3,e4,e5⟩:=G.pairs j a e1;obtain⟨p',e6,e7,e8⟩:=KV.get E e3;rw[zY,e2] at e6;cases e6;have e7:(Sum.inr o.1:Key)=k:=e7;subst e7;obtain⟨B,rfl⟩:=zfa e4;obtain⟨D,rfl⟩:=(show RelV (.int o.2) x from e8)
  exact⟨B,D,e5⟩
 have lv:(g.map Value.ref).length=c.length:=by rw[zo];omega
 refine zd (wpAny_newList ?_ (by rw[lv];omega))
 have a0:(N.push (seqObj "list" (g.map Value.ref).toArray 0)).get? N.objs.size=some (seqObj "list" (g.map Value.ref).toArray 0):=qv _ rfl;have Y:∀i,i<c.length->ltI c i i=false:=fun i _=>ym _
 have tr:∀i j k,i<c.length->j<c.length->k<c.length->ltI c i j=true->ltI c j k=true->ltI c i k=true:=fun i j k _ _ _=>zcA
 have L:=zd4 nd;have ag:g.Nodup:=G.rise.imp fun h=>zS h
 have ah:∀a∈g,a≠N.objs.size:=fun a ha=>zS (G.there ha)
 refine zd (je (xq slot_list_sort ⟨_,a0,rfl⟩ entry_list_sort (zaA (s:={ s with heap:=N.push (seqObj "list" (g.map Value.ref).toArray 0),toks:=tk }) a0 (by rw[lv];exact ac) (rkB c.length (ltI c)) (by rw[lv];exact zdD Y tr L) (fun g2 h2 k2=>?_) fun p pm pw=>⟨_,rfl,?_⟩) (args_list_sort _)))
 ·have D:∀(j:Nat) a o,g[j]? =some a->c[j]? =some o->∃B D,h2.get? a=some { cls:=.type "tuple",data:=.seq #[.str o.1 B,.int o.2 D] }:=fun j a o e1 e2=>by
   obtain⟨B,D,e⟩:=tup j a o e1 e2;exact⟨B,D,k2 a _ (ah a (qm e1)) (zI _ e)⟩
  obtain⟨fs,kt,lf,sf⟩:=Z6 (h:=h2) g fun a ha=>by
   obtain⟨j,A⟩:=Xt.mp ha;have aj:=(zK.mp A).1;obtain⟨B,an,e⟩:=D j a (c[j]'(by omega)) A (qA _)
   exact⟨_,_,_,_,B,e,rfl,rfl,rfl⟩
  refine⟨tuples' (Value.type "str" != Value.type "tuple"),fun Q' af=>kat_kind kt (by rw[lf];rw[zo] at g2;omega) (fun v hv=>?_) rfl af,fun i j w A C hC=>?_⟩
  ·obtain⟨x,t,rfl⟩:=sf v hv
   exact Looks.now
  ·rw[lv] at w A
   have M:g[i]? =some (g[i]'(by omega)):=qA _
   have ej:g[j]? =some (g[j]'(by omega)):=qA _
   have fi:c[i]? =some (c[i]'w):=qA _;have fj:c[j]? =some (c[j]'A):=qA _;obtain⟨a1,a2,oi⟩:=D i _ _ M fi;obtain⟨b1,b2,oj⟩:=D j _ _ ej fj;have vi:(g.map Value.ref).getD i Value.none=.ref (g[i]'(by omega)):=by rw[jE,zY,M];rfl
   have vj:(g.map Value.ref).getD j Value.none=.ref (g[j]'(by omega)):=by rw[jE,zY,ej];rfl
   have gi:c.getD i ("",0)=c[i]'w:=by rw[jE,fi];rfl
   have gj:c.getD j ("",0)=c[j]'A:=by rw[jE,fj];rfl
   rw[<- YK Y tr L w A] at hC;have U:C (ltS (c[i]'w).1 (c[j]'A).1) { s with heap:=h2,toks:=tk }:=by unfold ltI at hC;rw[gi,gj] at hC;exact hC
   unfold kas_ask;rw[vi,vj];refine kat_lt oi rfl oj rfl (kat_cons ((zG X.prog X.w).eqBool (a:=Sum.inr (c[i]'w).1) (b:=Sum.inr (c[j]'A).1) (xo ⟨a1,rfl⟩) (xo ⟨b1,rfl⟩) ?_))
   refine kat_go (fun e=>?_) (fun e=>?_)
   ·have ek:(c[i]'w).1=(c[j]'A).1:=J7 (vk e)
    have ij:i=j:=by
     by_cases z:i=j
     ·exact z
     ·have tt:=L i j w A z
      unfold ltI at tt;rw[gi,gj,ek,ym] at tt;rcases tt with q | q<;>cases q
    subst ij;refine kat_yes (kat_cons ((zG X.prog X.w).eqBool (a:=Sum.inl (c[i]'w).2) (b:=Sum.inl (c[i]'w).2) (xo ⟨a2,rfl⟩) (xo ⟨b2,rfl⟩) ?_))
    rw[zW rfl];refine kat_yes (kat_nil ?_)
    rw[ym] at U;exact U
   ·refine kat_no (strKind_oneLt X.prog X.w _ _ _ _ _ ((c[i]'w).1.cps.toList) ((c[j]'A).1.cps.toList) rfl rfl ?_)
    exact U
 ·rw[lv] at pm
  have aa:∀a∈g,jF X O H a:=fun a ha=>I.fpOk (wT (G.above a ha)) (I.hok.fresh (wT (G.above a ha)))
  have I1:Inv X O σ H { s with heap:=N,toks:=tk }:=I.kept ab;obtain⟨H1,J1,s1,_,B⟩:=QS (s:={ s with heap:=N,toks:=tk }) g (c.map fun o=>[V.str o.1,V.int o.2]) H ag aa I1 (by rw[zo];omega) fun j a ys e1 e2=>by
   rw[zY] at e2;obtain⟨o,e3,rfl⟩:=z9.mp e2;obtain⟨b1,b2,e⟩:=tup j a o e1 e3;exact⟨by show 2<=_;omega,[.str o.1 b1,.int o.2 b2],.cons ⟨b1,rfl⟩ (.cons ⟨b2,rfl⟩ .nil),TupX.by e⟩
  have lt:∀i∈p,i<c.length:=fun i w=>qC.mp (pm.mem_iff.mp w)
  have E:Vals (p.map fun i=>V.ref (g.getD i 0)) ((p.map fun i=>(g.map Value.ref).getD i Value.none).toArray.toList):=by
   rw[List.toList_toArray];have go:∀l:List Nat,(∀i∈l,i<c.length)->Vals (l.map fun i=>V.ref (g.getD i 0)) (l.map fun i=>(g.map Value.ref).getD i Value.none):=fun l=>by
    induction l with
    | nil=>intro _;exact .nil
    | cons i l ih=>
     intro hl;refine .cons ?_ (ih fun k hk=>hl k (qw _ hk))
     have w:=hl i (by simp)
     have M:g[i]? =some (g[i]'(by omega)):=qA _
     show(g.map Value.ref).getD i Value.none=Value.ref (g.getD i 0);rw[jE,zY,M,jE,M];rfl
   exact go p lt
  have lp:p.length=c.length:=by have:=pm.length_eq;rwa[qQ] at this
  obtain⟨J,hn⟩:=Vq (vs:=g.map Value.ref) (out:=(p.map fun i=>(g.map Value.ref).getD i Value.none).toArray) (zs:=p.map fun i=>V.ref (g.getD i 0)) (tk:=tk) (d':=s.drawn) J1 (fun _ _ e=>e) E (by rw[zo];omega)
  refine zp ⟨_,rfl,.ref N.objs.size,_,J,rfl,q _ (p.map fun i=>c.getD i ("",0)) (p.map fun i=>V.ref (g.getD i 0)) _ (s1.trans (ze hn)) (s1.free hn) zc ?_ ?_ (by rw[zo,zo]) fun j qq e=>?_⟩
  ·have e1:(List.range c.length).map (fun i=>c.getD i ("",0))=c:=by
    refine Wy (by simp) fun i h1 h2=>?_
    simp[h2]
   rw[<- e1];rw[e1];have:=pm.map (fun i=>c.getD i ("",0))
   rwa[e1] at this
  ·rw[jC]
   have ai:=Zh.mp pw;refine Zh.mpr (ai.imp_of_mem fun {i j} w A ae=>?_)
   have:=YK Y tr L (lt i w) (lt j A);rw[zW ae] at this;exact this
  ·rw[zY] at e
   obtain⟨i,M,rfl⟩:=z9.mp e;have w:=lt i (qm M);have ea:g[i]? =some (g[i]'(by omega)):=qA _
   have ga:g.getD i 0=g[i]'(by omega):=by rw[jE,ea];rfl
   have ek:c[i]? =some (c.getD i ("",0)):=by rw[jE,qA w];rfl
   have ma:g.getD i 0∈g:=by rw[ga];exact vy _
   refine⟨g.getD i 0,by rw[zY,M];rfl,(aa _ ma).1,?_⟩
   have:=B i (g.getD i 0) [V.str (c.getD i ("",0)).1,V.int (c.getD i ("",0)).2] (by rw[ga];exact ea) (by rw[zY,ek];rfl)
   rw[zk (zm this hn)];exact this
end
end L2
namespace L2
open PySem PySem.Spec PyProof.Rows
section
variable{X:Cx}
variable{i g:Expr}{l:List Expr}{c:Scope}{o:Pos}{G:TI}{D:TT}{B:TE}{x y z:Str}{u w A E:Pos}{t:Nat}
theorem zfF(J:List Str)(N:List Nat)(hc:X.calm=true)(hk:c.kind=.function)(hb:vP c.names X.env.scope.names X.N [x,y,z] J N=true)(Y:PI X (.Tuple [.Name x u,.Name y w,.Name z A] t E) g G)
  (U:∀C s H I,PF (zM X ([x,y,z]++J) c C s H I) l D) (Q:∀C s H I,PE (zM X ([x,y,z]++J) c C s H I) i B) (hs:∀x,foldedSetIterable g X.env x=pure x:=by intro _;rfl) :
  PE X (.ListComp i [⟨.Tuple [.Name x u,.Name y w,.Name z A] t E,g,l,0⟩] c o) (tLC G 3 N (zcO X.K 3 (yq (x8 0) (yq (x8 1) (yq (x8 2) zec)))) D B):=by
 obtain⟨O,L,M⟩:=xx hb;refine zcd [x,y,z] J N hc hk O Y (fun C s H I=>?_) U Q hs
 exact xA (X:=zM X ([x,y,z]++J) c C s H I) hc (zE (xT (L x (by simp)) M rfl) (zE (xT (L y (by simp)) M rfl) (zE (xT (L z (by simp)) M rfl) jM)))
end
section
variable{X:Cx}
end
section
variable{X:Cx}{l w i:Expr}{o:List Expr}{c:Scope}{s:Pos}{A:TI}{g:TG}{u:TT}{t:TE}{x:Str}
end
end L2
namespace L2
open PySem PySem.Spec PyProof.Rows PySem.W
section
variable{c:Program}{w:World}{A:Around}{E:Value->Shared->Prop}{s:Shared}
end
end L2
namespace L2
open PySem PySem.Spec PyProof.Rows PySem.W
def ltP(a b:Int×Int):Bool:=decide (a.1<b.1\/a.1=b.1/\a.2<b.2)
theorem YV(a:Int×Int):ltP a a=false:=qP (by omega)
def PrR(H:Hp)(g:List V)(c:List (Int×Int)):Prop:=g.length=c.length/\∀(j:Nat) q,c[j]? =some q->∃T,g[j]? =some (.ref T)/\H T=some (.tup [.int q.1,.int q.2])
theorem PrR.nil{H:Hp}:PrR H [] []:=⟨rfl,fun j q e=>by simp at e⟩
theorem PrR.same{H c:Hp}{i:List V}{g:List (Int×Int)}(h:PrR H i g)(s:Same H c):PrR c i g:=⟨h.1,fun j k e=>let ⟨T,a,b⟩:=h.2 j k e;⟨T,a,s _ _ b⟩⟩
theorem PrR.snoc{H:Hp}{o:List V}{g:List (Int×Int)}{q:Int×Int}{T:Addr}(h:PrR H o g)(e:H T=some (.tup [.int q.1,.int q.2])):PrR H (o++[.ref T]) (g++[q]):=by
 refine⟨by rw[zL,zL,h.1];rfl,fun j r c=>?_⟩
 by_cases i:j<g.length
 ·rw[jV i] at c
  obtain⟨U,e1,e2⟩:=h.2 j r c;exact⟨U,by rw[jV (by rw[h.1];exact i)];exact e1,e2⟩
 ·have l:=(zK.mp c).1
  rw[zL] at l;have s:j=g.length:=by simp at l;omega
  subst s;rw[jW (zy _),vR] at c;have:q=r:=by simpa using c
  subst this;exact⟨T,by rw[<- h.1,jW (zy _),vR];rfl,e⟩
theorem PrR.rev{H:Hp}{i:List V}{g:List (Int×Int)}(h:PrR H i g):PrR H i.reverse g.reverse:=by
 refine⟨by rw[WM,WM,h.1],fun j q e=>?_⟩
 have c:=(zK.mp e).1;rw[WM] at c;rw[List.getElem?_reverse c] at e
 obtain⟨T,e1,e2⟩:=h.2 _ q e;exact⟨T,by rw[List.getElem?_reverse (by rw[h.1];exact c),h.1];exact e1,e2⟩
section
variable{X:Cx}
def zfg(X:Cx)(f:Value)(l:List (Str×Value))(r:List V->Hp->VK->Prop):Prop:=
 ∀(c:List (Addr×Obj)) (s:Shared) (σ:St) (H:Hp) (i:List V) (g:List Value) (Q:VK),Inv X c σ H s->Vals i g->r i H Q->wpAny (model X.prog X.w) X.A (call f g l) (EP X c σ Q) X.xe s
end
end L2
namespace L2
open PySem PySem.Spec PyProof.Rows
section
variable{X:Cx}
end
def AtQ(K:W.Frag)(H:Hp)(t:Bool)(a:Addr)(c:List V):Prop:=if t=true then SqT K H a c else H a=some (.lst c)
def SqQ(K:W.Frag)(H:Hp)(t:Bool)(a:Addr)(c:List V):Prop:=if t=true then SqT K H a c else SqL K H a c
theorem AtQ.sq{K:W.Frag}{H:Hp}{t:Bool}{a:Addr}{c:List V}(h:AtQ K H t a c):SqQ K H t a c:=by
 cases t with
 | true=>exact h
 | false=>exact u7 h
theorem AtQ.same{K:W.Frag}{H c:Hp}{t:Bool}{a:Addr}{g:List V}(h:AtQ K H t a g)(s:Same H c):AtQ K c t a g:=by
 cases t with
 | true=>exact s.sqT h
 | false=>exact s _ _ h
def oQ(t:Bool)(c:List V):HO:=if t=true then .tup c else .lst c
def Tkn(H:Hp)(c:List Addr):Prop:=∀e∈c,∃o,H e=some o
theorem Tkn.out{H:Hp}{c:List Addr}{p:Addr}(h:Tkn H c)(g:H p=none):p∉c:=fun z=>by
 obtain⟨o,e⟩:=h p z;rw[g] at e;cases e
theorem AtQ.new{K:W.Frag}{H:Hp}{g:List Addr}{p:Addr}(T:Tkn H g)(i:H p=none)(t:Bool)(c:List V):AtQ K (WX g (upd H p (oQ t c))) t p c:=by
 have:=WX.at (T.out i) (zc (H:=H) (a:=p) (o:=oQ t c));cases t with
 | true=>exact u8 this
 | false=>exact this
section
variable{X:Cx}
theorem zck{x y:V}(c:List (Addr×Obj))(s:Shared)(σ:St)(H:Hp)(v u:Value)(Q:VK)(I:Inv X c σ H s)(U:RelV x v)(Y:RelV y u)(h:∃a b o,x=.ref a/\y=.ref b/\SqT X.K H a []/\SqT X.K H b o/\Q (.ref b) H) :
  wpAny (model X.prog X.w) X.A (binaryOp .Add v u) (EP X c σ Q) X.xe s:=by
 obtain⟨a,b,o,rfl,rfl,A,hb,q⟩:=h;cases U;cases Y;obtain⟨g,O,M,_⟩:=I.tuple A;obtain⟨B,r2,N,_⟩:=I.tuple hb;have hv:g=[]:=O.nil_iff.mpr rfl;obtain⟨⟨c1,t,g1,E⟩,i,C,J,e1⟩:=M;obtain⟨⟨c2,w,g2,G⟩,l,D,L,e2⟩:=N;cases C;cases e1;cases D;cases e2;have m:=tuple_addW0 a b g.toArray B.toArray J L t w E G (by simp[hv])
 exact concat_meets ⟨_,i,rfl⟩ ⟨_,l,rfl⟩ noFill_tuple_add seq_tuple_add WV WY (W0 _ _) m ⟨i,l,.ref b,H,I,rfl,q⟩
theorem zaC{t u:Addr}{c:Array Value}{H I:Value}{lo C:Option Int}{i:Program}{w:World}{A:Around}{E:Value->Shared->Prop}{s:Shared}{Q:Value->Shared->Prop}(g:IsTup s.heap t c)(D:s.heap.IsSliceOf u H I .none)(O:IsPart H lo)(U:IsPart I C)
  (J:HT.sIx c.size 0 lo=0) (L:HT.sIx c.size c.size C=c.size) (h:Q (.ref t) s):wpAny (model i w) A (getItem (.ref t) (.ref u)) Q E s:=by
 obtain⟨os,o,l,N⟩:=id D;have M:s.TypeIs (.ref u) "slice" :=⟨os,o,l⟩;unfold getItem;try with_reducible refine je ?_
 first| refine zd (zp ?_) | skip
 refine zd (wpAny_sequenceKey g.typeIs (by decide) ?_)
 refine zd (vC (name:=Str.ofString "__getitem__") g.typeIs slot_tuple_getitem (xq slot_tuple_getitem g.typeIs entry_tuple_getitem ?_ (args_tuple_getitem _ _)))
 refine zd (m:=Builtin.Tuple.tupleItemsOf (.ref t)) (tupleItemsOf_ g ?_)
 refine zd (wb M ?_)
 rw[zr (by decide)]
 refine zd (HT.sliceApplied_gen D O U ?_)
 rw[J,L];have B:((((0:Nat):Int)==0&&(1:Int)==1&&(c.size-0)==c.size)=true):=by simp
 show wpAny _ _ (if(((0:Nat):Int)==0&&(1:Int)==1&&(c.size-0)==c.size)=true then _ else _) _ _ s
 rw[zr B];refine zd (m:=Builtin.Tuple.tupleIsExact (.ref t)) (zd (wb g.typeIs (zp ?_)))
 rw[zr (by decide)]
 exact zd (xp (zp ⟨_,rfl,zp h⟩))
inductive zgP(K:W.Frag)(x:V)(lo:Option Int)(l:Option Int)(H:Hp)(Q:VK):Prop
 | mk (t:Bool) (a:Addr) (o:List V) (i:List Addr) (_:x=.ref a) (_:Tkn H i) (_:SqQ K (WX i H) t a o) (_:∀c g,Same H g->AtQ K (WX i g) t c (jd o lo l)->Q (.ref c) g):zgP K x lo l H Q
theorem zhL:SlR X (zgP X.K):=by
 intro g s σ H x v J L lo o G Q I C u A B h;obtain⟨t,a,c,N,rfl,T,l,q⟩:=h;cases t with
 | false=>exact ww g s σ H _ v J L lo o G Q I C u A B ⟨a,c,rfl,WX.le.seq l,fun p i=>q p _ (ze i) (AtQ.new T i false _)⟩
 | true=>
  by_cases e:HT.sIx c.length 0 lo=0/\HT.sIx c.length c.length o=c.length
  ·have M:jd c lo o=c:=by
    unfold jd;rw[e.1,e.2,List.drop_zero,Nat.sub_zero,jS]
   cases C;obtain⟨w,r,E,O⟩:=I.tuple (WX.le.sqT l);have D:w.toArray.size=c.length:=by rw[zZ];exact r.length.symm
   refine⟨"tuple",_,slot_tuple_getitem.lookup,E.typeIs,zaC E u A B (by rw[D];exact e.1) (by rw[D];exact e.2) ⟨.ref a,H,I,rfl,q a H (ua _) ?_⟩⟩
   rw[M];exact l
  ·exact zfm g s σ H _ v J L lo o G Q I C u A B ⟨a,c,rfl,WX.le.sqT l,e,fun p i=>q p _ (ze i) (AtQ.new T i true _)⟩
end
end L2
namespace PySem
section
variable{c:Program}{w:World}{A:Around}{d:Addr}{i:Array DictEntry}{g:Nat}
end
end PySem
namespace L2
open PySem PySem.Spec PyProof.Rows
section
variable{X:Cx}
theorem zaN{K:W.Frag}(h:X.K=K)(hu:X.A.units<cLine):OpR X (compareOp .NotEq) (w8 K):=by
 rw[<- h];exact zch hu
variable{o e:Expr}{l:List Expr}{to:TE}{t:TA}{i:Str}{c g:Pos}{id:String}{r:V->List V->Hp->VK->Prop}
end
end L2
namespace L2
open PySem PySem.Spec PyProof.Rows PySem.W
section
variable{X:Cx}
end
end L2
namespace L2
open PySem PySem.Spec PyProof.Rows PySem.W
section
variable{X:Cx}
end
end L2
namespace L2
open PySem PySem.Spec PyProof.Rows PySem.W
section
variable{X:Cx}
end
end L2
namespace L2
open PySem PySem.Spec PyProof.Rows PySem.W
section
variable{c:Program}{w:World}{A:Around}{E:Value->Shared->Prop}{s:Shared}
inductive QE(c:Program)(w:World)(A:Around)(s:Shared):List Value->List Value->Bool->Prop
 | nil:QE c w A s [] [] false
 | nl {y l}:QE c w A s [] (y::l) true
 | ln {x i}:QE c w A s (x::i) [] false
 | eq {x y i l b} (h:∀(Q:Bool->Shared->Prop) E,Q true s->wpAny (model c w) A (eqBool x y) Q E s) (t:QE c w A s i l b):QE c w A s (x::i) (y::l) b
 | ne {x y i l b} (h:∀(Q:Bool->Shared->Prop) E,Q false s->wpAny (model c w) A (eqBool x y) Q E s) (g:∀(Q:Value->Shared->Prop) E,Q (.bool b) s->wpAny (model c w) A (richCompare .Lt x y) Q E s):QE c w A s (x::i) (y::l) b
theorem QF{x y:Addr}{J G:Obj}{l o:Array Value}{n k:Nat}{b:Bool}{P:PySem.Fin->Shared->Prop}(hx:s.heap.get? x=some J)(M:J.data=.seq l n)(hy:s.heap.get? y=some G)(L:G.cls=.type "tuple")(N:G.data=.seq o k)
  (T:QE c w A s l.toList o.toList b) (h:P (.done (.ret (.bool b))) s):wpAny (model c w) A (Builtin.«tuple.__lt__» ⟨[.ref x,.ref y],[]⟩) P E s:=by
 show wpAny _ _ (isInstance (.ref y) (.type "tuple") >>= _) _ _ s;refine zd (vV (T:= "tuple") ⟨G,hy,L⟩ isSubtype_tuple_tuple ?_)
 simp only[yW,qW,if_false];refine zd (wpAny_tupleItemsOf hx M (zd (wpAny_tupleItemsOf hy N (zd ?_))))
 refine wpAny_forIn_list _ (fun rest r H=>r.1=none/\H=s/\∃C D,rest=List.zip C D/\QE c w A s C D b/\C.length+o.size=D.length+l.size) _ ?_ ?_ _ _ ⟨rfl,rfl,l.toList,o.toList,rfl,T,by simp[Nat.add_comm]⟩
 ·rintro⟨u,v⟩ rest r H ⟨I,rfl,C,D,i,t,B⟩
  cases t with
  | nil=>simp at i
  | nl=>simp at i
  | ln=>simp at i
  | eq e t=>
   simp only[List.zip_cons_cons,List.cons.injEq,Xa] at i;obtain⟨⟨rfl,rfl⟩,rfl⟩:=i;refine zd (e _ _ ?_)
   simp only[yW,qW,if_false];exact zp ⟨rfl,rfl,_,_,rfl,t,by simp only[jy] at B;omega⟩
  | ne e g=>
   simp only[List.zip_cons_cons,List.cons.injEq,Xa] at i;obtain⟨⟨rfl,rfl⟩,rfl⟩:=i;refine zd (e _ _ ?_)
   simp only[Ws,if_true];refine zd (xp (zd (g _ _ ?_)))
   exact zd (zp (zp (zp h)))
 ·rintro⟨O,Q⟩ H ⟨I,rfl,C,D,i,t,B⟩
  simp only at I;subst I;refine zp ?_
  have hb:decide (l.size<o.size)=b:=by
   cases t with
   | nil=>exact qP (by simp at B;omega)
   | nl=>exact zW (by simp at B;omega)
   | ln=>exact qP (by simp at B;omega)
   | eq e t=>simp at i
   | ne e g=>simp at i
  show P (.done (.ret (.bool (decide (l.size<o.size))))) H;rw[hb];exact h
theorem zbB{x y:Addr}{g i:Obj}{t u:Array Value}{n k:Nat}{b:Bool}{Q:Value->Shared->Prop}(hu:A.units<cLine)(hx:s.heap.get? x=some g)(l:g.cls=.type "tuple")(B:g.data=.seq t n)(hy:s.heap.get? y=some i)(o:i.cls=.type "tuple")(C:i.data=.seq u k)
  (T:QE c w A.in1 s t.toList u.toList b) (h:Q (.bool b) s):wpAny (model c w) A (richCompare .Lt (.ref x) (.ref y)) Q E s:=
 wpAny_richCompare_same_room (op:=.Lt) (T:= "tuple") ⟨g,hx,l⟩ ⟨i,hy,o⟩ F.slot_tuple_lt
  (xq F.slot_tuple_lt ⟨g,hx,l⟩ F.entry_tuple_lt (QF hx B hy o C T ⟨_,rfl,(fun e=>nomatch e),h⟩) (F.args_tuple_lt_2 _ _)) hu
def ltN:List Int->List Int->Bool
 | [],[]=>false
 | [],_::_=>true
 | _::_,[]=>false
 | a::g,b::i=>if a=b then ltN g i else decide (a<b)
theorem eq_int(x y:Int)(t u:Tok){Q:Bool->Shared->Prop}(h:Q (decide (x=y)) s):wpAny (model c w) A (eqBool (.int x t) (.int y u)) Q E s:=by
 refine(zG c w).eqBool (a:=Sum.inl x) (b:=Sum.inl y) (xo ⟨t,rfl⟩) (xo ⟨u,rfl⟩) ?_
 rw[show decide ((Sum.inl x:Key)=Sum.inl y)=decide (x=y) from decide_eq_decide.mpr ⟨fun z=>vf z,fun z=>by rw[z]⟩]
 exact h
theorem zd2(x y:Int)(t u:Tok){Q:Value->Shared->Prop}(h:Q (.bool (decide (x<y))) s):wpAny (model c w) A (richCompare .Lt (.int x t) (.int y u)) Q E s:=
 richCompare_gives (op:=.Lt) (typeIs_int s _ t) (typeIs_int s _ u) F.slot_int_lt F.entry_int_lt (F.args_int_lt_2 _ _) (gives_int_lt _ _ t u) (fun x=>nomatch x) h
theorem Vm:∀{as bs:List Int} {g i:List Value},Vals (as.map V.int) g->Vals (bs.map V.int) i->QE c w A s g i (ltN as bs)
 | [],[],_,_,.nil,.nil=>.nil
 | [],_::_,_,_,.nil,.cons _ _=>.nl
 | _::_,[],_,_,.cons _ _,.nil=>.ln
 | a::as,b::bs,_,_,.cons ⟨t,e1⟩ l,.cons ⟨u,e2⟩ o=>by
  subst e1 e2;by_cases h:a=b
  ·have e:ltN (a::as) (b::bs)=ltN as bs:=zr h
   rw[e];exact .eq (fun Q E q=>eq_int a b t u (by rw[zW h];exact q)) (Vm l o)
  ·have e:ltN (a::as) (b::bs)=decide (a<b):=zn h
   rw[e];exact .ne (fun Q E q=>eq_int a b t u (by rw[qP h];exact q)) fun Q E q=>zd2 a b t u q
end
section
variable{c:Program}{w:World}{A:Around}{R:Result->Shared->Prop}{I S:Addr}{g i:List Addr}{n:Nat}{P:Nat->Value->Prop}{St:Nat->Heap->Prop}
end
end L2
namespace L2
open PySem PySem.Spec PyProof.Rows PySem.W
def WkR(H:Hp)(g:List V)(c:List (Int×List Int)):Prop:=g.length=c.length/\∀(j:Nat) q,c[j]? =some q->∃T U,g[j]? =some (.ref T)/\H T=some (.tup [.int q.1,.ref U])/\H U=some (.tup (q.2.map V.int))
theorem WkR.nil{H:Hp}:WkR H [] []:=⟨rfl,fun j q e=>by simp at e⟩
theorem WkR.same{H g:Hp}{l:List V}{i:List (Int×List Int)}(h:WkR H l i)(s:Same H g):WkR g l i:=⟨h.1,fun j k e=>let ⟨T,U,a,b,c⟩:=h.2 j k e;⟨T,U,a,s _ _ b,s _ _ c⟩⟩
theorem WkR.snoc{H:Hp}{o:List V}{g:List (Int×List Int)}{q:Int×List Int}{T U:Addr}(h:WkR H o g)(e:H T=some (.tup [.int q.1,.ref U]))(u:H U=some (.tup (q.2.map V.int))):WkR H (o++[.ref T]) (g++[q]):=by
 refine⟨by rw[zL,zL,h.1];rfl,fun j r c=>?_⟩
 by_cases i:j<g.length
 ·rw[jV i] at c
  obtain⟨s,t,e1,e2,w⟩:=h.2 j r c;exact⟨s,t,by rw[jV (by rw[h.1];exact i)];exact e1,e2,w⟩
 ·have l:=(zK.mp c).1
  rw[zL] at l;have A:j=g.length:=by simp at l;omega
  subst A;rw[jW (zy _),vR] at c;have:q=r:=by simpa using c
  subst this;exact⟨T,U,by rw[<- h.1,jW (zy _),vR];rfl,e,u⟩
theorem WkR.set{H:Hp}{s:List V}{o:List (Int×List Int)}{q:Int×List Int}{T U:Addr}{i:Nat}(h:WkR H s o)(e:H T=some (.tup [.int q.1,.ref U]))(w:H U=some (.tup (q.2.map V.int))):WkR H (s.set i (.ref T)) (o.set i q):=by
 refine⟨by rw[Qm,Qm,h.1],fun j r c=>?_⟩
 by_cases g:i=j
 ·subst g
  have l:=(zK.mp c).1;rw[Qm] at l;rw[Xz l] at c;cases c;exact⟨T,U,Xz (by rw[h.1];exact l),e,w⟩
 ·rw[Xq g] at c
  obtain⟨t,u,e1,e2,A⟩:=h.2 j r c;exact⟨t,u,by rw[Xq g];exact e1,e2,A⟩
section
variable{X:Cx}
end
end L2
namespace L2
open PySem PySem.Spec PyProof.Rows PySem.W
section
variable{X:Cx}
inductive Zq(P:Program)(w:World)(g:List V)(H:Hp)(Q:VK):Prop
 | mk (a:Addr) (c:List Key) (_:g=[.ref a]) (_:H a=some (V1 P w a c)) (_:Q (.int c.length) H):Zq P w g H Q
theorem zbf:CallR X (.builtin "len") (Zq X.prog X.w):=by
 intro l s σ H U O Q I r h;obtain⟨a,i,rfl,hx,q⟩:=h;obtain⟨u,rfl,J⟩:=Vals.one r;cases(show u=Value.ref a from J)
 obtain⟨⟨o,B,c,M,t,g,w,⟨_,D,E,G⟩,_,C,A,_⟩,_,_⟩:=(show ObjOk X.prog X.w H s.heap a (V1 X.prog X.w a i) from I.hok a _ hx)
 have ln:c.size=i.length:=by
  have e1:=G.length;have e2:=E.length_eq;have L:c.toList.length=c.size:=qF;omega
 have N:scanBound=4096:=rfl;refine call_len_set B g w A (by omega) ⟨.int i.length,H,I.kept (fun b o e=>e),⟨_,by rw[ln]⟩,q⟩
end
end L2
namespace L2
open PySem PySem.Spec PyProof.Rows
section
variable{X:Cx}
end
section
variable{c:Program}{w:World}{K:Type}[DecidableEq K]{g:KeyKind c w K}{A:Around}{E:Value->Shared->Prop}{s:Shared}
end
section
variable{X:Cx}
end
end L2
namespace L2
open PySem PySem.Spec PyProof.Rows PySem.W
theorem zbl(a:Value):argsOk "min" ⟨[a],[(Str.ofString "default",.none)]⟩:=by unfold argsOk;kernel_rfl
theorem zg8(p q:Int×Int):ltP p q=ltN [p.1,p.2] [q.1,q.2]:=by
 show _=if p.1=q.1 then(if p.2=q.2 then false else decide (p.2<q.2)) else decide (p.1<q.1)
 unfold ltP;by_cases e1:p.1=q.1
 ·rw[zr e1]
  by_cases e2:p.2=q.2
  ·rw[zr e2];exact qP (by omega)
  ·rw[zn e2];exact decide_eq_decide.mpr (by omega)
 ·rw[zn e1];exact decide_eq_decide.mpr (by omega)
def Zu(c:List (Int×Int)):Nat:=argBest (fun i j=>ltP (c.getD i (0,0)) (c.getD j (0,0))) (c.length-1)
theorem J3(f:Nat->Int×Int):∀n,argBest (fun i j=>ltP (f i) (f j)) n<=n/\∀j,j<=n->ltP (f j) (f (argBest (fun i j=>ltP (f i) (f j)) n))=false
 | 0=>⟨zy _,fun j g=>by rw[show j=0 by omega];exact YV _⟩
 | n+1=>by
  obtain⟨l,c⟩:=J3 f n;cases hb:ltP (f (n+1)) (f (argBest (fun i j=>ltP (f i) (f j)) n)) with
  | true=>
   have e:argBest (fun i j=>ltP (f i) (f j)) (n+1)=n+1:=by simp only[argBest,hb,if_true]
   rw[e];refine⟨zy _,fun j g=>?_⟩
   rcases yV j (n+1) with z | z
   ·have a:=of_decide_eq_false (c j (by omega))
    have b:=vk hb;exact qP (by omega)
   ·rw[show j=n+1 by omega];exact YV _
  | false=>
   have e:argBest (fun i j=>ltP (f i) (f j)) (n+1)=argBest (fun i j=>ltP (f i) (f j)) n:=by simp only[argBest,hb,qW,if_false]
   rw[e];refine⟨by omega,fun j g=>?_⟩
   rcases yV j (n+1) with z | z
   ·exact c j (by omega)
   ·rw[show j=n+1 by omega];exact hb
theorem YU{c:List (Int×Int)}(h:c≠[]):Zu c<c.length:=by
 have:=(J3 (fun i=>c.getD i (0,0)) (c.length-1)).1
 have:=WL.mpr h;unfold Zu;omega
theorem zd1{c:List (Int×Int)}{j:Nat}(h:j<c.length):ltP (c.getD j (0,0)) (c.getD (Zu c) (0,0))=false:=
 (J3 (fun i=>c.getD i (0,0)) (c.length-1)).2 j (by omega)
section
variable{g:Program}{w:World}{A:Around}{R:Result->Shared->Prop}{I S:Addr}{t l:List Addr}{n:Nat}{P:Nat->Value->Prop}{St:Nat->Heap->Prop}
theorem Wi(W:Walks g w A.in1 I t l n P St)(L:Nat->Nat->Bool)(J:Heap->Prop)(hJ:∀h u,J h->(∀b o,b∉l->b≠S->h.get? b=some o->u.get? b=some o)->J u)
  (hc:∀i j vi vj (s:Shared) (Q:Value->Shared->Prop) (E:Value->Shared->Prop),J s.heap->P i vi->P j vj->Q (.bool (L i j)) s->wpAny (model g w) A.in1 (richCompare .Lt vi vj) Q E s) (N:S∉t) :
  ∀(k j:Nat) (s:Shared) (B:Value) (c:Nat),n=j+1+k->St (j+1) s.heap->J s.heap->P (argBest L j) B->s.heap.get? S=some (seqObj "list" #[B,B] c) ->
   (∀v u U,P (argBest L (n-1)) v->(∀b o,b∉l->b≠S->s.heap.get? b=some o->u.get? b=some o)->R (.ok (.ret v)) { s with heap:=u,toks:=U }) ->
   codeAny (model g w) A (.builtin "min.loop" ⟨[.ref I,.none,.ref S],[("default",.none)]⟩) R s:=by
 have nw:S∉l:=fun h=>N (W.sub _ h)
 have nm:(toString "min" ++ toString ".loop" : String) = "min.loop" :=by decide
 intro k;induction k with
 | zero=>
  intro j s B c hn st j0 pb M Y;refine codeAny_builtin Wx ?_
  rw[yy wW _];show wpAny _ A.in1 (seqItems? (.ref S) >>= _) _ _ s;refine zd (xi M rfl ?_)
  show wpAny _ A.in1 (tryCatch (pyNext (.ref I)) _ >>= _) _ _ s;have a0:St n s.heap:=by rw[hn];exact st
  refine zd (yX (W.done s _ _ a0 fun u U D=>?_))
  show wpAny _ A.in1 (updateSeq S (fun _=>#[]) >>= _) _ _ _
  refine zd (wU (D S _ nw M) rfl (zd (v0 (zp ?_))))
  exact Y B _ U (by rw[hn];exact pb) fun b o b1 b2 e=>(vY _ _ (zN b2)).trans (D b o b1 e)
 | succ k ih=>
  intro j s B c hn st j0 pb M Y;refine codeAny_builtin Wx ?_
  rw[yy wW _];show wpAny _ A.in1 (seqItems? (.ref S) >>= _) _ _ s;refine zd (xi M rfl ?_)
  show wpAny _ A.in1 (tryCatch (pyNext (.ref I)) _ >>= _) _ _ s;refine zd (yX (W.item (j+1) s _ _ (by omega) st fun v u U pv O D=>?_))
  have C:=D S _ nw M;have j2:J u:=hJ _ _ j0 fun b o b1 _ e=>D b o b1 e
  show wpAny _ A.in1 (tryCatch (holding [v,v] (richCompare .Lt v B >>= _)) _ >>= _) _ _ _;refine zd (yX (je (zd (hc (j+1) (argBest L j) v B { s with heap:=u,toks:=U } _ _ j2 pv pb ?_))))
  refine zd (je (wI (zd (v0 (zp ?_)))))
  cases hb:L (j+1) (argBest L j) with
  | true=>
   simp only[if_true];refine zd (wU C rfl (zd (v0 ?_)))
   rw[nm];have G:∀b o,b≠S->u.get? b=some o->(u.update S (Obj.mapSeq fun _=>#[v,v])).get? b=some o:=fun b o b2 e=>(vY _ _ (zN b2)).trans e
   refine zp ⟨plainId_quiet wW _,ih (j+1) _ v _ (by omega) (W.frame _ _ _ O fun b bf o e=>G b o (fun z=>N (by rw[<- z];exact bf)) e) (hJ _ _ j2 fun b o _ b2 e=>G b o b2 e) (by simp only[argBest,hb,if_true];exact pv) (xP _ C rfl) fun v' h2 H p2 k2=>?_⟩
   exact Y v' h2 H p2 fun b o b1 b2 e=>k2 b o b1 b2 (G b o b2 (D b o b1 e))
  | false=>
   simp only[qW,if_false];refine zd (v0 ?_)
   rw[nm];refine zp ⟨plainId_quiet wW _,ih (j+1) _ B c (by omega) O j2 (by simp only[argBest,hb,qW,if_false];exact pb) C fun v' h2 H p2 k2=>?_⟩
   exact Y v' h2 H p2 fun b o b1 b2 e=>k2 b o b1 b2 (D b o b1 e)
end
section
variable{X:Cx}
theorem Wc{id:String}{r:List V->Hp->VK->Prop}{x:Str}{p g U:Pos}{e A:Expr}{l:List Expr}{t:TA}(hc:zfg X (.builtin id) [(Str.ofString "default",.none)] r)(M:Gl X x)(N:X.mg x=none)(hv:bootBuiltins x=some (.builtin id))(J:PA X (e::l) t)(hk:PE X A (tC .non))
  (O:x ≠ "__name__" :=by decide) (w:(x==("__debug__":Str))=false:=by decide)
  (L:backTo g (starEach (e::l) X.env)=(false,eval e X.env)::backTo g (starEach l X.env):=by rfl)
  (i:(backTo g (starEach (e::l) X.env)).any (·.1)=false:=by rfl) :
  PE X (.Call (.Name x p) (e::l) [⟨some (Str.ofString "default"),A,U⟩] g) (tCB r t):=by
 intro c s σ H Q I h;refine y8 (xE I M N hv ?_ O w)
 refine callWith_kw (thn (J g c s σ H _ I h) fun us s1 ⟨B,C,D,r1,Y⟩=>kws_cons (thn (hk c s1 σ C (fun u o=>u=.non/\r B o Q) D ⟨rfl,Y⟩) fun v s2 ⟨u,o,E,ru,G,q2⟩=>kws_nil ?_)) L i rfl rfl
 subst G;cases(show v=Value.none from ru)
 exact hc c s2 σ o B us Q E r1 q2
inductive Zo(K:W.Frag)(i:List V)(H:Hp)(Q:VK):Prop
 | mk (p:Addr) (g:List V) (c:List (Int×Int)) (_:i=[.ref p]) (_:SqL K H p g) (_:PrR H g c) (_:(c=[]->Q .non H)) (_:∀v,c≠[]->g[Zu c]? =some v->Q v H):Zo K i H Q
theorem zbd(hc:X.calm=true)(hu:X.A.units+64<cLine):zfg X (.builtin "min") [(Str.ofString "default",.none)] (Zo X.K):=by
 intro af s σ H xs us Q I r h;obtain⟨p,zs,B,rfl,hq,wk,qn,q⟩:=h;obtain⟨u,rfl,ru⟩:=vG r;cases(show u=_ from ru)
 obtain⟨g,rv,pl,hz⟩:=I.list hq;have hl:=pl.isList;have ai:=rv.length;have wl:=wk.1;have D:p<s.heap.objs.size:=let ⟨_,e,_⟩:=hl;zA e
 have nm:(toString "min" ++ toString ".loop" : String) = "min.loop" :=by decide
 have ah:X.A.in1.in1.units<cLine:=Qt (WN (by decide:2<=64) _) hu
 have ab:X.A.in1.units<cLine:=Qt (WN (by decide:1<=64) _) hu
 have tup:∀(j:Nat) v,g[j]? =some v->∃T q,v=Value.ref T/\B[j]? =some q/\∃o n t u,s.heap.get? T=some o/\o.cls=.type "tuple" /\ o.data=.seq #[.int q.1 t,.int q.2 u] n:=fun j v hj=>by
  have ag:=(zK.mp hj).1;have ek:B[j]? =some (B[j]'(by omega)):=qA _
  generalize B[j]'(by omega)=k at ek
  obtain⟨T,e1,e2⟩:=wk.2 j k ek;obtain⟨v',M,e5⟩:=rv.get e1;rw[hj] at M;cases M;cases(show v=Value.ref T from e5)
  obtain⟨_,ts,rt,⟨o,ho,a0,n,aa⟩,_⟩:=(show ObjOk X.prog X.w H s.heap T (.tup [.int k.1,.int k.2]) from I.hok T _ e2)
  cases rt with
  | cons r1 rt=>
   cases rt with
   | cons r2 rt=>
    cases rt;obtain⟨t1,rfl⟩:=r1;obtain⟨t2,rfl⟩:=r2;exact⟨T,k,rfl,ek,o,n,t1,t2,ho,a0,aa⟩
 refine kmk_tree F.kind_min F.plain_min F.entry_min (zbl _) ?_
 show wpAny _ X.A.in1 (Builtin.Builtins.bindParams "min" ["key","default"] 0 ⟨[],[(Str.ofString "default",.none)]⟩ >>= _) _ _ s;refine zd (yT (show Builtin.Builtins.bindParams "min" ["key","default"] 0 ⟨[],[(Str.ofString "default",.none)]⟩=pure [none,some .none] from rfl) (zd (zp (zd (wpAny_pyIter_list hl ?_)))))
 refine zd (xO ?_)
 rw[nm];have hI:s.heap.objs.size<(s.heap.push { cls:=.type "list_iterator",data:=.fields #[.ref p,.int 0 0] }).objs.size:=by rw[jD];exact wn _
 have L:(s.heap.push { cls:=.type "list_iterator",data:=.fields #[.ref p,.int 0 0] }).IsListIter s.heap.objs.size p 0:=⟨_,qv _ rfl,rfl,rfl⟩;have J:(s.heap.push { cls:=.type "list_iterator",data:=.fields #[.ref p,.int 0 0] }).IsList p g.toArray:=hl.push _;have k1:∀b o,s.heap.get? b=some o->(s.heap.push { cls:=.type "list_iterator",data:=.fields #[.ref p,.int 0 0] }).get? b=some o:=fun b o e=>zI _ e
 generalize s.heap.push { cls:=.type "list_iterator",data:=.fields #[.ref p,.int 0 0] }=l at hI L J k1;have W:=Walks.list (prog:=X.prog) (w:=X.w) (A:=X.A.in1.in1) (I.ok.hd hc) s.heap.objs.size p (zS D) g.toArray;have W':=Walks.list (prog:=X.prog) (w:=X.w) (A:=X.A.in1) (I.ok.hd hc) s.heap.objs.size p (zS D) g.toArray;have G:l.objs.size∉[s.heap.objs.size,p]:=by
  intro z;rcases zQ.mp z with z | z
  ·omega
  ·exact xh _ (Nat.lt_trans D (zP.mp z▸hI))
 have hS:(l.push { cls:=.type "list",data:=.seq ([]:List Value).toArray }).get? l.objs.size=some (seqObj "list" #[] 0):=qv _ rfl;refine zp ⟨plainId_quiet wW _,codeAny_builtin Wx ?_⟩
 rw[yy wW _];show wpAny _ _ (seqItems? (.ref l.objs.size) >>= _) _ _ _;refine zd (xi hS rfl ?_)
 show wpAny _ _ (tryCatch (pyNext (.ref s.heap.objs.size)) _ >>= _) _ _ _;by_cases C:B=[]
 ·have il:g.length=0:=by have z:=wl;rw[C,y6] at z;omega
  have e0:g.toArray.size=0:=by rw[zZ];exact il
  refine zd (yX (W'.done { s with heap:=l.push { cls:=.type "list",data:=.seq ([]:List Value).toArray } } _ _ (by rw[e0];exact⟨L.at fun o e=>zI _ e,J.push _⟩) fun E tk kk=>?_))
  show wpAny _ _ (rule _ >>= _) _ _ _;refine zd (xp ?_)
  refine zp ?_
  exact⟨.non,H,I.kept (h':=E) (t':=tk) (fun b o e=>kk b o (fun z=>zS (zA e) (zP.mp z)) (zI _ (k1 b o e))),rfl,qn C⟩
 ·have h0:0<B.length:=WL.mpr C
  refine zd (yX (W'.item 0 { s with heap:=l.push { cls:=.type "list",data:=.seq ([]:List Value).toArray } } _ _ (by rw[zZ];omega) ⟨L.at fun o e=>zI _ e,J.push _⟩ fun v E tk pv ac kk=>?_))
  have nw:l.objs.size∉[s.heap.objs.size]:=fun z=>G (by simp at z;omega)
  have N:=kk _ _ nw hS;show wpAny _ _ (updateSeq l.objs.size (fun _=>#[v,v]) >>= _) _ _ _
  refine zd (wU N rfl ?_)
  rw[nm];have U:∀b o,b≠l.objs.size->E.get? b=some o->(E.update l.objs.size (Obj.mapSeq fun _=>#[v,v])).get? b=some o:=fun b o b2 e=>(vY _ _ (zN b2)).trans e
  have all:∀b o,s.heap.get? b=some o->b≠s.heap.objs.size/\b≠l.objs.size:=fun b o e=>⟨zS (zA e),zS (Nat.lt_trans (zA e) hI)⟩
  have j0:∀b o,s.heap.get? b=some o->(E.update l.objs.size (Obj.mapSeq fun _=>#[v,v])).get? b=some o:=fun b o e=>
   U b o (all b o e).2 (kk b o (fun z=>(all b o e).1 (zP.mp z)) (zI _ (k1 b o e)))
  refine zp ⟨plainId_quiet wW _,Wi (S:=l.objs.size) W' (fun i j=>ltP (B.getD i (0,0)) (B.getD j (0,0))) (fun h=>∀b o,s.heap.get? b=some o->h.get? b=some o) (fun h h2 a b c o e=>b c o (fun z=>(all c o e).1 (zP.mp z)) (all c o e).2 (a c o e)) ?_ G (g.length-1) 0 _ v _ (by rw[zZ];omega) (W'.frame _ _ _ ac fun b bf o e=>U b o (fun z=>G (by rw[<- z];exact bf)) e) j0 pv (xP _ N rfl) fun v' h2 ae p2 k2=>?_⟩
  ·intro i j vi vj s2 Q2 E2 jj hi hj O
   have ei:g[i]? =some vi:=by simpa using hi
   have ej:g[j]? =some vj:=by simpa using hj
   obtain⟨T,qi,rfl,fi,oi,ni,ti,ui,a1,a2,a3⟩:=tup i vi ei;obtain⟨T',qj,rfl,fj,oj,nj,tj,uj,b1,b2,b3⟩:=tup j vj ej;rw[jE,fi,jE,fj] at O;refine zbB ab (jj _ _ a1) a2 a3 (jj _ _ b1) b2 b3 ?_ O
   show QE X.prog X.w X.A.in1.in1 s2 [.int qi.1 ti,.int qi.2 ui] [.int qj.1 tj,.int qj.2 uj] (ltP qi qj);rw[zg8];exact Vm (as:=[qi.1,qi.2]) (bs:=[qj.1,qj.2]) (.cons ⟨_,rfl⟩ (.cons ⟨_,rfl⟩ .nil)) (.cons ⟨_,rfl⟩ (.cons ⟨_,rfl⟩ .nil))
  ·rw[zZ] at p2
   have e2:g[Zu B]? =some v':=by
    have:g.length=B.length:=by omega
    unfold Zu;rw[<- this];simpa using p2
   have hm:=YU C;have e3:zs[Zu B]? =some (zs[Zu B]'(by omega)):=qA _
   obtain⟨v2,M,e5⟩:=rv.get e3;rw[e2] at M;cases M;refine⟨_,H,I.kept (h':=h2) (t':=ae) (fun b o e=>k2 b o (fun z=>(all b o e).1 (zP.mp z)) (all b o e).2 (j0 b o e)),e5,q _ C e3⟩
end
end L2
namespace L2
open PySem PySem.Spec PyProof.Rows
section
variable{X:Cx}
end
end L2
namespace L2
open PySem PySem.Spec PyProof.Rows PySem.W
section
variable{X:Cx}
end
end L2
namespace L2
open PySem PySem.Spec PyProof.Rows
section
variable{X:Cx}
end
section
variable{c:Program}{w:World}{A:Around}{E:Value->Shared->Prop}{s:Shared}
end
section
variable{X:Cx}
end
theorem zbA(o A i:Expr)(t:List Expr)(l:Scope)(u:Pos)(w s:Value)(g:Env) :
  compTurn (.SetComp o [⟨A,i,t,0⟩] l u) 0 w s g=(do
   standAt i.pos
   match<-pyNext w with
   | none=>pure (.done .next)
   | some v=>
    letOwnedTupleGo A w v
    assign A g v
    let mut ok:=true
    for c in t do
     if ok then ok<-isTrue c g (eval c g)
    if ok then
     (do let v<-eval o g;standAt o.pos;let _<-call (.builtin "set.add") [s,v])
    again (.compLoop (.SetComp o [⟨A,i,t,0⟩] l u) 0 w s g)):=by rfl
section
variable{c:Program}{w:World}{A:Around}{E:Value->Shared->Prop}{R:Result->Shared->Prop}{s:Shared}
theorem zaz{u G l B rest i C D t o}
  (J:codeAny (model c w) A (.compLoop (.SetComp u (⟨G,l,B,0⟩::rest) i C) 0 D t o) R s)
  (h:wpAny (model c w) A (pyIter D) (fun H I=>codeAny (model c w) A (.compLoop (.SetComp u (⟨G,l,B,0⟩::rest) i C) 0 H t o) R I) (notedBy (model c w) A o fun x I=>R (.error x) I) s) :
  codeAny (model c w) A (.compStart (.SetComp u (⟨G,l,B,0⟩::rest) i C) 0 D t o) R s:=by
 refine codeAny_of_tree (show wpAny _ A ((compStart (.SetComp u (⟨G,l,B,0⟩::rest) i C) 0 D t o).onRaise (fun x=>do noteFrame x o;standAt theWindowsPlace)) _ _ s from wpAny_notedAt ?_)
 unfold compStart;refine(show wpAny _ A (ask >>= _) _ _ s from zd (wpAny_askSetting (wpAny_ite ?_)))
 split
 ·first
   | exact zp ⟨rfl,J⟩
   | exact zd (zp (zp ⟨rfl,J⟩))
 ·first
   | exact zd (xp (zd (we (zd (qN h (fun _ _ q=>zp ⟨rfl,q⟩) fun _ _ x=>x)))))
   | (refine zd (xp ?_)
      exact(show wpAny _ _ (standAt l.pos >>= _) _ _ s from zd (we (zd (qN h (fun _ _ q=>zp ⟨rfl,q⟩) fun _ _ x=>x)))))
theorem zaE{B U C:Expr}{D:List Expr}{l:Scope}{H:Pos}{L o:Value}{i:Env}(J:Nat->Shared->Prop)
  (I:∀n s,J n s->wpAny (model c w) A (pyNext L) (fun r s1=>match r with
   | none=>R (.ok .next) s1
   | some v=>wpAny (model c w) A (letOwnedTupleGo U L v) (fun _ s2=>wpAny (model c w) A (assign U i v) (fun _ s3=>
     wpAny (model c w) A (ye D i) (fun ok M=>
      if ok=true then wpAny (model c w) A (eval B i) (fun x N=>
       wpAny (model c w) A (call (.builtin "set.add") [o,x]) (fun _ O=>∃m,m<n/\J m O) (fun _ _=>False) N) (fun _ _=>False) M
      else ∃m,m<n/\J m M) (fun _ _=>False) s3) (fun _ _=>False) s2) (fun _ _=>False) s1) (fun _ _=>False) s)
  (n:Nat) (h:J n s):codeAny (model c w) A (.compLoop (.SetComp B [⟨U,C,D,0⟩] l H) 0 L o i) R s:=by
 have G:∀{α:Type} {t:Sem α} {Q:α->Shared->Prop} {E:Value->Shared->Prop} {s:Shared},wpAny (model c w) A t Q (fun _ _=>False) s->wpAny (model c w) A t Q E s:=fun x=>qN x (fun _ _ q=>q) fun _ _ q=>q.elim
 refine codeAny_loop rfl J (fun k u hJ=>?_) n h
 refine(show wpAny _ A ((compTurn (.SetComp B [⟨U,C,D,0⟩] l H) 0 L o i).onRaise (fun x=>do noteFrame x i;theTreesLotGoes x)) _ _ u from wpAny_noted ?_)
 rw[zbA];refine zd (we (zd (G (qN (I k u hJ) (fun r s1 h1=>?_) fun _ _ q=>q))))
 cases r with
 | none=>exact zp h1
 | some v=>
  refine zd (G (qN h1 (fun _ s2 h2=>zd (G (qN h2 (fun _ s3 h3=>zd (G (qN h3 (fun ok M h4=>?_) fun _ _ q=>q))) fun _ _ q=>q))) fun _ _ q=>q))
  cases ok with
  | false=>exact zp ⟨rfl,h4⟩
  | true=>
   have Y:wpAny (model c w) A (eval B i) (fun x N=>wpAny (model c w) A (call (.builtin "set.add") [o,x]) (fun _ O=>∃m,m<k/\J m O) (fun _ _=>False) N) (fun _ _=>False) M:=h4
   refine zd (zd (G (qN Y (fun x N h5=>zd (we (zd (G (qN h5 (fun _ O h6=>zp (zp ⟨rfl,h6⟩)) fun _ _ q=>q))))) fun _ _ q=>q)))
variable{K:Type}[DecidableEq K]{g:KeyKind c w K}
theorem zd0{Q:Value->Shared->Prop}(h:Q (.ref s.heap.objs.size) { s with heap:=s.heap.push (vF w) }):wpAny (model c w) A (newSet (.type "set")) Q E s:=by
 unfold newSet setsByText;refine zd (zd (wpAny_askSetting (zp ?_)))
 dsimp only;simp only[newObj];exact zd (wpAny_alloc (zp h))
end
section
variable{X:Cx}{l w i:Expr}{o:List Expr}{c:Scope}{s:Pos}{A:TI}{g:TG}{u:TT}{t:TE}
end
section
variable{X:Cx}{x y:Str}{t u B:Pos}{s:Nat}{i g:Expr}{l:List Expr}{c:Scope}{o:Pos}{C:TI}{A:TT}{w:TE}
end
section
variable{X:Cx}
end
section
variable{X:Cx}{c:Pos}
end
end L2
namespace L2
open PySem PySem.Spec PyProof.Rows PySem.W
section
variable{X:Cx}
variable{c:Expr}
end
end L2
namespace L2
open PySem PySem.Spec PyProof.Rows
section
variable{i:Program}{w:World}{K:Type}[DecidableEq K](g:KeyKind i w K)
def IsPK(h:Heap)(k:List K×List K)(a:Addr):Prop:=∃o n B C,h.get? a=some o/\o.cls=.type "tuple" /\ o.data=.seq #[.ref B,.ref C] n/\IsTupleKey g h k.1 B/\IsTupleKey g h k.2 C
variable{g}
theorem IsPK.ty{s:Shared}{k:List K×List K}{a:Addr}(x:IsPK g s.heap k a):s.TypeIs (.ref a) "tuple" :=let ⟨o,_,_,_,p,q,_⟩:=x;⟨o,p,q⟩
theorem IsPK.inj{h:Heap}{a:Addr}{x y:List K×List K}(p:IsPK g h x a)(q:IsPK g h y a):x=y:=by
 obtain⟨o,n,B,C,e,_,d,b,c⟩:=p;obtain⟨J,I,G,H,t,_,l,u,D⟩:=q;rw[e] at t;cases t;rw[d] at l;cases l;exact yS (b.inj u) (c.inj D)
theorem IsPK.keeps{h G:Heap}{k:List K×List K}{a d:Addr}{o:Obj}{I H}(x:IsPK g h k a)(l:h.get? d=some o)(u:o.data=.dict I H)(D:Heap.SameBut d h G):IsPK g G k a:=by
 obtain⟨p,n,B,C,e,t,q,b,c⟩:=x;refine⟨p,n,B,C,(D.2 a fun z=>?_).trans e,t,q,b.keeps l u D,c.keeps l u D⟩
 subst z;rw[e] at l;cases l;rw[u] at q;exact nomatch q
variable{A:Around}{E:Value->Shared->Prop}{s:Shared}
end
end L2
namespace PySem
section
variable{c:Program}{w:World}{A:Around}{E:Value->Shared->Prop}{s:Shared}{d o:Addr}{l:Array DictEntry}{g i:Nat}
end
end PySem
namespace L2
open PySem PySem.Spec PyProof.Rows PySem.W
section
variable{X:Cx}{c:List (Addr×Obj)}{σ:St}{H:Hp}{s:Shared}
end
end L2
namespace L2
open PySem PySem.Spec PyProof.Rows PySem.W
section
variable{X:Cx}
end
end L2
namespace L2
open PySem PySem.Spec PyProof.Rows
abbrev zgm:=Addr->V->V->Hp->(Hp->Prop)->Prop
section
variable{X:Cx}{s C w i:Expr}{l:List Expr}{c:Scope}{o:Pos}{D:TI}{g:TG}{u:TT}{A B:TE}{mk:Addr->HO}{t:zgm}
end
end L2
namespace L2
open PySem PySem.Spec PyProof.Rows PySem.W
section
variable{X:Cx}{i D Q g:Expr}{l:List Expr}{c:Scope}{w:Pos}{U:TI}{L:TT}{J M O:TE}{mk:Addr->HO}{t:zgm}{x y z u:Str}{G H I E N A B:Pos}{C o s:Nat}
end
def zhs(K:W.Frag)(H:Hp)(a:Addr)(p:Int×List Int):Prop:=∃U,SqT K H a [.int p.1,.ref U]/\SqT K H U (p.2.map V.int)
def WkO(h:Heap)(a:Addr)(p:Int×List Int):Prop:=∃o n t U,h.get? a=some o/\o.cls=.type "tuple" /\ o.data=.seq #[.int p.1 t,.ref U] n/\∃c i g,h.get? U=some c/\c.cls=.type "tuple" /\ c.data=.seq g i/\Vals (p.2.map V.int) g.toList
theorem WkO.keep{h c:Heap}{a:Addr}{p:Int×List Int}(x:WkO h a p)(k:∀b o,h.get? b=some o->c.get? b=some o):WkO c a p:=
 let ⟨o,n,t,U,a1,a2,a3,i,g,l,b1,b2,b3,b4⟩:=x;⟨o,n,t,U,k _ _ a1,a2,a3,i,g,l,k _ _ b1,b2,b3,b4⟩
end L2
namespace L2
open PySem PySem.Spec PyProof.Rows
section
variable{X:Cx}{s C w i:Expr}{l:List Expr}{c:Scope}{o:Pos}{D:TI}{g:TG}{u:TT}{A B:TE}{mk:Addr->HO}{t:zgm}
end
end L2
namespace L2
open PySem PySem.Spec PyProof.Rows PySem.W
def WkS(K:W.Frag)(H:Hp)(g:List V)(c:List (Int×List Int)):Prop:=g.length=c.length/\∀(j:Nat) q,c[j]? =some q->∃T,g[j]? =some (.ref T)/\zhs K H T q
theorem WkS.nil{K:W.Frag}{H:Hp}:WkS K H [] []:=⟨rfl,fun j q e=>by simp at e⟩
theorem WkS.snoc{K:W.Frag}{H:Hp}{o:List V}{g:List (Int×List Int)}{q:Int×List Int}{T:Addr}(h:WkS K H o g)(e:zhs K H T q):WkS K H (o++[.ref T]) (g++[q]):=by
 refine⟨by rw[zL,zL,h.1];rfl,fun j r c=>?_⟩
 by_cases i:j<g.length
 ·rw[jV i] at c
  obtain⟨s,e1,e2⟩:=h.2 j r c;exact⟨s,by rw[jV (by rw[h.1];exact i)];exact e1,e2⟩
 ·have l:=(zK.mp c).1
  rw[zL] at l;have t:j=g.length:=by simp at l;omega
  subst t;rw[jW (zy _),vR] at c;cases(show some q=some r from c)
  exact⟨T,by rw[<- h.1,jW (zy _),vR];rfl,e⟩
end L2
namespace L2
open PySem PySem.W PySem.Spec PyProof.Rows
theorem ZA{d:Dat}:∀{c:List Dat},d∈c->d.py.depth<=PyData.depthAll (Dat.pys c)
 | e::c,h=>by
  show _<=max (PyData.depth e.py) (PyData.depthAll (Dat.pys c));rcases zQ.mp h with rfl | h
  ·exact Nat.le_max_left _ _
  ·exact zX (ZA h) (Nat.le_max_right _ _)
section
variable{X:Cx}
theorem zc5(n:Nat):((List.range n).all fun _=>true)=true:=j3.mpr fun _ _=>rfl
def zhm:Dat->Bool
 | .lst _=>false
 | .tup _=>false
 | _=>true
theorem Vu{H:Hp}{A:Around}{s:Shared}{d:Dat}(h:zhm d=true){g l:V}{C D:Value}(w:Rep X.K H d g)(B:Rep X.K H d l)(o:RelV g C)(u:RelV l D):SeqAt.EqAt A s C D true:=by
 cases d with
 | lst G=>cases h
 | tup G=>cases h
 | non=>
  cases(show g=_ from w);cases(show l=_ from B)
  cases(show C=_ from o);cases(show D=_ from u)
  exact y4 _
 | bl c=>
  cases(show g=_ from w);cases(show l=_ from B)
  cases(show C=_ from o);cases(show D=_ from u)
  exact y4 _
 | int i=>
  cases(show g=_ from w);cases(show l=_ from B)
  obtain⟨t,rfl⟩:=o;obtain⟨E,rfl⟩:=u;have:=SeqAt.EqAt.int_int (A:=A) (s:=s) i t i E;rwa[beq_self_eq_true] at this
 | str x=>
  cases(show g=_ from w);cases(show l=_ from B)
  obtain⟨t,rfl⟩:=o;obtain⟨E,rfl⟩:=u;have:=SeqAt.EqAt.str_str (A:=A) (s:=s) x t x E;rwa[beq_self_eq_true] at this
theorem zgc{C:List (Addr×Obj)}{σ:St}{H:Hp}{s:Shared}(I:Inv X C σ H s):∀(n:Nat) {A:Around},A.units+n<cLine->∀{d:Dat},d.py.depth<=n->∀{Y v2:V} {Q U:Value},Rep X.K H d Y->Rep X.K H d v2->RelV Y Q->RelV v2 U->SeqAt.EqAt A s Q U true:=by
 intro n;induction n with
 | zero=>
  intro A hu d l Y v2 Q U c g D E;cases d with
  | lst o=>exact absurd l (Nat.not_succ_le_zero _)
  | tup o=>exact absurd l (Nat.not_succ_le_zero _)
  | _=>exact Vu (by rfl) c g D E
 | succ n ih=>
  intro A hu d l Y v2 Q U c g D E;have u:A.units<cLine:=by omega
  have B:A.in1.units+n<cLine:=by rw[Around.in1_units];omega
  cases d with
  | lst o=>
   have l:PyData.depthAll (Dat.pys o)+1<=n+1:=l;obtain⟨a,L,rfl,hx,G⟩:=c;obtain⟨b,M,rfl,hy,J⟩:=g;cases D;cases E;by_cases e:a=b
   ·subst e
    exact y4 _
   ·obtain⟨N,c,p1,z1⟩:=I.list hx
    obtain⟨O,g,p2,z2⟩:=I.list hy;have l1:=c.length;have l2:=g.length;have lx:=G.len;have ly:=J.len;have w:=SeqAt.RcAt.lists (A:=A) (s:=s) (e:=fun _=>true) p1.isList p2.isList (by rw[zZ,zZ];omega) u (fun j h1 h2=>by
     rw[zZ] at h1 h2;obtain⟨c1,e1,g1⟩:=c.get (i:=j) (x:=L[j]'(by omega)) (by simp)
     obtain⟨c2,e2,g2⟩:=g.get (i:=j) (x:=M[j]'(by omega)) (by simp)
     obtain⟨d1,t,k1⟩:=G.get (i:=j) (x:=L[j]'(by omega)) (by simp)
     obtain⟨d2,f2,k2⟩:=J.get (i:=j) (x:=M[j]'(by omega)) (by simp)
     have de:d1=d2:=jq (t.symm.trans f2);subst de;have o1:N.toArray[j]=c1:=by simpa using (zK.mp e1).2
     have o2:O.toArray[j]=c2:=by simpa using (zK.mp e2).2
     rw[o1,o2];exact ih B (zX (ZA (qm t)) (by omega)) k1 k2 g1 g2)
    rw[zc5] at w;exact WH e w
  | tup o=>
   have l:PyData.depthAll (Dat.pys o)+1<=n+1:=l;obtain⟨a,L,rfl,hx,G⟩:=c;obtain⟨b,M,rfl,hy,J⟩:=g;cases D;cases E;by_cases e:a=b
   ·subst e
    exact y4 _
   ·obtain⟨N,c,p1,z1⟩:=I.tuple hx
    obtain⟨O,g,p2,z2⟩:=I.tuple hy;have l1:=c.length;have l2:=g.length;have lx:=G.len;have ly:=J.len;have w:=SeqAt.RcAt.tuples (A:=A) (s:=s) (e:=fun _=>true) p1 p2 u (fun j h1 h2=>by
     rw[zZ] at h1 h2;obtain⟨c1,e1,g1⟩:=c.get (i:=j) (x:=L[j]'(by omega)) (by simp)
     obtain⟨c2,e2,g2⟩:=g.get (i:=j) (x:=M[j]'(by omega)) (by simp)
     obtain⟨d1,t,k1⟩:=G.get (i:=j) (x:=L[j]'(by omega)) (by simp)
     obtain⟨d2,f2,k2⟩:=J.get (i:=j) (x:=M[j]'(by omega)) (by simp)
     have de:d1=d2:=jq (t.symm.trans f2);subst de;have o1:N.toArray[j]=c1:=by simpa using (zK.mp e1).2
     have o2:O.toArray[j]=c2:=by simpa using (zK.mp e2).2
     rw[o1,o2];exact ih B (zX (ZA (qm t)) (by omega)) k1 k2 g1 g2)
    rw[zc5,Bool.true_and,show(N.toArray.size==O.toArray.size)=true from jZ.mpr (by rw[zZ,zZ];omega)] at w
    exact WH e w
  | _=>exact Vu (by rfl) c g D E
inductive VG(K:W.Frag)(x:V)(y:V)(H:Hp)(Q:VK):Prop
 | mk (a b:Addr) (c:List Dat) (_:x=.ref a) (_:y=.ref b) (_:Rep K H (.lst c) x) (_:Rep K H (.lst c) y) (_:PyData.depthAll (Dat.pys c)<=50) (_:Q (.bl false) H):VG K x y H Q
theorem zfK(hu:X.A.units+64<cLine):OpR X (compareOp .NotEq) (VG X.K):=by
 intro o s σ H x y v u Q I c g h;obtain⟨a,b,ds,rfl,rfl,hx,hy,U,q⟩:=h;cases c;cases g;obtain⟨a',A,e1,qx,c⟩:=hx;obtain⟨b',B,e2,qy,g⟩:=hy;cases e1;cases e2;obtain⟨Y,t,p1,z1⟩:=I.list qx;obtain⟨js,w,p2,z2⟩:=I.list qy;have l1:=t.length;have l2:=w.length;have lx:=c.len;have ly:=g.len;refine WI (e:=fun _=>true) p1.isList p2.isList (by rw[zZ,zZ];omega) (by omega) (fun j N O=>?_) _ _ _ _ ⟨.bl _,H,I,rfl,?_⟩
 ·rw[zZ] at N O
  obtain⟨c1,e1,L⟩:=t.get (i:=j) (x:=A[j]'(by omega)) (by simp)
  obtain⟨C,e2,M⟩:=w.get (i:=j) (x:=B[j]'(by omega)) (by simp)
  obtain⟨D,l,k1⟩:=c.get (i:=j) (x:=A[j]'(by omega)) (by simp)
  obtain⟨E,J,k2⟩:=g.get (i:=j) (x:=B[j]'(by omega)) (by simp)
  have G:D=E:=jq (l.symm.trans J);subst G;have o1:Y.toArray[j]=c1:=by simpa using (zK.mp e1).2
  have o2:js.toArray[j]=C:=by simpa using (zK.mp e2).2
  rw[o1,o2];exact zgc I 50 (by rw[Around.in1_units];omega) (zX (ZA (qm l)) U) k1 k2 L M
 ·rw[zc5]
  exact q
end
end L2
namespace L2
open PySem PySem.Spec PyProof.Rows
def pr2(q:Int×Int):List V:=[.int q.1,.int q.2]
theorem JD{p q:Int×Int}(h:pr2 p=pr2 q):p=q:=by
 unfold pr2 at h;have c:=V.int.inj (List.cons.inj h).1;have g:=V.int.inj (List.cons.inj (List.cons.inj h).2).1;exact yS c g
theorem zfy(p q:Int×Int):za4 (pr2 p) (pr2 q)=decide (p=q):=by
 have e:∀a b:Int,eqV (.int a) (.int b)=decide (a=b):=fun a b=>by
  show(a==b)=_;rw[vU,jZ,vX]
 show(eqV (.int p.1) (.int q.1)&&(eqV (.int p.2) (.int q.2)&&true))=_;rw[e,e,Bool.and_true,vU,jx,vX,vX,vX,Prod.ext_iff]
section
variable{X:Cx}{g:List (Addr×Obj)}{σ:St}{H:Hp}{s:Shared}
theorem zgb(I:Inv X g σ H s){A:Around}(hu:A.units<cLine){a c:Addr}{p q:Int×Int}(hc:SqT X.K H c (pr2 q))(C:SqT X.K H a (pr2 p)):SeqAt.EqAt A s (.ref c) (.ref a) (decide (q=p)):=by
 by_cases e:c=a
 ·subst e
  rw[zW (JD (I.tuple_inj hc C))];exact y4 _
 ·obtain⟨l,D,Q,z1⟩:=I.tuple hc
  obtain⟨t,E,U,z2⟩:=I.tuple C;have N:=D.length;have O:=E.length;have h:=WH e (SeqAt.RcAt.tuples (A:=A) (s:=s) (e:=fun j=>eqV ((pr2 q).getD j .non) ((pr2 p).getD j .non)) Q U hu (fun j L M=>?_))
  ·rw[zZ,zZ,<- N,<- O,Z9,zfy] at h
   exact h
  ·have u:j<(pr2 q).length:=by rw[zZ] at L;omega
   have w:j<(pr2 p).length:=by rw[zZ] at M;omega
   obtain⟨w1,e1,Y⟩:=D.get (i:=j) (x:=(pr2 q)[j]) (qA u);obtain⟨w2,e2,q2⟩:=E.get (i:=j) (x:=(pr2 p)[j]) (qA w);have G:l.toArray[j]=w1:=by simpa using (zK.mp e1).2
   have J:t.toArray[j]=w2:=by simpa using (zK.mp e2).2
   have B:∀(o:Int×Int) (v:V),v∈pr2 o->x9 v=true:=fun o v hv=>by
    rcases zQ.mp hv with rfl | hv
    ·rfl
    ·cases zP.mp hv;rfl
   rw[G,J,jE,jE,qA u,qA w];exact Wm Y q2 (B _ _ (vy u)) (B _ _ (vy w))
def zdo(K:W.Frag)(H:Hp)(o:List V)(l:List (Int×Int)):Prop:=o.length=l.length/\∀(i:Nat) (r:Int×Int),l[i]? =some r->∃c,o[i]? =some (.ref c)/\SqT K H c [.int r.1,.int r.2]
open Classical in
theorem J4(I:Inv X g σ H s){a:Addr}{q:Int×Int}(M:SqT X.K H a (pr2 q)){G:List V}{l:List Value}{C:List (Int×Int)}(hx:zdo X.K H G C)(E:Vals G l){A:Around}(hu:A.units<cLine) :
  (∀y,y∈l.toArray->SeqAt.EqAt A s y (.ref a) (decide (∃c,y=Value.ref c/\SqT X.K H c (pr2 q))))/\l.toArray.any (fun y=>decide (∃c,y=Value.ref c/\SqT X.K H c (pr2 q)))=decide (q∈C):=by
 have t:∀y∈l,∃(c:Addr) (r:Int×Int),y=.ref c/\SqT X.K H c (pr2 r)/\r∈C:=fun y hy=>by
  obtain⟨i,w⟩:=Xt.mp hy;have O:=(zK.mp w).1;have Q:=E.length;obtain⟨r,B⟩:∃r,C[i]? =some r:=⟨_,qA (by have:=hx.1;omega)⟩
  obtain⟨c,e1,e2⟩:=hx.2 i r B;obtain⟨w1,u,o⟩:=E.get e1;rw[w] at u;cases u;exact⟨c,r,o,e2,qm B⟩
 constructor
 ·intro y hy
  obtain⟨c,r,rfl,hc,_⟩:=t y (by simpa using hy)
  have h:=zgb I hu hc M;by_cases e:r=q
  ·subst e
   rw[zW rfl] at h;rw[zW ⟨c,rfl,hc⟩];exact h
  ·rw[qP e] at h
   rw[qP]
   ·exact h
   ·rintro⟨J,L,D⟩
    cases L;exact e (JD (I.tuple_inj hc D))
 ·rw[vU,vX,List.any_toArray,Xg]
  constructor
  ·rintro⟨y,hy,N⟩
   obtain⟨J,rfl,D⟩:=vk N;obtain⟨c,r,e,hc,B⟩:=t _ hy;cases e;rw[<- JD (I.tuple_inj hc D)];exact B
  ·intro hq
   obtain⟨i,w⟩:=Xt.mp hq;obtain⟨c,e1,e2⟩:=hx.2 i q w;obtain⟨w1,u,o⟩:=E.get e1;exact⟨w1,qm u,zW ⟨c,o,e2⟩⟩
end
inductive zft(K:W.Frag)(c:Bool)(x:V)(y:V)(H:Hp)(Q:VK):Prop
 | mk (a p:Addr) (q:Int×Int) (i:List V) (g:List (Int×Int)) (_:x=.ref a) (_:y=.ref p) (_:SqT K H a [.int q.1,.int q.2]) (_:SqL K H p i) (_:zdo K H i g) (_:Q (.bl (if c then !decide (q∈g) else decide (q∈g))) H):zft K c x y H Q
section
variable{X:Cx}
theorem zfL{K:W.Frag}(hk:X.K=K)(hu:X.A.units+64<cLine):OpR X (compareOp .In) (zft K false):=by
 subst hk;intro c s σ H x y v u Q I B C h;obtain⟨a,p,q,G,E,rfl,rfl,l,o,hx,k⟩:=h;cases B;cases C;obtain⟨t,r,w,D⟩:=I.list o;obtain⟨g,i⟩:=J4 I l hx r (A:=X.A.in1) (by show X.A.units+1<cLine;omega)
 refine SeqAt.in_listAt _ w.isList g ⟨.bl _,H,I,rfl,?_⟩
 rw[i];exact k
theorem zaM{K:W.Frag}(hk:X.K=K)(hu:X.A.units+64<cLine):OpR X (compareOp .NotIn) (zft K true):=by
 subst hk;intro c s σ H x y v u Q I B C h;obtain⟨a,p,q,G,E,rfl,rfl,l,o,hx,k⟩:=h;cases B;cases C;obtain⟨t,r,w,D⟩:=I.list o;obtain⟨g,i⟩:=J4 I l hx r (A:=X.A.in1) (by show X.A.units+1<cLine;omega)
 refine SeqAt.notIn_listAt _ w.isList g ⟨.bl _,H,I,rfl,?_⟩
 rw[i];exact k
end
end L2
namespace L2
open PySem PySem.Spec PyProof.Rows
section
variable{X:Cx}
end
def lpN(m:Nat):Nat->Nat->Nat->Nat×Nat
 | 0,i,q=>(i,q)
 | n+1,i,q=>lpN m n (SetTable.leap m i q).1 (SetTable.leap m i q).2
def fN(m:Nat):Nat->Nat->Nat
 | 0,i=>i
 | n+1,i=>fN m n ((i*5+1) % (m+1))
theorem JT(m:Nat):∀a b i:Nat,fN m (a+b) i=fN m b (fN m a i)
 | 0,b,i=>by rw[Qi];rfl
 | a+1,b,i=>by rw[Nat.succ_add];exact JT m a b _
theorem YW(m:Nat):∀a b i q:Nat,lpN m (a+b) i q=lpN m b (lpN m a i q).1 (lpN m a i q).2
 | 0,b,i,q=>by rw[Qi];rfl
 | a+1,b,i,q=>by rw[Nat.succ_add];exact YW m a b _ _
theorem ze7(m:Nat):∀n i q:Nat,(lpN m n i q).2=q/32^n
 | 0,i,q=>by rw[Nat.pow_zero,Nat.div_one];rfl
 | n+1,i,q=>by
  rw[Nat.pow_succ,Nat.mul_comm,<- Nat.div_div_eq_div_mul];exact ze7 m n _ _
theorem ze8(m:Nat):∀n i q:Nat,q<32->(lpN m n i q).1=fN m n i
 | 0,i,q,_=>rfl
 | n+1,i,q,h=>by
  have e:q/32=0:=Nat.div_eq_of_lt h;show(lpN m n ((i*5+1+q/32) % (m+1)) (q/32)).1=fN m n ((i*5+1) % (m+1));rw[e];exact ze8 m n _ 0 (by decide)
theorem zcB(m:Nat):∀n i q:Nat,i<=m->(lpN m n i q).1<=m
 | 0,_,_,h=>h
 | n+1,i,q,h=>zcB m n _ _ (Zg (wS _ (wa m)))
def Msk(m:Nat):Prop:=m=7\/m=31\/m=127
def orb(m:Nat):Nat->Nat->List Nat
 | 0,_=>[]
 | n+1,i=>i::orb m n ((i*5+1) % (m+1))
theorem zcg(m:Nat):∀{n i j:Nat},j∈orb m n i->∃k,k<n/\fN m k i=j
 | n+1,i,j,h=>by
  rcases zQ.mp h with e | h
  ·exact⟨0,wa n,e.symm⟩
  ·obtain⟨k,c,g⟩:=zcg m h
   exact⟨k+1,Nat.succ_lt_succ c,g⟩
def zhr(m:Nat):Bool:=(List.range (m+1)).all (fun j=>(orb m (m+1) 0).contains j)&&fN m (m+1) 0==0
theorem zem{m:Nat}(h:Msk m):zhr m=true:=by
 rcases h with rfl | rfl | rfl<;>kernel_rfl
theorem Msk.hit{m i j:Nat}(h:Msk m)(t:i<=m)(l:j<=m):∃n,n<=m/\fN m n i=j:=by
 have c:=zem h;unfold zhr at c;rw[jx,j3,jZ] at c;have g:∀j,j<=m->∃k,k<m+1/\fN m k 0=j:=fun j l=>zcg m (List.contains_iff_mem.mp (c.1 j (qC.mpr (Nat.lt_succ_of_le l))))
 obtain⟨a,u,o⟩:=g i t;obtain⟨b,hb,s⟩:=g j l;by_cases w:a<=b
 ·refine⟨b-a,by omega,?_⟩
  rw[<- o,<- JT,show a+(b-a)=b by omega,s]
 ·refine⟨m+1+b-a,by omega,?_⟩
  rw[<- o,<- JT,show a+(m+1+b-a)=m+1+b by omega,JT,c.2,s]
theorem Msk.leaps{m i j q:Nat}(h:Msk m)(c:i<=m)(g:j<=m)(hq:q<2^64):∃n,n<=m+12/\(lpN m n i q).1=j:=by
 obtain⟨n,l,e⟩:=h.hit (zcB m 12 i q c) g;refine⟨12+n,by omega,?_⟩
 rw[YW,ze8 m n _ _ (by rw[ze7];exact Nat.div_lt_of_lt_mul (jt hq (by decide))),e]
inductive Far(t:SetTable):Nat->SetTable.Probe->Prop
 | here {k:Nat} {p:SetTable.Probe}:t.slot p.j=.empty->Far t k p
 | step {k:Nat} {p:SetTable.Probe}:Far t k (t.advance p)->Far t (k+1) p
theorem Far.mono{t:SetTable}{k g:Nat}{p:SetTable.Probe}(h:Far t k p)(l:k<=g):Far t g p:=by
 induction h generalizing g with
 | here e=>exact .here e
 | step _ i=>obtain⟨c,rfl⟩:∃c,g=c+1:=⟨g-1,by omega⟩;exact .step (i (by omega))
def zhf(t:SetTable)(p:SetTable.Probe):SetTable.Probe:=t.advance { p with more:=0 }
theorem Far.more{t:SetTable}{k:Nat}:∀{m:Nat} {p:SetTable.Probe},p.more=m->Far t k (zhf t p)->Far t (k+m+1) p
 | 0,⟨j,_,i,q,d⟩,rfl,h=>.step h
 | m+1,⟨j,_,i,q,d⟩,rfl,h=>.step (Far.more (m:=m) (p:=⟨j+1,m,i,q,d⟩) rfl h)
theorem yG{m i:Nat}(h:i<=m):SetTable.runEnd m i<=m/\i<=SetTable.runEnd m i/\SetTable.runEnd m i<=i+9:=by
 unfold SetTable.runEnd;split<;>omega
theorem Far.leaps{t:SetTable}:∀{n i q:Nat} {d:Option Nat},i<=t.mask->t.slot (lpN t.mask n i q).1=.empty->Far t (10*n) ⟨i,SetTable.runEnd t.mask i-i,i,q,d⟩
 | 0,i,q,d,_,h=>.here h
 | n+1,i,q,d,c,h=>by
  have r:=yG c;have:=Far.leaps (n:=n) (i:=(SetTable.leap t.mask i q).1) (q:=(SetTable.leap t.mask i q).2) (d:=d) (Zg (wS _ (wa _))) h;exact(Far.more (m:=SetTable.runEnd t.mask i-i) (p:=⟨i,SetTable.runEnd t.mask i-i,i,q,d⟩) rfl this).mono (by omega)
structure Prb(t:SetTable)(p:SetTable.Probe):Prop where
 le:p.j+p.more<=t.mask
 no:p.dummy=none
theorem Prb.of{t:SetTable}{i q:Nat}(h:i<=t.mask):Prb t ⟨i,SetTable.runEnd t.mask i-i,i,q,none⟩:=⟨by have:=yG h;show i+(SetTable.runEnd t.mask i-i)<=_;omega,rfl⟩
theorem Prb.next{t:SetTable}{p:SetTable.Probe}(h:Prb t p):Prb t (t.advance p):=by
 obtain⟨j,m,i,q,d⟩:=p;cases(show d=none from h.no)
 have l:j+m<=t.mask:=h.le;cases m with
 | zero=>exact Prb.of (Zg (wS _ (wa _)))
 | succ m=>exact⟨show j+1+m<=t.mask by omega,rfl⟩
theorem Q7{t:SetTable}{j i:Nat}(h:t.slot j=.live i):t.place[i]? =some j:=by
 unfold SetTable.slot at h;dsimp only at h;split at h
 ·rename_i c
  cases h;exact eq_of_beq c
 ·split at h<;>cases h
theorem Far.go{t:SetTable}{f:Nat->Int}{h:Int}(u:t.dummies=#[]):∀{fuel k:Nat} {p:SetTable.Probe},Far t k p->Prb t p->k<fuel ->
  (∃j,SetTable.probe.go t f h fuel p=some (.empty j none)/\t.place[SetTable.below t.place j]?≠some j/\j<=t.mask) \/
  ∃j i q o,SetTable.probe.go t f h fuel p=some (.candidate j i q)/\t.slot j=.live i/\f i=h/\Prb t q/\Far t o q/\o<k
 | 0,k,p,_,_,l=>absurd l (yY k)
 | fuel+1,k,p,B,s,l=>by
  have J:=s.le;rcases yE u p.j with ⟨c1,A⟩ | ⟨i,c⟩
  ·refine .inl ⟨p.j,?_,A,by omega⟩
   unfold SetTable.probe.go;rw[c1];show some (SetTable.Met.empty p.j p.dummy)=_;rw[s.no]
  ·cases B with
   | here e=>rw[c] at e;cases e
   | @step o _ g=>
    by_cases e:f i=h
    ·refine .inr ⟨p.j,i,t.advance p,o,?_,c,e,s.next,g,wn _⟩
     unfold SetTable.probe.go;rw[c];dsimp only;rw[zr (jZ.mpr e)]
    ·have e2:SetTable.probe.go t f h (fuel+1) p=SetTable.probe.go t f h fuel (t.advance p):=by
      rw[SetTable.probe.go];rw[c];dsimp only;rw[zn fun z=>e (jZ.mp z)]
     rw[e2];rcases Far.go (f:=f) (h:=h) u g s.next (by omega:o<fuel) with w | ⟨j,C,q,D,w1,E,G,H,I,L⟩
     ·exact .inl w
     ·exact .inr ⟨j,C,q,D,w1,E,G,H,I,by omega⟩
structure TabT(t:SetTable)(n:Nat):Prop where
 up:Up t.place
 no:t.dummies=#[]
 le:∀j∈t.place.toList,j<=t.mask
 sz:t.place.size=n
 ms:(t.mask=7/\n<=4)\/(t.mask=31/\n<=18)\/(t.mask=127/\n<=76)
theorem TabT.msk{t:SetTable}{n:Nat}(h:TabT t n):Msk t.mask:=h.ms.imp (·.1) (·.imp (·.1) (·.1))
theorem TabT.lt{t:SetTable}{n:Nat}(h:TabT t n):n<t.mask:=by rcases h.ms with ⟨e,_⟩ | ⟨e,_⟩ | ⟨e,_⟩<;>omega
theorem TabT.fits{t:SetTable}{n:Nat}(h:TabT t n):t.fits n=true:=by
 have:=h.lt;have z:t.place.size=n:=h.sz;have:t.fill=n:=by unfold SetTable.fill;rw[h.no,z];rfl
 unfold SetTable.fits;rw[jx,jZ,vX];omega
theorem TabT.fresh(b:Bool):TabT (.fresh 0 0 b) 0:=⟨List.Pairwise.nil,rfl,fun j h=>(nomatch h),rfl,.inl ⟨rfl,by decide⟩⟩
theorem zfz{m:Nat}{l:List Nat}(h:l.length<=m):∃j,j<=m/\j∉l:=by
 refine W1 fun u=>?_
 have all:∀j∈List.range (m+1),j∈l:=fun j c=>W1 fun z=>u ⟨j,Zg (qC.mp c),z⟩
 have sub:∀{a b:List Nat},a.Nodup->(∀x∈a,x∈b)->a.length<=b.length:=fun {a}=>by
  induction a with
  | nil=>exact fun _ _=>qB _
  | cons x a g=>
   intro b t s;obtain⟨i,o⟩:=vT.mp t;have hx:=s x (by simp)
   have:=g (b:=b.erase x) o fun y hy=>(WP (fun e:y=x=>i (e▸hy))).mpr (s y (qw _ hy))
   rw[WZ hx] at this;have:=Xw hx;rw[jy];omega
 have:=sub Qn all;rw[qQ] at this;omega
theorem VZ{t:SetTable}(g:t.dummies=#[]){j:Nat}(h:j∉t.place.toList):t.slot j=.empty:=by
 rcases yE g j with ⟨c,_⟩ | ⟨i,c⟩
 ·exact c
 ·have:=Q7 c
  rw[<- yz] at this;exact absurd (qm this) h
theorem TabT.far{t:SetTable}{n:Nat}(h:TabT t n)(x:Int):Far t (10*(t.mask+12)) (t.probeStart x)/\Prb t (t.probeStart x):=by
 have c:SetTable.bits x % (t.mask+1)<=t.mask:=Zg (wS _ (wa _));have hb:SetTable.bits x<2^64:=by
  unfold SetTable.bits;have:=vW x (by decide:(0:Int)<2^64)
  have:=vS x (by decide:(2^64:Int)≠0)
  omega
 obtain⟨j,g,i⟩:=zfz (m:=t.mask) (l:=t.place.toList) (by have:=h.lt;rw[qF,h.sz];omega)
 obtain⟨s,o,e⟩:=h.msk.leaps c g hb;exact⟨(Far.leaps (d:=none) c (by rw[e];exact VZ h.no i)).mono (by omega),Prb.of c⟩
theorem Y2{m:Nat}{owner:Array (Option Nat)}:∀{fuel n i q:Nat},i<=m->n<fuel->(owner.getD (lpN m n i q).1 (some 0)).isNone=true ->
  ∃j,j<=m/\SetTable.layClean.free m owner fuel i q=some j/\(owner.getD j (some 0)).isNone=true
 | 0,n,i,q,_,l,_=>absurd l (yY n)
 | fuel+1,n,i,q,o,l,h=>by
  have r:=yG o;unfold SetTable.layClean.free;cases c:(List.range (SetTable.runEnd m i+1-i)).find? fun k=>(owner.getD (i+k) (some 0)).isNone with
  | some k=>
   have g:=List.find?_some c
   have s:=qC.mp (List.mem_of_find?_eq_some c)
   exact⟨i+k,by omega,rfl,g⟩
  | none=>
   cases n with
   | zero=>
    have:=List.find?_eq_none.mp c 0 (qC.mpr (by omega))
    exact absurd h this
   | succ n=>exact Y2 (Zg (wS _ (wa m))) (Nat.lt_of_succ_lt_succ l) h
theorem zea{l:List (Option Nat)}{k:Nat}:∀{j:Nat},l[j]? =some none->((l.set j (some k)).filterMap id).Perm (k::l.filterMap id):=by
 induction l with
 | nil=>intro j h;simp at h
 | cons x l c=>
  intro j h;cases j with
  | zero=>
   cases(show x=none by simpa using h)
   exact .refl _
  | succ j=>
   have:=c (j:=j) (by simpa using h)
   cases x with
   | none=>exact this
   | some y=>exact(this.cons y).trans (.swap _ _ _)
structure Own(m k:Nat)(o:Array (Option Nat)):Prop where
 sz:o.size=m+1
 pm:(o.toList.filterMap id).Perm (List.range k)
theorem Own.free{m k:Nat}{o:Array (Option Nat)}(h:Own m k o)(w:k<=m):∃j,j<=m/\(o.getD j (some 0)).isNone=true:=by
 refine W1 fun t=>?_
 have all:∀x∈o.toList,x.isSome=true:=fun x hx=>by
  obtain⟨j,c,e⟩:=List.mem_iff_getElem.mp hx;rw[qF,h.sz] at c;cases x with
  | some y=>rfl
  | none=>
   refine absurd ⟨j,by omega,?_⟩ t
   have e2:o[j]? =some none:=by rw[<- yz,<- e];exact qA _
   unfold Array.getD;rw[dif_pos (by rw[h.sz];exact c)]
   have:o[j]'(by rw[h.sz];exact c)=none:=jq ((xR _).symm.trans e2)
   show(o[j]'_).isNone=true;rw[this];rfl
 have g:∀{l:List (Option Nat)},(∀x∈l,x.isSome=true)->(l.filterMap id).length=l.length:=fun {l}=>by
  induction l with
  | nil=>exact fun _=>rfl
  | cons x l s=>
   intro a;have hx:=a x (by simp)
   cases x with
   | none=>cases hx
   | some y=>show(l.filterMap id).length+1=_;rw[s fun z i=>a z (qw _ i)];rfl
 have e1:=g all;have e2:=h.pm.length_eq;rw[qQ] at e2;have u:o.toList.length=m+1:=by rw[qF,h.sz]
 omega
theorem Vo{m:Nat}(u:Msk m):∀{hs:List Int} {k:Nat} {o:Array (Option Nat)},Own m k o->k+hs.length<=m->∃i,hs.foldl (fun l h=>(do
   let (c,k)<-l
   let j<-SetTable.layClean.free m c (SetTable.turns m) (SetTable.bits h % (m+1)) (SetTable.bits h)
   pure (c.setIfInBounds j (some k),k+1):Option (Array (Option Nat)×Nat))) (some (o,k))=some (i,k+hs.length)/\Own m (k+hs.length) i
 | [],k,o,w,_=>⟨o,rfl,w⟩
 | h::hs,k,o,w,C=>by
  rw[jy] at C;obtain⟨I,B,D⟩:=w.free (by omega)
  have hb:SetTable.bits h<2^64:=by
   unfold SetTable.bits;have:=vW h (by decide:(0:Int)<2^64)
   have:=vS h (by decide:(2^64:Int)≠0)
   omega
  have t:SetTable.bits h % (m+1)<=m:=Zg (wS _ (wa _));obtain⟨n,H,e⟩:=u.leaps t B hb;obtain⟨j,J,A,s⟩:=Y2 (owner:=o) (fuel:=SetTable.turns m) (n:=n) t (by unfold SetTable.turns;omega) (by rw[e];exact D)
  have g:j<o.size:=by rw[w.sz];omega
  have E:o[j]? =some none:=by
   unfold Array.getD at s;rw[dif_pos g] at s;rw[xR g];exact congrArg some (Option.isNone_iff_eq_none.mp s)
  have G:Own m (k+1) (o.setIfInBounds j (some k)):=⟨by rw[Array.size_setIfInBounds];exact w.sz,by
   rw[Array.toList_setIfInBounds,Wv];exact((zea (by rw[yz];exact E)).trans (w.pm.cons k)).trans (zda k (List.range k)).symm⟩
  obtain⟨i,e1,e2⟩:=Vo u (hs:=hs) G (by omega)
  refine⟨i,?_,by rw[jy,show k+(hs.length+1)=k+1+hs.length by omega];exact e2⟩
  rw[List.foldl_cons,jy,show k+(hs.length+1)=k+1+hs.length by omega,<- e1]
  congr 1
  show((SetTable.layClean.free m o (SetTable.turns m) (SetTable.bits h % (m+1)) (SetTable.bits h)).bind fun j=>pure (o.setIfInBounds j (some k),k+1))=_
  rw[A];rfl
theorem zaY{m:Nat}(g:Msk m){c:Array Int}(s:c.size<=m):∃o,SetTable.layClean m c=some o/\Own m c.size o:=by
 have l:Own m 0 (Array.replicate (m+1) none):=⟨Array.size_replicate ..,by
  rw[Array.toList_replicate];have:∀n,(List.replicate n (none:Option Nat)).filterMap id=[]:=fun n=>by
   induction n with
   | zero=>rfl
   | succ n i=>exact i
  rw[this];exact .refl _⟩
 obtain⟨o,e1,e2⟩:=Vo g (hs:=c.toList) l (by rw[qF];omega)
 rw[Qi,qF] at e1 e2;refine⟨o,?_,e2⟩
 unfold SetTable.layClean;rw[<- Array.foldl_toList];exact congrArg (Option.map (·.1)) e1
theorem zd6{m f v:Nat}{b p:Bool}(C:Msk m){c:Array Int}(D:c.size<=m)(E:(m=7/\c.size<=4)\/(m=31/\c.size<=18)\/(m=127/\c.size<=76)) :
  ∃s g,SetTable.laid m f v b p c=some (s,g)/\g.toList.Perm (List.range c.size)/\TabT s c.size:=by
 obtain⟨o,e,w⟩:=zaY C D;have e2:((List.range (m+1)).filterMap fun j=>(o.getD j none).map (j,·)).map (·.2)=o.toList.filterMap id:=by
  rw[List.map_filterMap];have t:o.toList=(List.range (m+1)).map fun j=>o.getD j none:=by
   refine Wy (by rw[qF,w.sz,zo,qQ]) fun i A G=>?_
   rw[List.getElem_map,List.getElem_range];unfold Array.getD;rw[dif_pos (by rwa[qF] at A)]
   rfl
  rw[t,List.filterMap_map];refine congrArg (fun f=>List.filterMap f _) (funext fun j=>?_)
  show((o.getD j none).map (j,·)).map (·.2)=id (o.getD j none)
  cases o.getD j none<;>rfl
 have l:(((List.range (m+1)).filterMap fun j=>(o.getD j none).map (j,·)).map (·.2)).Perm (List.range c.size):=by rw[e2];exact w.pm
 have ln:=l.length_eq;rw[zo,qQ] at ln;refine⟨⟨m,(((List.range (m+1)).filterMap fun j=>(o.getD j none).map (j,·)).map fun x=>x.1).toArray,#[],f,b,v,p⟩,_,by unfold SetTable.laid;rw[e];rfl,l,?_,rfl,fun j B=>?_,?_,E⟩
 ·exact Yc (m+1) fun j=>o.getD j none
 ·obtain⟨x,hx,rfl⟩:=zT.mp B
  obtain⟨y,hy,u⟩:=Xn.mp hx;obtain⟨z,_,rfl⟩:=z9.mp u;exact Zg (qC.mp hy)
 ·show(((List.range (m+1)).filterMap fun j=>(o.getD j none).map (j,·)).map (·.1)).toArray.size=_
  rw[zZ,zo,ln]
theorem TabT.putAt{t:SetTable}{n j:Nat}(h:TabT t n)(l:t.place[SetTable.below t.place j]?≠some j)(o:j<=t.mask) :
  Up (t.put j).1.place/\(t.put j).1.dummies=#[]/\(∀i∈(t.put j).1.place.toList,i<=t.mask)/\(t.put j).1.place.size=n+1:=by
 have c:=WT t.place (SetTable.below t.place j) j;rw[Xi] at c;refine⟨QP h.up l,?_,fun i g=>?_,?_⟩
 ·show(if SetTable.has t.dummies j=true then _ else t.dummies)=#[]
  rw[h.no,Z8];rfl
 ·rcases qO.mp (c.mem_iff.mp g) with z | z
  ·exact h.le i z
  ·rw[zP.mp z];exact o
 ·have:=c.length_eq
  rw[qF,zL,qF,h.sz] at this;exact this
theorem TabT.more{t:SetTable}{n j:Nat}(h:TabT t n)(H:n<76)(B:t.place[SetTable.below t.place j]?≠some j)(E:j<=t.mask)(p:Bool) :
  (({ (t.put j).1 with plain:=p }:SetTable).tooFull=false/\TabT { (t.put j).1 with plain:=p } (n+1)) \/
  ({ (t.put j).1 with plain:=p }:SetTable).tooFull=true/\({ (t.put j).1 with plain:=p }:SetTable).fits (n+1)=true/\SetTable.sizeAbove (SetTable.grown (n+1))<=128/\∀g:Array Int,g.size=n+1 ->
   ∃o i,({ (t.put j).1 with plain:=p }:SetTable).relaid g (SetTable.grown (n+1))=some (o,i)/\i.toList.Perm (List.range g.size)/\TabT o g.size:=by
 obtain⟨a,b,c,d⟩:=h.putAt B E;have A:({ (t.put j).1 with plain:=p }:SetTable).fill=n+1:=by
  show(t.put j).1.place.size+(t.put j).1.dummies.size=n+1;rw[b,d];rfl
 have G:({ (t.put j).1 with plain:=p }:SetTable).tooFull=decide ((n+1)*5≥t.mask*3):=by
  unfold SetTable.tooFull;rw[A];rfl
 have ok:∀m,m=t.mask->((m=7/\n+1<=4)\/(m=31/\n+1<=18)\/(m=127/\n+1<=76))->TabT { (t.put j).1 with plain:=p } (n+1):=fun m e w=>⟨a,b,c,d,by subst e;exact w⟩
 have s:∀w m,SetTable.sizeAbove w=m+1->Msk m->∀g:Array Int,g.size<=m->((m=7/\g.size<=4)\/(m=31/\g.size<=18)\/(m=127/\g.size<=76)) ->
   ∃o i,({ (t.put j).1 with plain:=p }:SetTable).relaid g w=some (o,i)/\i.toList.Perm (List.range g.size)/\TabT o g.size:=fun w m e C g l k=>by
  unfold SetTable.relaid;rw[show SetTable.sizeAbove w-1=m by omega]
  exact zd6 C l k
 have u:({ (t.put j).1 with plain:=p }:SetTable).fits (n+1)=true:=by
  have:=h.lt;unfold SetTable.fits;rw[jx,jZ,vX,A];exact⟨d,this⟩
 rw[G];rcases h.ms with ⟨e,l⟩ | ⟨e,l⟩ | ⟨e,l⟩
 ·by_cases z:n+1<=4
  ·exact .inl ⟨qP (by omega),ok _ rfl (.inl ⟨e,z⟩)⟩
  ·have z:n=4:=by omega
   subst z;exact .inr ⟨zW (by omega),u,by decide +kernel,fun g D=>s _ 31 (by decide +kernel) (.inr (.inl rfl)) g (by omega) (.inr (.inl ⟨rfl,by omega⟩))⟩
 ·by_cases z:n+1<=18
  ·exact .inl ⟨qP (by omega),ok _ rfl (.inr (.inl ⟨e,z⟩))⟩
  ·have z:n=18:=by omega
   subst z;exact .inr ⟨zW (by omega),u,by decide +kernel,fun g D=>s _ 127 (by decide +kernel) (.inr (.inr rfl)) g (by omega) (.inr (.inr ⟨rfl,by omega⟩))⟩
 ·exact .inl ⟨qP (by omega),ok _ rfl (.inr (.inr ⟨e,by omega⟩))⟩
section
variable{l:Program}{w:World}{A:Around}{E:Value->Shared->Prop}{s:Shared}
def TK(l:Program)(w:World):HeapKind l w (List Key):=tupleKind (zG l w)
theorem za9{n:Nat}{v:Value}(h:carriedByValue v=true):ofAClassStatement n v=pure false:=by
 cases v with
 | ref a=>simp[carriedByValue] at h
 | _=>first| rfl | (unfold ofAClassStatement;rfl)
theorem Jh{b:Addr}{k:List Key}{Q:Bool->Shared->Prop}(hk:(TK l w).is s.heap k b)(h:Q false s):wpAny (model l w) A (ofAClassStatement 8 (.ref b)) Q E s:=by
 have C:s.TypeIs (.ref b) "tuple" :=IsTupleKey.typeIs hk;obtain⟨o,g,n,H,_,D,G⟩:=hk;unfold ofAClassStatement;refine zd (wb C ?_)
 dsimp only;refine zd (zp ?_)
 simp only[yW,qW,if_false];refine zd (xi H D ?_)
 dsimp only;refine zd ?_
 show wpAny _ _ (forIn g _ _) _ _ s;rw[<- Xl];refine wpAny_forIn_list _ (fun rest r B=>r.1=none/\B=s/\∀v∈rest,carriedByValue v=true) _ ?_ ?_ _ _ ⟨rfl,rfl,G.byValue⟩
 ·rintro v rest r B ⟨i,rfl,c⟩
  rw[za9 (c v jU)];refine zd (zp ?_)
  simp only[qW,if_false];exact zp ⟨rfl,rfl,fun u t=>c u (qw _ t)⟩
 ·rintro⟨I,J⟩ B ⟨i,rfl,_⟩
  simp only at i;subst i;exact zp h
theorem zcM(n:Nat){v:Value}(h:carriedByValue v=true):∃b,hashByValue n v=pure b:=by
 cases v with
 | ref a=>simp[carriedByValue] at h
 | _=>first| exact⟨_,by unfold hashByValue;rfl⟩ | exact⟨_,by simp[hashByValue];rfl⟩
theorem zcN{b:Addr}{k:List Key}{Q:Bool->Shared->Prop}(hk:(TK l w).is s.heap k b)(h:∀c,Q c s):wpAny (model l w) A (hashByValue 8 (.ref b)) Q E s:=by
 have C:s.TypeIs (.ref b) "tuple" :=IsTupleKey.typeIs hk;obtain⟨o,i,n,H,_,D,G⟩:=hk;unfold hashByValue;refine zd (wpAny_specialOf C F.slot_tuple_hash.lookup ?_)
 dsimp only;refine zd (xi H D ?_)
 refine zd ?_
 show wpAny _ _ (forIn i _ _) _ _ s;rw[<- Xl];refine wpAny_forIn_list _ (fun rest r B=>B=s/\∀v∈rest,carriedByValue v=true) _ ?_ ?_ _ _ ⟨rfl,G.byValue⟩
 ·rintro v rest r B ⟨rfl,g⟩
  obtain⟨c,e⟩:=zcM 7 (g v jU);rw[e];refine zd (zp ?_)
  cases c
  ·exact zp (zp (h _))
  ·exact zp ⟨rfl,fun u t=>g u (qw _ t)⟩
 ·rintro⟨I,J⟩ B ⟨rfl,_⟩
  cases I
  ·exact zp (h _)
  ·exact zp (h _)
theorem zbQ{b:Addr}{k:List Key}{i:List Value}{Q:Bool->Shared->Prop}(hk:(TK l w).is s.heap k b)(hy:∀y∈i,∃B o,y=.ref o/\(TK l w).is s.heap B o)(h:Q false s) :
  wpAny (model l w) A (searchCouldBeSeen (.ref b) i) Q E s:=by
 unfold searchCouldBeSeen;refine zd ?_
 refine wpAny_forIn_list _ (fun rest r u=>r.1=none/\u=s/\∀v∈rest,v∈i) _ ?_ ?_ _ _ ⟨rfl,rfl,fun v hv=>hv⟩
 ·rintro y rest r u ⟨t,rfl,c⟩
  obtain⟨B,o,rfl,g⟩:=hy y (c y jU);have next:∀v∈rest,v∈i:=fun v hv=>c v (qw _ hv)
  dsimp only;split
  ·exact zp ⟨rfl,rfl,next⟩
  ·refine zd ((TK l w).quiet hk ?_)
   simp only[yW,qW,if_false];refine zd ((TK l w).quiet g ?_)
   simp only[yW,qW,if_false];refine zd (Jh hk ?_)
   simp only[qW,if_false];refine zd (Jh g ?_)
   simp only[qW,if_false];exact zp ⟨rfl,rfl,next⟩
 ·rintro⟨C,D⟩ u ⟨t,rfl,_⟩
  simp only at t;subst t;exact zp h
theorem V3{a b:Addr}{k:List Key}{o:Obj}{g:Array (Int×Value)}{J:Nat}{t:SetTable}{Q:SetFound->Shared->Prop}(hu:A.units<cLine)(hk:(TK l w).is s.heap k b)(M:s.heap.get? a=some o)(L:o.data=.set g J t)(B:TabT t g.size)
  (el:∀e∈g.toList,∃N H,e.2=.ref H/\(TK l w).is s.heap N H/\N≠k) (q:∀j,t.place[SetTable.below t.place j]?≠some j->j<=t.mask->Q (.free j false) s) :
  ∀{n fuel:Nat} {p:SetTable.Probe} {st:Option SetTable.Probe},Far t n p->Prb t p->n<fuel->n<10*SetTable.turns t.mask->st.getD (t.probeStart ((TK l w).hash k))=p ->
   wpAny (model l w) A (setSearchFrom a (.ref b) ((TK l w).hash k) true fuel st) Q E s:=by
 have gw:t.gaveWay=false:=by
  unfold SetTable.gaveWay;rcases B.msk with e | e | e<;>rw[e]<;>rfl
 intro n;induction n using Nat.strongRecOn with
 | _ n ih=>
 intro fuel p st fa pr l1 l2 hp;obtain⟨fuel,rfl⟩:∃c,fuel=c+1:=⟨fuel-1,by omega⟩
 unfold setSearchFrom;refine zd (wX M L B.fits ?_)
 dsimp only;rw[gw,hp];simp only[qW,if_false];generalize u:SetTable.probe t _ _ _=r;have G:∃f,SetTable.probe.go t f ((TK l w).hash k) (10*SetTable.turns t.mask) p=r:=⟨_,u⟩;clear u;obtain⟨f,u⟩:=G;rcases Far.go (f:=f) (h:=(TK l w).hash k) B.no fa pr l2 with ⟨j,e,e2,O⟩ | ⟨j,i,p',n',e,e2,O,U,Y,e6⟩
 ·rw[e] at u
  subst u;exact zp (q j e2 O)
 ·rw[e] at u
  subst u;dsimp only;have J:=Q7 e2;have il:i<g.size:=by
   have:=(Qw.mp J).1;rwa[B.sz] at this
  have C:g[i]? =some g[i]:=xR il;obtain⟨N,H,I,D,ne⟩:=el g[i] (Array.getElem_mem_toList il);generalize g[i]=x at C I;obtain⟨hx,y⟩:=x;dsimp only at I;subst I;have sm:t.sameMemory t.moves t.mask=some true:=by
   unfold SetTable.sameMemory;rw[zr (beq_self_eq_true _)]
  cases t.led
  ·simp only[Ws,if_true]
   refine zd (zbQ hk (fun y hy=>?_) ?_)
   ·obtain⟨x,hx,rfl⟩:=zT.mp hy
    obtain⟨k2,b2,e9,h9,_⟩:=el x (by rw[Array.toList_filter] at hx;exact(wm.mp hx).1)
    exact⟨k2,b2,e9,h9⟩
   simp only[qW,if_false];rw[C];refine zd (je ((TK l w).eqBool hu D hk ?_))
   rw[qP ne];refine zd (wX M L B.fits ?_)
   simp only[Xd,qW,if_false];rw[sm];simp only[if_true];rw[e2];dsimp only;rw[C];refine zd (wpAny_isSame_ref_self ?_)
   exact zd (zp (ih n' e6 Y U (by omega) (by omega) rfl))
  ·simp only[yW,qW,if_false]
   rw[C];refine zd (je ((TK l w).eqBool hu D hk ?_))
   rw[qP ne];refine zd (wX M L B.fits ?_)
   simp only[Xd,qW,if_false];rw[sm];simp only[if_true];rw[e2];dsimp only;rw[C];refine zd (wpAny_isSame_ref_self ?_)
   exact zd (zp (ih n' e6 Y U (by omega) (by omega) rfl))
def zhp(l:Program)(w:World)(p:List Key×Addr):Int×Value:=((TK l w).hash p.1,.ref p.2)
def SetT(l:Program)(w:World)(h:Heap)(a:Addr)(i:List (List Key×Addr)):Prop:=
 ∃o c g t,h.get? a=some o/\o.ExactSet/\o.data=.set c g t/\c.toList.Perm (i.map (zhp l w))/\TabT t c.size
theorem SetT.at{h c:Heap}{a:Addr}{g:List (List Key×Addr)}(x:SetT l w h a g)(k:∀o,h.get? a=some o->c.get? a=some o):SetT l w c a g:=let ⟨o,u,i,t,e,r⟩:=x;⟨o,u,i,t,k o e,r⟩
theorem SetT.new(h:Heap):SetT l w (h.push (vF w)) h.objs.size []:=
 ⟨vF w,#[],0,_,qv _ rfl,⟨rfl,rfl,rfl⟩,rfl,.refl _,TabT.fresh _⟩
theorem zfq{a:Addr}{o:Obj}{c:Array (Int×Value)}{O g:Nat}{t C:SetTable}{u:Array Nat}{R:Unit->Shared->Prop}(I:s.heap.get? a=some o)(H:o.ExactSet)(B:o.data=.set c O t)(Q:t.fits c.size=true)(Y:SetTable.sizeAbove g<=128)
  (e:t.relaid (c.map (·.1)) g=some (C,u)) (p:u.toList.Perm (List.range c.size)) (tb:TabT C c.size) (U:c.size<=sizeLine)
  (h:∀G J i D,Heap.SameBut a s.heap G->G.get? a=some J->J.ExactSet->J.data=.set i D C->i.toList.Perm c.toList->R () { s with heap:=G }):wpAny (model l w) A (setRelay a g) R E s:=by
 have M:(u.filterMap (c[·]?)).toList.Perm c.toList:=by
  rw[Array.toList_filterMap];exact(p.filterMap _).trans (by rw[filterMap_getElem?_range])
 have N:(u.filterMap (c[·]?)).size=c.size:=by
  have:=M.length_eq;rwa[qF,qF] at this
 unfold setRelay;refine zd (wX I B Q ?_)
 dsimp only;rw[zn (by rw[sizeLine_eq];omega),e]
 refine zd (show wpAny _ _ (ite _ _ _) _ _ _ from wpAny_ite ?_)
 rw[zn (by rw[N];simp)]
 refine zp ?_
 have L:=xP (Obj.putSet (u.filterMap (c[·]?)) C) I (by rw[putSet_of _ _ B];rfl)
 rw[putSet_of _ _ B] at L;exact wpAny_storeSet_of I B (h _ _ _ _ (yx s.heap a _) L H rfl M) (by rw[N];exact U)
theorem zgL{a b:Addr}{k:List Key}{H:List (List Key×Addr)}{Q:Value->Shared->Prop}(hu:A.units+1<cLine)(hk:(TK l w).is s.heap k b)(aa:∀p∈H,(TK l w).is s.heap p.1 p.2)(nk:k∉H.map (·.1))(hS:SetT l w s.heap a H)(ab:H.length<76)
  (h:∀L M,Heap.SameBut a s.heap L->SetT l w L a (H++[(k,b)])->Q .none { s with heap:=L,toks:=M }):wpAny (model l w) A (call (.builtin "set.add") [.ref a,.ref b]) Q E s:=by
 obtain⟨o,i,ep,t,D,B,C,pm,I⟩:=hS;have ln:=pm.length_eq;rw[qF,zo] at ln;have ty:s.TypeIs (.ref a) "set" :=⟨o,D,B.1⟩;refine xq F.slot_set_add ty F.entry_set_add ?_ (F.args_set_add_2 _ _)
 unfold Builtin.«set.add»;generalize a0:setAdd=SA;obtain⟨G,g,d,M,os⟩:=s;wp_walk
 subst a0;refine(show wpAny _ _ (setAdd a (.ref b)) _ _ _ from je (zd ((TK l w).pyHash (tupleKind_room_in1 hu) hk ?_)))
 refine je ?_
 show wpAny _ _ (setAddHashedIn a (.ref b) _ 100000) _ _ _;unfold setAddHashedIn;refine zd (wX D C I.fits ?_)
 dsimp only;rw[show byScan (.ref b) i=false from rfl]
 simp only[qW,if_false];obtain⟨fa,pr⟩:=I.far ((TK l w).hash k);have mb:t.mask<=127:=by rcases I.msk with e | e | e<;>omega
 unfold setSearch;refine zd (V3 (s:=⟨G,g,d,M+(TK l w).draws k,os⟩) (A:=A.in1) hu hk D C I (fun e he=>?_) (fun j nj jl=>?_) fa pr (Qt (Nat.mul_le_mul_left 10 (Nat.add_le_add_right mb 12)) (show 10*(127+12)<100000 by decide)) (by unfold SetTable.turns;omega) rfl)
 ·obtain⟨p,G,e⟩:=zT.mp (pm.mem_iff.mp he)
  exact⟨p.1,p.2,by rw[<- e];rfl,aa p G,fun z=>nk (z▸List.mem_map_of_mem G)⟩
 dsimp only;refine zd (wX D C I.fits ?_)
 have hz:(SetTable.insertAt i (SetTable.below t.place j) ((TK l w).hash k,Value.ref b)).size=i.size+1:=by
  have:=(WT i (SetTable.below t.place j) ((TK l w).hash k,Value.ref b)).length_eq;rwa[qF,Xi,zL,qF] at this
 have J:(SetTable.insertAt i (SetTable.below t.place j) ((TK l w).hash k,Value.ref b)).toList.Perm ((H++[(k,b)]).map (zhp l w)):=by
  refine(WT i (SetTable.below t.place j) ((TK l w).hash k,Value.ref b)).trans ?_
  rw[Xi,zF];exact pm.append_right _
 have sl:∀n,n<=77->n<=sizeLine:=fun n h=>zX h (by rw[sizeLine_eq];decide)
 have u:∀c:Bool,wpAny (model l w) A.in1 (do
   storeSet a (SetTable.insertAt i (SetTable.below t.place j) ((TK l w).hash k,Value.ref b)) { (t.put j).1 with plain:=c }
   if(!false&&({ (t.put j).1 with plain:=c }:SetTable).tooFull)=true then do
    setRelay a (SetTable.grown (i.size+1))
    pure true
   else pure true) (fun a s'=>wpAny (model l w) A.in1 (ret Value.none) (fun U s'=>∃v,U=Fin.done (Flow.ret v)/\Q v s') E s') E { heap:=G,gens:=g,drawn:=d,toks:=M+(TK l w).draws k,os:=os }:=fun c=>by
  have sb:=yx G a (Obj.putSet (SetTable.insertAt i (SetTable.below t.place j) ((TK l w).hash k,Value.ref b)) { (t.put j).1 with plain:=c });have Y:=xP (Obj.putSet (SetTable.insertAt i (SetTable.below t.place j) ((TK l w).hash k,Value.ref b)) { (t.put j).1 with plain:=c }) D (by rw[putSet_of _ _ C];rfl)
  rw[putSet_of _ _ C] at Y;refine zd (wpAny_storeSet_of D C ?_ (sl _ (by omega)))
  rcases I.more (by omega) nj jl c with ⟨O,ae⟩ | ⟨O,f2,f3,f4⟩
  ·rw[O]
   simp only[Xd,qW,if_false];exact zp (zp ⟨_,rfl,h _ _ sb ⟨_,_,_,_,Y,B,rfl,J,by rw[hz];exact ae⟩⟩)
  ·rw[O]
   simp only[Ws,Bool.and_self,if_true];obtain⟨t',od,e1,e2,N⟩:=f4 ((SetTable.insertAt i (SetTable.below t.place j) ((TK l w).hash k,Value.ref b)).map (·.1)) (by rw[Array.size_map,hz])
   rw[Array.size_map] at e2 N;refine zd (zfq Y B rfl (by rw[hz];exact f2) f3 e1 e2 N (sl _ (by omega)) fun L o' ag af ac g2 x2 d2 p2=>?_)
   have z2:=p2.length_eq;rw[qF,qF] at z2;exact zp (zp ⟨_,rfl,h _ _ (sb.trans ac) ⟨_,_,_,_,g2,x2,d2,p2.trans J,by rw[z2];exact N⟩⟩)
 split
 ·refine zd (zcN hk fun c=>?_)
  cases c
  ·exact u false
  ·exact u _
 ·exact zd (zp (u _))
end
def zdC(P:Program)(w:World)(p:Addr)(n:Nat):HO:=.ext fun h=>∃c,SetT P w h p c/\c.length=n
def tST(P:Program)(w:World)(K:W.Frag)(O:TI)(n:Nat)(B:List Nat)(g:TG)(M:TT)(L:TE):TE:=fun σ H Q=>O σ H fun J G=>
 ∃W:Nat->Nat->List (List Key×Addr)->Hp->Prop,(∃m,W 0 m [] G)/\∀i m l c,W i m l c->(∀p∈l,SqT K c p.2 (p.1.map kV)) /\
  ((J.stop i c/\∀D,c D=none->Q (.ref D) (upd c D (zdC P w D l.length))) \/
  (J.go i c/\∃N:List (List Key×Addr)->Hp->Prop,(∀E s,N E s->∃C,C<m/\W (i+1) C E s)/\∀x t,J.yld i c x t->g x (upS n B σ) t fun o I=>o.drop n=(upS n B σ).drop n/\M o I fun b u=>
   if b=true then L o u fun y A=>∃(k:List Key) (b:Addr),y=.ref b/\SqT K A b (k.map kV)/\k∉l.map (·.1)/\l.length<76/\N (l++[(k,b)]) A else N l u))
section
variable{X:Cx}{A L w:Expr}{E:List Expr}{t:Scope}{G:Pos}{U:TI}{g:TG}{O:TT}{M:TE}
theorem Inv.keyT{i:List (Addr×Obj)}{σ:St}{H:Hp}{s:Shared}{b:Addr}{k:List Key}(I:Inv X i σ H s)(h:SqT X.K H b (k.map kV)):(TK X.prog X.w).is s.heap k b:=by
 obtain⟨l,r,⟨o,e,c,n,d⟩,_⟩:=I.tuple h;exact⟨o,l.toArray,n,e,c,d,by simpa using yO r⟩
theorem zgW(hu:X.A.units+1<cLine)(own fr:List Str)(js:List Nat)(hc:X.calm=true)(hk:t.kind=.function)(hb:Zf t.names X.env.scope.names X.N fr js=true)(hi:PI X L w U)
  (hg:∀C s H ex,PG (zM X (own++fr) t C s H ex) L g) (hf:∀C s H ex,PF (zM X (own++fr) t C s H ex) E O) (he:∀C s H ex,PE (zM X (own++fr) t C s H ex) A M)
  (hs:∀x,foldedSetIterable w X.env x=pure x:=by intro _;rfl):PE X (.SetComp A [⟨L,w,E,0⟩] t G) (tST X.prog X.w X.K U own.length js g O M):=by
 intro aa s σ H Q I h;have B:=VD hb;have af:∀y∈t.names,y.2=NameKind.free->∃c,X.env.cells.lookup y.1=some c:=fun y hy e=>I.ok.has y.1 (B.free y hy e)
 rw[arm_eval_SetComp];refine wpAny_comprehension_free (use:=none) rfl hs (zaa af) hk (fun y hy e=>B.loc y hy e) (thn (hi aa s σ H _ I h) fun v s1 h1=>thn h1 fun c2 s2 h2=>?_)
 obtain⟨it,Y,tn,J,H2,e,I2,T,au,f2,W,⟨m0,w0⟩,aj⟩:=h2;subst e;have fl:∀b∈Y,b<s2.heap.objs.size:=fun b hb=>let ⟨o,e,_⟩:=T.obj _ _ au b hb;zA e
 refine zd0 (wpAny_newFunctionEnv B.cell (by intro y hy;simp at hy) (fun h1 aq ar=>?_) hk)
 dsimp only at aq ar ⊢;have bf:SetT X.prog X.w (s2.heap.push (vF X.w)) s2.heap.objs.size []:=SetT.new s2.heap;have sD:=I2.fpOk (zy s2.heap.objs.size) (I2.hok.fresh (zy s2.heap.objs.size));generalize e3:s2.heap.push (vF X.w)=h3 at aq ar bf ⊢;have k3:∀b o,s2.heap.get? b=some o->h3.get? b=some o:=fun b o e=>by rw[<- e3];exact zI _ e
 have k4:∀b o,h3.get? b=some o->h1.get? b=some o:=fun b o e=>ar.extBut b o (zS (zA e)) (zI _ e)
 have I3:Inv X aa σ H2 { s2 with heap:=h3 }:=I2.kept (t':=s2.toks) k3;have hz:h3.objs.size=s2.heap.objs.size+1:=by rw[<- e3,jD]
 have ap:s2.heap.objs.size≠h3.objs.size:=by rw[hz];exact zS (wn _)
 generalize eD:s2.heap.objs.size=D at *
 have fD:∀b∈Y,D≠b:=fun b hb=>vg (fl b hb)
 have f3:∀b∈D::Y,jF X aa H2 b:=fun b hb=>(zQ.mp hb).elim (fun z=>z▸sD) (f2 b)
 have I4:Inv (zM X (own++fr) t h3.objs.size { s2 with heap:=h3,toks:=s2.toks } H2 (D::Y)) [] (upS own.length js σ) H2 { s2 with heap:=h1,toks:=s2.toks+([]:List (Str×Value)).length }:=
  Wp own fr js I3 B hk f3 (fun b hb=>by
   show b<h3.objs.size;rw[hz];exact(zQ.mp hb).elim (fun z=>z▸wn _) fun z=>Qp (fl b z)) rfl aq k4
 generalize eC:h3.objs.size=C at *
 have hx:∀b∈D::Y,∀x c,(jP X.env.cells t.names []).lookup x=some c->c≠b:=fun b hb x c e=>(f3 b hb).2.2.2.2.1 x c (qg e af)
 have bt:∀b∈D::Y,b∉frs X.stack:=I4.ok.exfs;have ax:∀{a0:List (Addr×Obj)} {H':Hp} {b:Addr},b∈D::Y->H' b=none->(∀p∈a0,p.1≠b)->jF (zM X (own++fr) t C { s2 with heap:=h3,toks:=s2.toks } H2 (D::Y)) a0 H' b:=fun {a0 H' b} hb hn hp=>
  ⟨hn,(I4.ok.exf b hb).1,bt b hb,.inl hb,fun x c e=>hx b hb x c e,fun p h=>hp p (by simpa using h)⟩
 have ah:∀s4:Shared,s4={ s2 with heap:=h1,toks:=s2.toks+([]:List (Str×Value)).length } ->
   codeAny (model X.prog X.w) X.A (.compLoop (.SetComp A [⟨L,w,E,0⟩] t G) 0 (.ref it) (.ref D) (compEnvC t (jP X.env.cells t.names []) C X.env))
    (compPost (model X.prog X.w) X.A X.xe none (EP X aa σ Q) (.ref D) C) s4:=by
  intro s4 e4;refine zaE (fun n s'=>∃i ks H',Inv (zM X (own++fr) t C { s2 with heap:=h3,toks:=s2.toks } H2 (D::Y)) [] (upS own.length js σ) H' s'/\tn i s'.heap/\(∀b∈Y,H' b=none)/\H' D=none/\SetT X.prog X.w s'.heap D ks/\W i n ks H') ?_ m0 ?_
  ·rintro n s5 ⟨i,ks,H5,I5,be,ay,bn,bw,w5⟩
   obtain⟨o5,an,am,t5,ba,ac⟩:=id bw;have nc:∀v,o5.data≠.cell v:=fun v q=>by
    rw[ac.2.1] at q;cases q
   have av:=I5.pinned (fp:=[D]) (fun b hb=>by rw[zP.mp hb];exact ax jU bn (fun p hp=>absurd hp (by simp))) (fun b hb=>by
    rw[zP.mp hb];exact⟨_,ba,nc⟩)
   have pD:∀p∈[]++qG [D] s5.heap,p.1=D:=fun p hp=>by
    rw[Wu] at hp;exact zP.mp (yJ hp).1
   have mD:(D,o5)∈[]++qG [D] s5.heap:=by
    rw[Wu];exact jK (zP.mpr rfl) ba
   have ao:∀{H':Hp},(∀b∈Y,H' b=none)->∀b∈Y,jF (zM X (own++fr) t C { s2 with heap:=h3,toks:=s2.toks } H2 (D::Y)) ([]++qG [D] s5.heap) H' b:=fun hn b hb=>ax (qw _ hb) (hn b hb) fun p hp=>by
    rw[pD p hp];exact fD b hb
   rcases(aj i n ks H5 w5).2 with ⟨stop,q⟩ | ⟨go,N,hN,step⟩
   ·refine thn (T.done (zM X (own++fr) t C { s2 with heap:=h3,toks:=s2.toks } H2 (D::Y)) rfl rfl rfl hc i _ s5 _ H5 _ av (ao ay) be stop) fun r s6 ⟨hr,I6⟩=>?_
    subst hr;obtain⟨m6,bq,_⟩:=I6.loc;refine⟨m6,bq,fun h7 br=>?_⟩
    obtain⟨o6,bc,_⟩:=I6.pin (D,_) (jz _ mD);have k7:∀b o,b≠C->s6.heap.get? b=some o->h7.get? b=some o:=fun b o hb e=>br.extBut b o hb e
    have bx:SetT X.prog X.w h7 D ks:=⟨o5,an,am,t5,k7 D _ ap o6,ac⟩;refine⟨.ref D,upd H5 D (zdC X.prog X.w D ks.length),?_,rfl,q D bc⟩
    refine I3.call' (s':={ s6 with heap:=h7 }) (ch:=D::Y) I6.os (ZE (zby I6.base (wc eC) k7) jU sD.1) (yP (Y1 I6.hok I6.free k7) bc ⟨⟨ks,bx,rfl⟩,?_,fun h1 h2 ⟨ks,x,l⟩ e=>⟨ks,x.at e,l⟩⟩) I6.bare fun b hb=>?_
    ·exact⟨o5,k7 D _ ap o6⟩
    ·obtain⟨_,g1,_,g3,g4,g5⟩:=f3 b hb
     exact⟨g3,g1,g4,g5⟩
   ·refine thn (T.item (zM X (own++fr) t C { s2 with heap:=h3,toks:=s2.toks } H2 (D::Y)) rfl rfl rfl hc i _ s5 _ H5 _ av (ao ay) be go) fun r s6 ⟨u,hr,h6⟩=>?_
    subst hr;refine thn h6 fun _ s7 ⟨x,H7,I7,r7,y7,ae,bm⟩=>?_
    have bj:=I7.pinned (ao bm) (T.obj _ _ ae);refine thn (hg _ _ _ _ _ s7 _ H7 x u _ bj r7 (step x H7 y7)) fun _ s8 ⟨σ8,H8,I8,bo,q8⟩=>?_
    refine thn (hf _ _ _ _ _ s8 σ8 H8 _ I8 q8) fun ok s9 ⟨H9,I9,q9⟩=>?_
    have ak:∀{H':Hp} {s':Shared},Inv (zM X (own++fr) t C { s2 with heap:=h3,toks:=s2.toks } H2 (D::Y)) (([]++qG [D] s5.heap)++qG Y s7.heap) σ8 H' s' ->
      Inv (zM X (own++fr) t C { s2 with heap:=h3,toks:=s2.toks } H2 (D::Y)) [] (upS own.length js σ) H' s':=fun {H' s'} J=>by
     refine(J.unpinned).unpinned.weak (I5.len.trans J.len.symm) fun k v e=>?_
     obtain⟨hn,e1,_⟩:=yc e;rw[<- bo,Xm] at e1;rw[<- e1];congr 1
     omega
    have mF:∀b∈Y,∀o,s7.heap.get? b=some o->(b,o)∈([]++qG [D] s5.heap)++qG Y s7.heap:=fun b hb o e=>jz _ (jK hb e)
    have bb:=vz (qG Y s7.heap) mD;have az:∀{H':Hp} {s':Shared},Inv (zM X (own++fr) t C { s2 with heap:=h3,toks:=s2.toks } H2 (D::Y)) (([]++qG [D] s5.heap)++qG Y s7.heap) σ8 H' s'->∀b∈Y,H' b=none:=fun {H' s'} J b hb=>by
     obtain⟨o,e,_⟩:=T.obj _ _ ae b hb;exact(J.pin (b,o) (jz _ (mF b hb o e))).2.1
    cases ok with
    | false=>
     have as:N ks H9:=by simpa using q9
     obtain⟨m',hm,w'⟩:=hN _ _ as;obtain⟨o9,bs,_⟩:=I9.pin (D,_) (jz _ bb);exact⟨m',hm,i+1,ks,H9,ak I9,T.keep _ _ _ ae fun b hb o e=>(I9.pin (b,o) (jz _ (mF b hb o e))).1,az I9,bs,⟨o5,an,am,t5,o9,ac⟩,w'⟩
    | true=>
     have as:M σ8 H9 fun y H6=>∃(k:List Key) (b:Addr),y=.ref b/\SqT X.K H6 b (k.map kV)/\k∉ks.map (·.1)/\ks.length<76/\N (ks++[(k,b)]) H6:=by simpa using q9
     refine thn (he _ _ _ _ _ s9 σ8 H9 _ I9 as) fun yv c3 ⟨y,bi,ab,bv,ky,aw,ey,b0,bd,bp,bz⟩=>?_
     subst ey;cases(show yv=Value.ref aw from bv)
     obtain⟨m',hm,w'⟩:=hN _ _ bz;obtain⟨bu,ai,_⟩:=ab.pin (D,_) (jz _ bb);have al:=(aj _ _ _ _ w').1;refine zgL hu (ab.keyT b0) (fun p hp=>ab.keyT (al p (vz _ hp))) bd ⟨o5,an,am,t5,bu,ac⟩ bp fun c0 bh ag bg=>?_
     refine⟨m',hm,i+1,ks++[(ky,aw)],bi,?_,T.keep _ _ _ ae fun b hb o e=>ag.extBut b o (zN (fD b hb)) (ab.pin (b,o) (jz _ (mF b hb o e))).1,az ab,ai,bg,w'⟩
     exact(ak ab).turned (t':=bh) (it:=D) (fun b o hb e=>ag.extBut b o hb e) ai ap (.inl jU) (fun x c e=>hx D jU x c e) fun p hp=>absurd (show p∈([]:List (Addr×Obj)) from hp) (by simp)
  ·subst e4
   exact⟨0,[],H2,I4,T.keep _ _ _ au fun b hb o e=>k4 b o (k3 b o e),fun b hb=>(f2 b hb).1,sD.1,bf.at fun o e=>k4 _ _ e,w0⟩
 exact zaz (ah _ rfl) (T.self X.A 0 _ _ _ (T.keep _ _ _ au fun b hb o e=>k4 b o (k3 b o e)) (ah _ rfl))
end
section
variable{X:Cx}{x:Str}{B:Pos}{i g:Expr}{l:List Expr}{c:Scope}{A:Pos}{G:TI}{E:TT}{D:TE}
theorem zfD(hu:X.A.units+1<cLine)(t:List Str)(u:List Nat)(hc:X.calm=true)(hk:c.kind=.function)(hb:vP c.names X.env.scope.names X.N [x] t u=true)(N:PI X (.Name x B) g G)
  (M:∀C s H o,PF (zM X ([x]++t) c C s H o) l E) (L:∀C s H o,PE (zM X ([x]++t) c C s H o) i D)
  (O:∀x,foldedSetIterable g X.env x=pure x:=by intro _;rfl):PE X (.SetComp i [⟨.Name x B,g,l,0⟩] c A) (tST X.prog X.w X.K G 1 u (x8 0) E D):=by
 obtain⟨w,I,J⟩:=xx hb;exact zgW hu [x] t u hc hk w N (fun C s H o=>xT (I x (by simp)) J rfl) M L O
inductive Zr(P:Program)(w:World)(o:List V)(H:Hp)(Q:VK):Prop
 | mk (a:Addr) (n:Nat) (_:o=[.ref a]) (_:H a=some (zdC P w a n)) (_:Q (.int n) H):Zr P w o H Q
theorem zbg:CallR X (.builtin "len") (Zr X.prog X.w):=by
 intro J s σ H xs us Q I r h;obtain⟨a,n,rfl,hx,q⟩:=h;obtain⟨u,rfl,U⟩:=Vals.one r;cases(show u=Value.ref a from U)
 obtain⟨⟨ks,⟨o,es,Y,t,N,w,L,O,C⟩,M⟩,_,_⟩:=(show ObjOk X.prog X.w H s.heap a (zdC X.prog X.w a n) from I.hok a _ hx)
 have ln:=O.length_eq;rw[qF,zo,M] at ln;have:=C.lt;have:t.mask<=127:=by rcases C.msk with e | e | e<;>omega
 refine call_len_set N w L C.fits (by have sb:scanBound=4096:=rfl;omega) ⟨.int n,H,I.kept (fun b o e=>e),⟨_,by rw[ln]⟩,q⟩
end
theorem zfl{K:W.Frag}{a:Addr}{xs:List V}{g:TG}{G:TT}{E:TE}{w:St}{n:Nat}{R:List (List Key×Addr)->Hp->Prop}{H:Hp}(Pv:Nat->List (List Key×Addr)->Hp->Prop)(I:Pv 0 [] H)
  (J:∀i c H,Pv i c H->SqT K H a xs/\∀p∈c,SqT K H p.2 (p.1.map kV))
  (M:∀i x c H,xs[i]? =some x->Pv i c H->g x w H fun o C=>o.drop n=w.drop n/\G o C fun b s=>
   if b=true then E o s fun v t=>∃(k:List Key) (b:Addr),v=.ref b/\SqT K t b (k.map kV)/\k∉c.map (·.1)/\c.length<76/\Pv (i+1) (c++[(k,b)]) t else Pv (i+1) c s)
  (L:∀c H,Pv xs.length c H->R c H) :
  ∃W:Nat->Nat->List (List Key×Addr)->Hp->Prop,(∃m,W 0 m [] H)/\∀i m c l,W i m c l->(∀p∈c,SqT K l p.2 (p.1.map kV)) /\
   (((Itt K a).stop i l/\R c l) \/
   ((Itt K a).go i l/\∃N:List (List Key×Addr)->Hp->Prop,(∀c A,N c A->∃D,D<m/\W (i+1) D c A)/\∀x B,(Itt K a).yld i l x B->g x w B fun o C=>o.drop n=w.drop n/\G o C fun b s=>
    if b=true then E o s fun y t=>∃(k:List Key) (b:Addr),y=.ref b/\SqT K t b (k.map kV)/\k∉c.map (·.1)/\c.length<76/\N (c++[(k,b)]) t else N c s)):=by
 refine⟨fun i m c l=>m=xs.length-i/\i<=xs.length/\Pv i c l,⟨_,rfl,qB _,I⟩,?_⟩
 rintro i m c l ⟨rfl,U,p⟩;obtain⟨q,all⟩:=J i c l p;refine⟨all,?_⟩
 by_cases u:i<xs.length
 ·refine .inr ⟨⟨xs,xs[i],q,by simp[u]⟩,Pv (i+1),fun Q A O=>⟨_,by omega,rfl,u,O⟩,fun x B y=>?_⟩
  obtain⟨e,y⟩:=y;subst e;exact M i x c _ (y xs q) p
 ·have e:i=xs.length:=by omega
  subst e;exact .inl ⟨⟨xs,q,zy _⟩,L c l p⟩
abbrev zhV(h:Heap)(z TI TO:Addr)(c:Value)(g:Bool):Prop:=h.get? z=some { cls:=.type "zip",dict:=none,data:=.fields #[c,.bool g,.bool false,.ref TI,.ref TO],slots:=#[] }
abbrev zff(h:Heap)(T:Addr)(a b c:Value):Prop:=h.get? T=some { cls:=.type "tuple",data:=.seq #[a,b,c] }
structure Z3At(h:Heap)(z TI TO i1 i2 i3 a1 a2 a3:Addr)(i:Nat):Prop where
 zz:∃f0 f1,(f0=.none\/∃t:Int,f0=rawInt t)/\zhV h z TI TO f0 f1
 ti:zff h TI (.ref i1) (.ref i2) (.ref i3)
 to:∃a b c,zff h TO a b c
 r1:h.IsListIter i1 a1 i
 r2:h.IsListIter i2 a2 i
 r3:h.IsListIter i3 a3 i
section
variable{c:Program}{w:World}{A:Around}{E:Value->Shared->Prop}{s:Shared}
end
section
variable{X:Cx}
end
section
variable{X:Cx}{c:List (Addr×Obj)}{σ:St}{H:Hp}{s:Shared}
end
section
variable{X:Cx}
end
section
variable{i:Program}{w:World}{K:Type}[DecidableEq K](g:KeyKind i w K)
def IsTR(h:Heap)(k:List K×List K×List K)(a:Addr):Prop:=∃o n B C D,h.get? a=some o/\o.cls=.type "tuple" /\ o.data=.seq #[.ref B,.ref C,.ref D] n/\IsTupleKey g h k.1 B/\IsTupleKey g h k.2.1 C/\IsTupleKey g h k.2.2 D
variable{g}
theorem IsTR.ty{s:Shared}{k:List K×List K×List K}{a:Addr}(x:IsTR g s.heap k a):s.TypeIs (.ref a) "tuple" :=let ⟨o,_,_,_,_,p,q,_⟩:=x;⟨o,p,q⟩
theorem IsTR.inj{h:Heap}{a:Addr}{x y:List K×List K×List K}(p:IsTR g h x a)(q:IsTR g h y a):x=y:=by
 obtain⟨o,n,B,C,D,e,_,d,b,c,f⟩:=p;obtain⟨N,M,I,J,L,t,_,l,u,G,H⟩:=q;rw[e] at t;cases t;rw[d] at l;cases l;exact yS (b.inj u) (yS (c.inj G) (f.inj H))
theorem IsTR.keeps{h H:Heap}{k:List K×List K×List K}{a d:Addr}{o:Obj}{J I}(x:IsTR g h k a)(l:h.get? d=some o)(u:o.data=.dict J I)(G:Heap.SameBut d h H):IsTR g H k a:=by
 obtain⟨p,n,B,C,D,e,t,q,b,c,f⟩:=x;refine⟨p,n,B,C,D,(G.2 a fun z=>?_).trans e,t,q,b.keeps l u G,c.keeps l u G,f.keeps l u G⟩
 subst z;rw[e] at l;cases l;rw[u] at q;exact nomatch q
variable{A:Around}{E:Value->Shared->Prop}{s:Shared}
end
end L2
namespace L2
open PySem PySem.Spec PyProof.Rows PySem.W
section
variable{X:Cx}{c:List (Addr×Obj)}{σ:St}{H:Hp}{s:Shared}
end
end L2
namespace L2
open PySem PySem.Spec PyProof.Rows
section
variable{X:Cx}
def zdG:V->List V->Hp->VK->Prop:=fun x g H Q=>∃(l:Addr) (c:List Int) (k:Int),x=.ref l/\g=[.int k]/\H l=some (.lst (c.map V.int))/\k∈c/\c.length<=1000000/\Q (.int ((c.idxOf k:Nat):Int)) H
theorem wx:MtM X "list.index" zdG:=by
 intro E s σ H x vs v us Q I O N h;obtain⟨l,c,k,rfl,rfl,J,hk,M,q⟩:=h;cases O;obtain⟨u,rfl,C⟩:=N.one;obtain⟨t,rfl⟩:=C;obtain⟨z,g,n,r,L,e⟩:=I.lstM J;have A:(2:Int)^63=9223372036854775808:=by decide
 rw[zo] at L z;have U:c.idxOf k<c.length:=Qh hk;have o:∀i (w:i<g.length),isInt k g[i]=(c[i]'(by omega)==k):=fun i w=>by
  have e2:(c.map V.int)[i]? =some (.int (c[i]'(by omega))):=by simp[show i<c.length by omega]
  obtain⟨u',D,C⟩:=r.get e2;rw[qA w] at D;cases D;obtain⟨Y,G⟩:=C;rw[G];rfl
 refine call_meets F.slot_list_index ⟨_,e,rfl⟩ F.entry_list_index (F.args_list_index_2 _ _) (MeetsSeq.list_index l g.toArray n (.int k t) (isInt k) (fun y hy=>eq_isInt k t (Vr r) y (by simpa using hy)) (c.idxOf k) (by simp;omega) (by rw[A];omega) ?_ ?_) ⟨e,?_⟩
 ·rw[List.getElem_toArray,o _ (by omega)]
  simp
 ·intro i w B
  rw[List.getElem_toArray,o _ (by simp at w;omega)]
  have:=List.not_of_lt_findIdx (p:=(·==k)) (xs:=c) (i:=i) B
  simpa using this
 ·exact⟨.int ((c.idxOf k:Nat):Int),H,I.tok _,⟨s.toks,rfl⟩,q⟩
end
def BoxAt(H:Hp)(b:Addr)(n:Int):Prop:=∃c b1 b2:Int,H b=some (.lst [.int c,.int b1,.int b2])/\0<=c/\0<=b1/\b1<2147483648/\0<=b2/\b2<=n
def SameB(b:Addr)(H g:Hp):Prop:=∀c o,H c=some o->c≠b->g c=some o
theorem Zd{i j:Int}(g:0<=i)(c:i<18446744073709551616):CMul i j:=by
 have e1:(-(2^64):Int)= -18446744073709551616:=by decide
 have e2:((2^64):Int)=18446744073709551616:=by decide
 refine .inl ⟨?_,?_⟩
 ·rw[e1];omega
 ·rw[e2];exact c
theorem zfd{a m j:Int}(h:0<m)(c:m<18446744073709551616):CMul (a % m) j:=Zd (vS _ (by omega)) (Int.lt_trans (vW _ h) c)
section
variable{P:Program}{w:World}{K:W.Frag}{D:Str->Option Value}{C:Heap}
inductive XV(i:List V)(H:Hp)(Q:VK):Prop
 | mk (b:Addr) (c n:Int) (_:i=[.ref b,.int c]) (_:BoxAt H b n) (_:n<1099511627776) (_:0<c) (_:c<1073741824) (_:∀(r:Int) g,0<=r->r<c->BoxAt g b (n+1)->SameB b H g->Q (.int r) g):XV  i H Q
def vm:Sp:=fun c H Q _=>XV  c H Q
theorem u4{N P:List Str}{S:Scope}(a:S.kind=.function:=by rfl)(b:S.isCoroutine=false:=by rfl)(c:S.isGenerator=false:=by rfl)(d:N.Nodup:=by decide +kernel)(e:N.take P.length=P:=by rfl)(f:∀x∈P,S.names.lookup x=some .local∨S.names.lookup x=some .cell:=by decide +kernel)(g:∀y∈S.names,y.2≠.free:=by decide +kernel):zB N P S:=⟨a,b,c,d,e,f,g⟩
theorem zbT:zB ["_law_box_here","_law_size","_law_found","_law_step","_law_once","_law_twice"] ["_law_box_here","_law_size"] (zv (topL 37)):=u4
theorem zdT{f:Addr}{O:FuncData}(F:Fun K "_law_take" "_law_take" (topL 37) f O)(B:Blt D):FnOk P w K D C CX0 1 f O ["_law_box_here","_law_size"] vm:=by
 have G:=zbT.nd;refine F.ok zbT (fun vs H Q E h=>?_) (fun a0 A N s H vs Q E hr h=>?_)
 ·obtain⟨b,u,n,rfl,_⟩:=h
  rfl
 ·obtain⟨b,u,n,rfl,⟨I,b1,b2,hb,Y,p1,t,p2,aa⟩,hn,l,M,k⟩:=h
  refine⟨_,(zg (qM (zO ze3 (zH qo (pv 0) zi (fun _ _=>rfl)) zi (zJ _))
   (zg (wQ (zq Vz rfl B.divmod VB (za (zH qo (pv 0) zi (fun _ _=>rfl)) (za (pv 1) zb))) (xA rfl (zE (V9 (pv 0) zi ZO) (zE (zD (i:=2) G rfl (Or.inl rfl)) jM))))
    (zj (zw (pv 2))))
   zR)
   (zg (wQ (zC qr (zH qo (pv 0) zi (fun _ _=>rfl)) zi) (V9 (pv 0) zi ZO))
   (zg (zx (i:=3) G rfl (Or.inl rfl) (zC qr zi (zC xD (zH qo (pv 0) zi (fun _ _=>rfl)) (zH qo (pv 0) zi (fun _ _=>rfl)))))
   (zg (zx (i:=4) G rfl (Or.inl rfl) (zC xm (zC xD (zC qr (zH qo (pv 0) zi (fun _ _=>rfl)) (zC xD zi (zH qo (pv 0) zi (fun _ _=>rfl)))) (pv 3)) zi))
   (zg (zx (i:=5) G rfl (Or.inl rfl) (zC xm (zC qr (zC xD (pv 4) (zC qr (zC xm (pv 4) zi) zi)) (zH qo (pv 0) zi (fun _ _=>rfl))) zi))
   (zj (zw (zC xm (zC YS (zC xm (zC xD (pv 5) (zC qr (zC xm (pv 5) zi) zi)) zi) zi) (pv 1))))))))),?_⟩
  refine⟨_,rfl,b,_,_,_,rfl,rfl,u7 hb,rfl,_,_,rfl,rfl,_,rfl,?_⟩
  refine yn (fun c=>?_) (fun c=>?_)
  ·refine⟨_,rfl,b,_,_,_,rfl,rfl,u7 hb,rfl,_,rfl,_,_,rfl,⟨l,M⟩,fun p U=>?_⟩
   have J:b≠p:=zm hb U;refine⟨p,_,rfl,u8 zc,rfl,_,_,rfl,_,rfl,b,_,_,_,rfl,rfl,(by rw[zk J];exact hb),rfl,_,_,rfl,rfl,_,rfl,?_⟩
   refine k _ _ (vS _ (by omega)) (vW _ l) ⟨_,b1,b2,zc,Int.ediv_nonneg Y (by omega),p1,t,p2,by omega⟩ fun d o e L=>?_
   rw[zk L,zk (zm e U)];exact e
  ·refine⟨_,rfl,b,_,_,_,rfl,rfl,u7 hb,rfl,_,_,rfl,rfl,_,rfl,b,_,_,_,rfl,rfl,hb,rfl,?_⟩
   have g:upd H b (.lst [.int I,.int b1,.int (b2+1)]) b=some (.lst [.int I,.int b1,.int (b2+1)]):=zc;refine⟨_,rfl,b,_,_,_,rfl,rfl,u7 g,rfl,_,rfl,b,_,_,_,rfl,rfl,u7 g,rfl,_,_,rfl,rfl,Zd (by omega) (by omega),_,_,rfl,rfl,?_⟩
   refine⟨_,rfl,b,_,_,_,rfl,rfl,u7 g,rfl,_,rfl,b,_,_,_,rfl,rfl,u7 g,rfl,_,_,rfl,rfl,Zd (by omega) (by omega),_,_,rfl,rfl,_,rfl,_,_,rfl,rfl,Zd (by omega) (by omega),_,_,rfl,rfl,(by show(0:Int)<_;decide),?_⟩
   refine⟨_,rfl,_,rfl,_,_,rfl,rfl,(by show(0:Int)<_;decide),_,_,rfl,rfl,_,_,rfl,rfl,zfd (by decide) (by decide),_,rfl,b,_,_,_,rfl,rfl,u7 g,rfl,_,_,rfl,rfl,_,_,rfl,rfl,(by show(0:Int)<_;decide),?_⟩
   refine⟨_,rfl,_,rfl,_,_,rfl,rfl,(by show(0:Int)<_;decide),_,_,rfl,rfl,_,_,rfl,rfl,zfd (by decide) (by decide),_,_,rfl,rfl,(by show(0:Int)<_;decide),_,_,rfl,rfl,⟨by decide,by decide⟩,_,rfl,_,_,rfl,rfl,l,?_⟩
   refine k _ _ (vS _ (by omega)) (vW _ l) ⟨I,b1,b2+1,g,Y,p1,t,by omega,by omega⟩ fun d o e L=>?_
   rw[zk L];exact e
inductive Yx(K:W.Frag)(c:List V)(H:Hp)(Q:VK):Prop
 | mk (a:Addr) (g:List Int) (j:Nat) (_:c=[.ref a,.int j]) (_:SqL K H a (g.map V.int)) (_:j<=100) (_:∀p o,H p=none->BoxAt (upd H p o) p 0->Q (.ref p) (upd H p o)):Yx K c H Q
def zeH(K:W.Frag):Sp:=fun c H Q _=>Yx K c H Q
theorem zeU:zB ["_law_script","_law_k","_law_cell"] ["_law_script","_law_k"] (zv (topL 36)):=u4
theorem zac{c:Int}{j:Nat}(g:j<=100):CMul (zbn c) (if decide (10^18<=zbn c)=true then 1 else 0):=by
 refine .inr ?_
 split
 ·exact⟨by decide,by decide⟩
 ·exact⟨by decide,by decide⟩
theorem zcX{c:Int}:0<=zbn c*(if decide (10^18<=zbn c)=true then 1 else 0):=by
 have h:0<=zbn c:=by unfold zbn;split<;>omega
 split
 ·rw[Int.mul_one];exact h
 ·rw[Int.mul_zero];exact Int.le_refl 0
theorem zfW{f:Addr}{t:FuncData}(F:Fun K "_law_box" "_law_box" (topL 36) f t)(B:Blt D):FnOk P w K D C CX0 1 f t ["_law_script","_law_k"] (zeH K):=by
 have L:=zeU.nd;refine F.ok zeU (fun M H Q E h=>?_) (fun I A o s H M Q E N h=>?_)
 ·obtain⟨a,g,j,rfl,_⟩:=h
  rfl
 ·obtain⟨a,g,j,rfl,u,G,k⟩:=h
  refine⟨_,(zg (zx (i:=2) L rfl (Or.inl rfl) (vI (zO zci (pv 1) (zq zu rfl B.len boot_len (za (pv 0) zb)) (zJ _)) (zH qo (pv 0) (pv 1) (fun _ _=>rfl)) zi))
   (zj (zw (qU (za (zC xD (zq VA rfl B.abs VC (za (pv 2) zb)) (qe Ji rfl B.int Qd (za (qR ze4 (zq VA rfl B.abs VC (za (pv 2) zb)) (zC zfJ zi zi) (zJ _)) zb))) (za (zC xm (zC xD (zC qr (zC qr (zC xm (pv 2) zi) (zC xD zi (pv 1))) zi) zi) zi) (za zi zb))))))),?_⟩
  refine⟨_,rfl,_,rfl,a,_,rfl,.inl u,_,_,rfl,rfl,_,rfl,?_⟩
  refine yn (fun c=>?_) (fun c=>?_)
  ·have J:j<g.length:=by
    have:=vk c;rw[zo] at this;omega
   refine⟨_,rfl,_,rfl,a,_,_,.int g[j],rfl,rfl,u,j9 (by simp[J]),?_⟩
   generalize g[j]=z;refine⟨_,rfl,_,rfl,_,rfl,_,rfl,_,_,rfl,rfl,⟨by decide,by decide,by decide⟩,_,_,rfl,rfl,.inr ⟨_,rfl,_,_,rfl,rfl,zac G,_,rfl,_,_,rfl,rfl,(by show(0:Int)<_;decide),_,rfl,_,_,rfl,rfl,Zd (by decide) (by decide),_,_,rfl,rfl,_,_,rfl,rfl,_,_,rfl,rfl,?_,_,_,rfl,rfl,(by show(0:Int)<_;decide),(by rw[sizeLine_eq];exact(by decide:3<=16777216)),fun p l=>k p _ l ⟨_,_,_,zc,?_,?_,?_,by decide,by decide⟩⟩⟩
   ·refine Zd ?_ ?_
    ·have:=vS z (show(2147483629:Int)≠0 by decide)
     omega
    ·have:=vW z (show(0:Int)<2147483629 by decide)
     omega
   ·exact zcX
   ·exact vS _ (by decide)
   ·exact Int.lt_trans (vW _ (by decide)) (by decide)
  ·refine⟨_,rfl,_,rfl,_,rfl,_,rfl,_,_,rfl,rfl,⟨by decide,by decide,by decide⟩,_,_,rfl,rfl,.inr ⟨_,rfl,_,_,rfl,rfl,zac G,_,rfl,_,_,rfl,rfl,(by show(0:Int)<_;decide),_,rfl,_,_,rfl,rfl,Zd (by decide) (by decide),_,_,rfl,rfl,_,_,rfl,rfl,_,_,rfl,rfl,?_,_,_,rfl,rfl,(by show(0:Int)<_;decide),(by rw[sizeLine_eq];exact(by decide:3<=16777216)),fun p l=>k p _ l ⟨_,_,_,zc,?_,?_,?_,by decide,by decide⟩⟩⟩
   ·refine Zd ?_ ?_
    ·have:=vS 0 (show(2147483629:Int)≠0 by decide)
     omega
    ·have:=vW 0 (show(0:Int)<2147483629 by decide)
     omega
   ·exact zcX
   ·exact vS _ (by decide)
   ·exact Int.lt_trans (vW _ (by decide)) (by decide)
theorem zcU{c:List V}{lo g:Option Int}{x:V}(h:x∈jd c lo g):x∈c:=List.mem_of_mem_drop (WO h)
theorem zd9{n j:Nat}(h:j<n):ixN n (j:Int)=some j:=by
 unfold ixN;rw[zr (by omega),zr (by omega)];simp
theorem zcV(c:List Int)(lo g:Option Int):∃i:List Int,jd (c.map V.int) lo g=i.map V.int:=by
 refine⟨(c.drop (HT.sIx c.length 0 lo)).take (HT.sIx c.length c.length g-HT.sIx c.length 0 lo),?_⟩
 unfold jd;rw[zo,J9,List.map_drop]
theorem zej(c:List Int)(z:Nat):(jd (c.map V.int) none (some (z:Int))).length=min z c.length:=by
 unfold jd;rw[HT.sIx_nat,HT.sIx_none,qD,vh,zo];omega
theorem zek(c:List Int)(z:Nat)(g:Option Int):(jd (c.map V.int) (some (z:Int)) g).length<=c.length-min z c.length:=by
 unfold jd;rw[HT.sIx_nat,qD,vh,zo];omega
inductive X3(K:W.Frag)(l:List V)(H:Hp)(Q:VK):Prop
 | mk (a:Addr) (i:List Int) (z:Nat) (_:l=[.ref a,.int z]) (_:SqL K H a (i.map V.int)) (_:i.length<=63) (_:1<=z) (_:z<=63) (_:∀(p:Addr) (g:List Int) c,Same H c->SqL K c p (g.map V.int)->g.length<=z->Q (.ref p) c):X3 K l H Q
def zbJ(K:W.Frag):Sp:=fun c H Q _=>X3 K c H Q
theorem zbX:zB ["_law_script","_law_size","_law_cells","_law_k","_law_cell"] ["_law_script","_law_size"] (zv (topL 38)):=u4
def zap(a:_)(z:Nat)(p:_)(H:_)(q:_)(l:List Int):=fun(i:Nat) (σ:St) (c:Hp)=>(Ex3 fun(g:List Int) (o s:Option V)=>An5 (σ=[some (.ref a),some (.int z),some (.ref p),o,s]) (Same H c) (c p=some (.lst (g.map V.int))) (c q=some (.lst (jd (l.map V.int) (some (z:Int)) (some 63)))) (g.length=min z l.length):Prop)
theorem zdX{f:Addr}{fd:FuncData}(F:Fun K "_law_folded" "_law_folded" (topL 38) f fd)(B:Blt D):FnOk P w K D C CX0 1 f fd ["_law_script","_law_size"] (zbJ K):=by
 have nd:=zbX.nd;refine F.ok zbX (fun vs H Q E h=>?_) (fun ag A ae s H vs Q E hr h=>?_)
 ·obtain⟨a,g,z,rfl,_⟩:=h
  rfl
 ·obtain⟨a,g,z,rfl,hS,af,ai,aj,k⟩:=h
  refine⟨_,(zg (zx (i:=2) nd rfl (Or.inl rfl) (qe jQ rfl B.list qV (za (xa ww (pv 0) vn (xr (pv 1))) zb)))
   (zg (jh jR rfl (zdL rfl B.enumerate (za (xa ww (pv 0) (xr (pv 1)) (xr zi)) zb)) (xA rfl (zE (zD (i:=3) nd rfl (Or.inl rfl)) (zE (zD (i:=4) nd rfl (Or.inl rfl)) jM)))
   (zj (wQ (zC qr (zH qo (pv 2) (zC xm (pv 3) (pv 1)) (fun _ _=>rfl)) (zC xD (pv 4) (zC qr (pv 3) zi))) (V9 (pv 2) (zC xm (pv 3) (pv 1)) ZO))))
   (zj (zw (pv 2))))),?_⟩
  refine⟨_,rfl,_,rfl,_,rfl,a,_,rfl,hS,fun l hl=>⟨l,_,rfl,.inl (u7 zc),fun p hp=>?_⟩⟩
  have s1:Same H (upd (upd H l (.lst (jd (g.map V.int) none (some (z:Int))))) p (.lst (jd (g.map V.int) none (some (z:Int))))):=(ze hl).trans (ze hp);generalize a0:upd (upd H l (.lst (jd (g.map V.int) none (some (z:Int))))) p (.lst (jd (g.map V.int) none (some (z:Int))))=H1 at s1;have L:H1 p=some (.lst (jd (g.map V.int) none (some (z:Int)))):=by rw[<- a0];exact zc
  have np:H p=none:=(ze hl).free hp;refine⟨_,rfl,_,rfl,_,rfl,_,rfl,a,_,rfl,s1.seq hS,fun q hq=>⟨q,rfl,⟨_,u7 zc⟩,?_⟩⟩
  have O:p≠q:=zm L hq;obtain⟨aa,u⟩:=zcV g none (some (z:Int));have lo:=zej g z;have hi:=zek g z (some 63);refine zcP (K:=K) (a:=q) (xs:=jd (g.map V.int) (some (z:Int)) (some 63)) (zap a z p H q g)
   ⟨aa,none,none,rfl,s1.trans (ze hq),by rw[zk O,L,u],zc,by rw[<- lo,u,zo]⟩ (fun i σ U _ ⟨_,_,_,_,_,_,h,_⟩=>u7 h) ?_ ?_
  ·rintro i x σ U T hx ⟨I,v3,v4,rfl,Y,t,G,J⟩ hT
   have ah:i<(jd (g.map V.int) (some (z:Int)) (some 63)).length:=(zK.mp hx).1;obtain⟨c,rfl⟩:∃c,x=V.int c:=by
    have:=zcU (qm hx);obtain⟨c,_,e⟩:=zT.mp this;exact⟨c,e.symm⟩
   have hj:i % z<I.length:=by
    have:=wS i (show 0<z by omega)
    omega
   have ab:p≠T:=zm t hT;have ac:q≠T:=zm G hT;have M:upd U T (.tup [.int i,.int c]) p=some (.lst (I.map V.int)):=by rw[zk ab];exact t
   have em:((i % z:Nat):Int)=(i:Int) % (z:Int):=Int.natCast_emod i z;have N:(0:Int)<(z:Int):=by omega
   refine⟨T,_,rfl,u8 zc,rfl,_,_,rfl,_,_,rfl,rfl,?_⟩
   refine⟨_,rfl,_,rfl,_,rfl,_,_,rfl,rfl,N,p,_,_,.int I[i % z],rfl,rfl,u7 M,(by rw[<- em];exact j9 (by simp[hj])),?_⟩
   refine⟨_,rfl,_,rfl,_,_,rfl,rfl,_,_,rfl,rfl,.inr ⟨?_,?_⟩,_,_,rfl,rfl,?_⟩
   ·have e1:(-(2^64):Int)= -18446744073709551616:=by decide
    rw[e1];omega
   ·have e2:((2^64):Int)=18446744073709551616:=by decide
    rw[e2];omega
   refine⟨_,rfl,_,rfl,_,rfl,_,_,rfl,rfl,N,p,_,_,i % z,rfl,rfl,M,(by rw[<- em,zo];exact zd9 hj),?_⟩
   refine⟨I.set (i % z) (I[i % z]+c*((i:Int)+2)),_,_,rfl,fun d o e=>?_,by rw[zc,List.map_set],?_,by rw[Qm];exact J⟩
   ·rw[zk (zm e np),zk (zm (Y d o e) hT)]
    exact Y d o e
   ·rw[zk (zN O),zk ac]
    exact G
  ·rintro σ U ⟨I,v3,v4,rfl,Y,t,G,J⟩
   exact⟨_,rfl,k p I U Y (u7 t) (by omega)⟩
theorem le0:([]:List V).length<=sizeLine:=qB _
theorem le2{x y:V}:[x,y].length<=sizeLine:=by rw[sizeLine_eq];exact(by decide:2<=16777216)
theorem SameB.refl(b:Addr)(H:Hp):SameB b H H:=fun _ _ e _=>e
def uc:=@SameB.refl
theorem SameB.trans{b:Addr}{H g i:Hp}(a:SameB b H g)(c:SameB b g i):SameB b H i:=fun d o e l=>c d o (a d o e l) l
theorem SameB.of{b:Addr}{H c:Hp}(a:Same H c):SameB b H c:=fun d o e _=>a d o e
def uf:=@SameB.of
theorem SameB.new{b p:Addr}{o:HO}{H c:Hp}(a:SameB b H c)(h:c p=none):SameB b H (upd c p o):=a.trans (.of (ze h))
theorem BoxAt.new{b p:Addr}{o:HO}{H:Hp}{n:Int}(a:BoxAt H b n)(h:H p=none):BoxAt (upd H p o) b n:=by
 obtain⟨c,b1,b2,e,r⟩:=a;exact⟨c,b1,b2,by rw[zk (zm e h)];exact e,r⟩
theorem BoxAt.same{b:Addr}{H c:Hp}{n:Int}(a:BoxAt H b n)(s:Same H c):BoxAt c b n:=by
 obtain⟨g,b1,b2,e,r⟩:=a;exact⟨g,b1,b2,s _ _ e,r⟩
theorem BoxAt.ne{b t:Addr}{H:Hp}{n:Int}{o:HO}(a:BoxAt H b n)(h:H t=some o)(c:∀x y z,o≠.lst [x,y,z]):t≠b:=by
 obtain⟨g,b1,b2,e,r⟩:=a;exact Vi h e (c _ _ _)
theorem BoxAt.some{b:Addr}{H:Hp}{n:Int}(a:BoxAt H b n):∃o,H b=.some o:=let ⟨_,_,_,e,_⟩:=a;⟨_,e⟩
theorem BoxAt.mono{b:Addr}{H:Hp}{n m:Int}(a:BoxAt H b n)(h:n<=m):BoxAt H b m:=by
 obtain⟨c,b1,b2,e,g,i,l,o,s⟩:=a;exact⟨c,b1,b2,e,g,i,l,o,by omega⟩
theorem le1{x:V}:[x].length<=sizeLine:=by rw[sizeLine_eq];exact(by decide:1<=16777216)
theorem le3{x y z:V}:[x,y,z].length<=sizeLine:=by rw[sizeLine_eq];exact(by decide:3<=16777216)
theorem le4{x y z u:V}:[x,y,z,u].length<=sizeLine:=by rw[sizeLine_eq];exact(by decide:4<=16777216)
theorem leN{c:List V}(h:c.length<=1000):c.length<=sizeLine:=by rw[sizeLine_eq];omega
theorem Wq{α:Type}{xs:List α}{i:Int}(h:0<=i)(g:i<xs.length):∃v,atI xs i=some v/\xs[i.toNat]? =some v:=by
 have c:i.toNat<xs.length:=by omega
 refine⟨xs[i.toNat],?_,by simp[c]⟩
 have:=j9 (xs:=xs) (j:=i.toNat) (v:=xs[i.toNat]) (by simp[c])
 rwa[show((i.toNat:Nat):Int)=i by omega] at this
theorem fm{α:V->Prop}{x:V}{c:List V}(h:α x)(g:∀y∈c,α y):∀y∈x::c,α y:=fun y hy=>(zQ.mp hy).elim (fun e=>e▸h) (g y)
theorem SameB.put{b m:Addr}{H g:Hp}{o:HO}(s:SameB b H g)(h:H m=none):SameB b H (upd g m o):=fun c u e hc=>by
 rw[zk (zm e h)];exact s c u e hc
theorem SameB.none{b m:Addr}{H c:Hp}(s:SameB b H c)(h:c m=none)(g:m≠b):H m=none:=by
 cases q:H m with
 | none=>rfl
 | some o=>have:=s m o q g;rw[h] at this;cases this
def xV(x:Str):Prop:=(x.cps.toList.map Zv).all id=true
theorem zf1{r:Int}(i:0<=r)(l:r<26):∃c,atI zaF.cps.toList r=some c/\Zv c=true:=by
 rw[Vn];obtain⟨c,e,g⟩:=Wq (xs:=List.range' 97 26) i (by rw[List.length_range'];omega)
 have o:=List.mem_range'_1.mp (qm g);refine⟨c,e,?_⟩
 unfold Zv;rw[zW (by omega),zW (by omega)]
 rfl
theorem zcC{c:Nat}{y:Str}(h:Zv c=true)(hy:xV y):xV ((⟨#[c]⟩:Str)++y):=by
 unfold xV at hy ⊢;show((#[c]++y.cps).toList.map Zv).all id=true;rw[Array.toList_append,zF,List.all_append,hy,Bool.and_true];show(Zv c&&true)=true;rw[h];rfl
theorem zcE{c:Nat}{y:Str}:((⟨#[c]⟩:Str)++y).length=y.length+1:=by
 show(#[c]++y.cps).size=y.cps.size+1;rw[Array.size_append];show 1+_=_;omega
theorem BoxAt.nne{b p:Addr}{H:Hp}{n:Int}(a:BoxAt H b n)(h:H p=none):p≠b:=by
 obtain⟨o,e⟩:=a.some;exact(zm e h).symm
theorem BoxAt.other{b l:Addr}{H:Hp}{n:Int}{o:HO}(a:BoxAt H b n)(h:l≠b):BoxAt (upd H l o) b n:=by
 obtain⟨c,b1,b2,e,r⟩:=a;exact⟨c,b1,b2,by rw[zk (zN h)];exact e,r⟩
def Nm(x:Str):Prop:=x.length<=8/\(∀c∈x.cps.toList,c<1000000)/\1<=x.length/\xV x
theorem zg7{x:Str}(g:1<=x.length)(h:x.length<=8)(l:xV x):Nm x:=by
 refine⟨h,fun c hc=>?_,g,l⟩
 unfold xV at l;have:=j3.mp l (Zv c) (zT.mpr ⟨c,hc,rfl⟩);unfold Zv at this;simp at this;omega
theorem QU:∀(c:List Str),(c.map V.str).all x9=true
 | []=>rfl
 | n::c=>by
  show(true&&(c.map V.str).all x9)=true;rw[QU c];rfl
inductive QZ(i:List V)(H:Hp)(Q:VK):Prop
 | mk (g c:Int) (_:i=[.int g,.int c]) (_:0<=g) (_:1<=c) (_:c<=8) (_:∀y:Str,(y.length:Int)=c->xV y->Q (.str y) H):QZ  i H Q
def Yl:Sp:=fun c H Q _=>QZ  c H Q
theorem YE:zB ["_law_number","_law_size","_law_word","_law_k"] ["_law_number","_law_size"] (zv (topL 39)):=u4
def zao(g:_)(H:_):=fun(i:Nat) (σ:St) (l:Hp)=>(Ex3 fun(c:Int) (y:Str) (o:Option V)=>An5 (σ=[some (.int c),some (.int g),some (.str y),o]) (0<=c) (y.length=i) (xV y) (l=H):Prop)
theorem zcp{f:Addr}{J:FuncData}(F:Fun K "_law_spelled" "_law_spelled" (topL 39) f J)(B:Blt D):FnOk P w K D C CX0 1 f J ["_law_number","_law_size"] Yl:=by
 have u:=YE.nd;refine F.ok YE (fun vs H Q E h=>?_) (fun U A I s H vs Q E hr h=>?_)
 ·obtain⟨t,l,rfl,_⟩:=h
  rfl
 ·obtain⟨t,l,rfl,n0,s0,s1,k⟩:=h
  have L:=bG100000;have o:=bGe;refine⟨_,(zg (zx (i:=2) u rfl (Or.inl rfl) zcc)
   (zg (jh jR rfl (qI rfl B.range (za (pv 1) zb)) (zD (i:=3) u rfl (Or.inl rfl))
   (zg (zx (i:=2) u rfl (Or.inl rfl) (zC Wf (zH zf7 zcc (zC xm (pv 0) zi) (fun _ _=>rfl)) (pv 2)))
    (zj (zx (i:=0) u rfl (Or.inl rfl) (zC YS (pv 0) zi)))))
   (zj (zw (pv 2))))),?_⟩
  refine⟨_,rfl,_,rfl,(by rw[o];omega),(by rw[o];omega),?_⟩
  refine jv (zao l H) ⟨t,_,_,rfl,n0,rfl,rfl,rfl⟩ ?_ ?_
  ·rintro i σ O hi ⟨g,y,v3,rfl,N,M,G,rfl⟩
   obtain⟨c,hc,Y⟩:=zf1 (r:=g % 26) (vS _ (by decide)) (vW _ (by decide))
   refine⟨_,rfl,_,_,rfl,rfl,(by show(0:Int)<26;decide),_,_,c,rfl,rfl,(by rw[sizeLine_eq];decide),hc,_,rfl,_,_,rfl,rfl,?_,?_⟩
   ·show 1+y.length<=sizeLine
    omega
   ·exact⟨_,rfl,_,_,rfl,rfl,⟨by decide,by decide⟩,_,_,_,rfl,Int.ediv_nonneg N (by decide),by rw[zcE,M],zcC Y G,rfl⟩
  ·rintro σ O ⟨g,y,v3,rfl,N,M,G,rfl⟩
   exact⟨_,rfl,k y (by omega) G⟩
inductive Yr(i:List V)(H:Hp)(Q:VK):Prop
 | mk (b t:Addr) (n:Int) (g:List Str) (_:i=[.ref b,.ref t]) (_:BoxAt H b n) (_:n<1099511000000) (_:t≠b) (_:H t=some (.lst (g.map V.str))) (_:g.length<=1000) (_:∀(y:Str) c,SameB b H c->BoxAt c b (n+12)->1<=y.length->y.length<=8->xV y->Q (.str y) c):Yr  i H Q
def zeD:Sp:=fun c H Q _=>Yr  c H Q
theorem zeO:zB ["_law_box_here","_law_taken","_law_size","_law_number","_law_k","_law_word","_law_turn"] ["_law_box_here","_law_taken"] (zv (topL 40)):=u4
theorem zfA{r:Int}(c:0<=r)(g:r<4):∃z:Int,atI [V.int 3,V.int 3,V.int 3,V.int 8] r=some (.int z)/\3<=z/\z<=8:=by
 have hc:r=0\/r=1\/r=2\/r=3:=by omega
 rcases hc with rfl | rfl | rfl | rfl
 ·exact⟨3,rfl,by decide,by decide⟩
 ·exact⟨3,rfl,by decide,by decide⟩
 ·exact⟨3,rfl,by decide,by decide⟩
 ·exact⟨8,rfl,by decide,by decide⟩
def zan(b:_)(t:_)(l:_)(H:_)(n:_):=fun(i:Nat) (σ:St) (g:Hp)=>(Ex2 fun(c:Int) (o:Option V)=>An4 (σ=[some (.ref b),some (.ref t),some (.int (1+l)),some (.int c),o,none,none]) (0<=c) (SameB b H g) (BoxAt g b (n+2+i)):Prop)
def zam(b:_)(t:_)(o:_)(c:_)(g:_):=fun(i:Nat) (σ:St) (l:Hp)=>(Ex3 fun(s u:Option V) (y:Str)=>An5 (σ=[some (.ref b),some (.ref t),some (.int (1+o)),some (.int c),s,some (.str y),u]) (1<=y.length) (y.length<=8) (xV y) (l=g):Prop)
theorem zfP{f:Addr}{fd:FuncData}(F:Fun K "_law_name" "_law_name" (topL 40) f fd)(B:Blt D)(u:Dfn P w K D C "_law_take" 1 ["_law_box_here","_law_size"] vm)(g:Dfn P w K D C "_law_spelled" 1 ["_law_number","_law_size"] Yl):FnOk P w K D C CX0 2 f fd ["_law_box_here","_law_taken"] zeD:=by
 have I:=zeO.nd;refine F.ok zeO (fun vs H Q E h=>?_) (fun ag A af s H vs Q E M h=>?_)
 ·obtain⟨b,t,n,U,rfl,_⟩:=h
  rfl
 ·obtain⟨b,t,n,U,rfl,B0,hn,ae,ht,ah,k⟩:=h
  have G:=bGe;refine⟨_,(zg (zx (i:=2) I rfl (Or.inl rfl) (zC qr zi (zf u M.m rfl (za (pv 0) (za (zH qo (qU (za zi (za zi (za zi (za zi zb))))) (zf u M.m rfl (za (pv 0) (za zi zb))) (fun _ _=>rfl)) zb)))))
   (zg (zx (i:=3) I rfl (Or.inl rfl) zi)
   (zg (jh jR rfl (qI rfl B.range (za (pv 2) zb)) (zD (i:=4) I rfl (Or.inl rfl))
   (zj (zx (i:=3) I rfl (Or.inl rfl) (zC qr (zC xD (pv 3) zi) (zf u M.m rfl (za (pv 0) (za zi zb)))))))
   (zg (zx (i:=5) I rfl (Or.inl rfl) (zf g M.m rfl (za (pv 3) (za (pv 2) zb))))
   (zg (jh jR rfl (qI rfl B.range (za (zC qr (zq zu rfl B.len boot_len (za (pv 1) zb)) zi) zb)) (zD (i:=6) I rfl (Or.inl rfl))
   (zj (qM (zO Jb (pv 5) (pv 1) (by with_unfolding_all rfl))
    (zj (zx (i:=5) I rfl (Or.inl rfl) (zf g M.m rfl (za (zC qr (pv 3) (pv 6)) (za zi zb)))))
    zR)))
   (zj (zw (pv 5)))))))),?_⟩
  refine⟨_,rfl,le4,fun l hl=>⟨_,rfl,b,4,n,rfl,B0.new hl,by omega,by decide,by decide,fun r H1 r0 r1 B1 S1=>?_⟩⟩
  have L1:=S1 l _ (zc (H:=H)) ((B0.new hl).ne (zc (H:=H) (o:=.lst [.int 3,.int 3,.int 3,.int 8])) (by intro x y z e;cases e))
  have aa:=((uc b H).new (o:=.lst [.int 3,.int 3,.int 3,.int 8]) hl).trans S1;obtain⟨z,ez,z0,z1⟩:=zfA r0 r1;refine⟨l,_,_,_,rfl,rfl,u7 L1,ez,b,z,n+1,rfl,B1,by omega,by omega,by omega,fun r2 H2 a0 a1 B2 S2=>⟨_,_,rfl,rfl,?_⟩⟩
  have ab:=aa.trans S2;refine⟨_,rfl,_,rfl,(by rw[G];omega),(by rw[G];omega),?_⟩
  refine jv (zan b t r2 H n) ⟨0,_,rfl,by decide,ab,B2.mono (by omega)⟩ ?_ ?_
  ·rintro i σ H4 hi ⟨J,v4,rfl,m0,O,Y⟩
   refine⟨_,rfl,_,_,rfl,rfl,.inr ⟨by decide,by decide⟩,_,rfl,b,26,_,rfl,Y,by omega,by decide,by decide,fun r3 H5 c0 c1 B5 S5=>⟨_,_,rfl,rfl,_,_,rfl,?_,O.trans S5,B5.mono (by omega)⟩⟩
   omega
  ·rintro σ H4 ⟨J,v4,rfl,m0,O,Y⟩
   refine⟨_,rfl,_,rfl,J,1+r2,rfl,m0,by omega,by omega,fun y ly L=>?_⟩
   have N:=O t _ ht ae;have el:(U.map V.str).length=U.length:=zo ..;refine⟨_,rfl,t,_,rfl,.inl (u7 N),_,_,rfl,rfl,_,rfl,(by rw[G,el];omega),(by rw[G,el];omega),?_⟩
   refine jv (zam b t r2 J H4) ⟨_,_,y,rfl,by omega,by omega,L,rfl⟩ ?_ ?_
   ·rintro i σ H5 hi ⟨v4,v6,y,rfl,y0,y1,L,rfl⟩
    refine⟨_,rfl,_,rfl,t,_,rfl,.inl (u7 N),rfl,QU U,_,rfl,yn (fun c=>?_) (fun c=>⟨_,_,y,rfl,y0,y1,L,rfl⟩)⟩
    exact⟨_,rfl,_,rfl,_,_,rfl,rfl,_,8,rfl,by omega,by decide,by decide,fun y' ai ac=>⟨_,_,y',rfl,by omega,by omega,ac,rfl⟩⟩
   ·rintro σ H5 ⟨v4,v6,y,rfl,y0,y1,L,rfl⟩
    exact⟨_,rfl,k y _ O (Y.mono (by omega)) y0 y1 L⟩
def Row(H:Hp)(l:Addr)(c:List Str):Prop:=H l=some (.lst (c.map V.str))/\∀x∈c,Nm x
theorem Row.same{H c:Hp}{l:Addr}{g:List Str}(r:Row H l g)(s:Same H c):Row c l g:=⟨s _ _ r.1,r.2⟩
theorem Row.draw{H c:Hp}{b l:Addr}{g:List Str}(r:Row H l g)(s:SameB b H c)(h:l≠b):Row c l g:=⟨s _ _ r.1 h,r.2⟩
inductive Q4(i:List V)(H:Hp)(Q:VK):Prop
 | mk (b:Addr) (m n:Int) (_:i=[.ref b,.int m]) (_:BoxAt H b n) (_:n<1000000) (_:0<=m) (_:m<=12) (_:∀(l:Addr) (g:List Str) c,SameB b H c->BoxAt c b (n+150)->l≠b->H l=none->Row c l g->(g.length:Int)=m->Q (.ref l) c):Q4  i H Q
def Yq:Sp:=fun c H Q _=>Q4  c H Q
theorem YH:zB ["_law_box_here","_law_many","_law_found","_law_k"] ["_law_box_here","_law_many"] (zv (topL 41)):=u4
def zal(b:_)(m:_)(l:_)(H:_)(n:_):=fun(i:Nat) (σ:St) (c:Hp)=>(Ex2 fun(g:List Str) (o:Option V)=>An5 (σ=[some (.ref b),some (.int m),some (.ref l),o]) (SameB b H c) (BoxAt c b (n+12*i)) (Row c l g) (g.length=i):Prop)
theorem zcs{f:Addr}{U:FuncData}(F:Fun K "_law_names" "_law_names" (topL 41) f U)(B:Blt D)(c:Dfn P w K D C "_law_name" 2 ["_law_box_here","_law_taken"] zeD):FnOk P w K D C CX0 3 f U ["_law_box_here","_law_many"] Yq:=by
 have nd:=YH.nd;refine F.ok YH (fun vs H Q E h=>?_) (fun a0 A L s H vs Q E hr h=>?_)
 ·obtain⟨b,m,n,rfl,_⟩:=h
  rfl
 ·obtain⟨b,m,n,rfl,M,hn,m0,m1,k⟩:=h
  have Y:=bG100000;have t:=bGe;refine⟨_,(zg (zx (i:=2) nd rfl (Or.inl rfl) (qU zb))
   (zg (jh jR rfl (qI rfl B.range (za (pv 1) zb)) (zD (i:=3) nd rfl (Or.inl rfl))
   (zj (xI (yi vB Qg Qf j7 (pv 2) (za (zf c hr.m rfl (za (pv 0) (za (pv 2) zb))) zb)))))
   (zj (zw (pv 2))))),?_⟩
  refine⟨le0,fun l u=>?_⟩
  have nl:=M.nne u;refine⟨_,rfl,_,rfl,(by rw[t];omega),(by rw[t];omega),?_⟩
  refine jv (zal b m l H n) ⟨[],_,rfl,(uc b H).new u,(M.new u).mono (by omega),⟨zc,fun x h=>nomatch h⟩,rfl⟩ ?_ ?_
  ·rintro i σ N hi ⟨G,v3,rfl,J,I,o,g⟩
   refine⟨_,rfl,.inl ⟨rfl,_,u7 o.1⟩,_,rfl,_,rfl,b,l,_,G,rfl,I,by omega,nl,o.1,by omega,fun y H5 O B5 y0 y1 al=>⟨l,_,_,rfl,rfl,(o.draw O nl).1,by rw[zo,g];omega,?_⟩⟩
   refine⟨G++[y],_,rfl,(J.trans O).put u,(B5.other nl).mono (by omega),⟨by rw[zc,zF];rfl,fun x hx=>?_⟩,by rw[zL,g];rfl⟩
   rcases qO.mp hx with q | q
   ·exact o.2 x q
   ·rw[zP.mp q];exact zg7 y0 y1 al
  ·rintro σ N ⟨G,v3,rfl,J,I,o,g⟩
   exact⟨_,rfl,k l G N J (I.mono (by omega)) nl u o (by omega)⟩
def PlA(H:Hp)(a:Addr):Prop:=∃x y:Int,H a=some (.tup [.int x,.int y])/\0<=x/\x<=1000/\0<=y/\y<=1000
theorem PlA.imp{H c:Hp}{a:Addr}(h:PlA H a)(f:∀o,H a=some o->c a=some o):PlA c a:=let ⟨x,y,e,r⟩:=h;⟨x,y,f _ e,r⟩
theorem PlA.draw{H c:Hp}{a b:Addr}{n:Int}(h:PlA H a)(B:BoxAt H b n)(s:SameB b H c):PlA c a:=by
 obtain⟨x,y,e,r⟩:=h;obtain⟨i,b1,b2,g,_⟩:=B;exact⟨x,y,s a _ e (Vi e g (by intro z;cases z)),r⟩
def LieAt(H:Hp)(c:List Addr)(g:List (Int×Int)):Prop:=c.length=g.length/\∀(i:Nat) (q:Int×Int),g[i]? =some q->∃a,c[i]? =some a/\H a=some (.tup [.int q.1,.int q.2])
theorem LieAt.imp{H l:Hp}{g:List Addr}{s:List (Int×Int)}(h:LieAt H g s)(f:∀a o,a∈g->H a=some o->l a=some o):LieAt l g s:=⟨h.1,fun i q e=>let ⟨a,b,c⟩:=h.2 i q e;⟨a,b,f _ _ (qm b) c⟩⟩
theorem LieAt.prs{K:W.Frag}{H:Hp}{g:List Addr}{l:List (Int×Int)}(h:LieAt H g l):zdo K H (g.map V.ref) l:=⟨by rw[zo];exact h.1,fun i q e=>let ⟨a,b,c⟩:=h.2 i q e;⟨a,by rw[zY,b];rfl,u8 c⟩⟩
theorem ze5{α:Type}[DecidableEq α]:∀{c ys:List α},c.Nodup->(∀x∈c,x∈ys)->c.length<=ys.length
 | [],_,_,_=>qB _
 | x::c,ys,o,h=>by
  obtain⟨i,l⟩:=vT.mp o;have hx:=h x jU;have:=ze5 l (ys:=ys.erase x) fun z g=>(WP fun e=>i (by rw[<- e];exact g)).mpr (h z (qw _ g))
  rw[WZ hx] at this;have:=Xw hx;rw[jy];omega
theorem zcD{H:Hp}:∀{c:List Addr},(∀a∈c,PlA H a)->∃g,LieAt H c g
 | [],_=>⟨[],rfl,fun i q e=>by cases e⟩
 | a::c,h=>by
  obtain⟨g,l,f⟩:=zcD fun b hb=>h b (qw _ hb)
  obtain⟨x,y,e,_⟩:=h a jU;refine⟨(x,y)::g,by rw[jy,jy,l],fun i q o=>?_⟩
  cases i with
  | zero=>cases o;exact⟨a,rfl,e⟩
  | succ i=>exact f i q o
theorem LieAt.mem{H:Hp}{g:List Addr}{c:List (Int×Int)}(h:LieAt H g c){a:Addr}(s:a∈g):∃q∈c,H a=some (.tup [.int q.1,.int q.2]):=by
 obtain⟨i,l,e⟩:=WK s;have o:i<c.length:=by rw[<- h.1];exact l
 obtain⟨b,e1,e2⟩:=h.2 i _ (qA o);rw[qA l,e] at e1;cases e1;exact⟨_,vy o,e2⟩
theorem zhQ{ps:List (Int×Int)}{x0 y:Int}(s:ps.length<=1000):¬∀j:Nat,j<ps.length+1->((x0+j) % 1001,y)∈ps:=fun h=>by
 have o:((List.range (ps.length+1)).map fun(j:Nat)=>((x0+j) % 1001,y)).Nodup:=by
  rw[List.Nodup,Zh];refine(Qn (n:=ps.length+1)).imp_of_mem fun {i j} g c ne z=>ne ?_
  have g:=qC.mp g;have c:=qC.mp c;have z:=(Prod.mk.inj z).1;omega
 have:=ze5 o (ys:=ps) fun z l=>by
  obtain⟨j,c,rfl⟩:=zT.mp l;exact h j (qC.mp c)
 rw[zo,qQ] at this;omega
inductive Q3(K:W.Frag)(i:List V)(H:Hp)(Q:VK):Prop
 | mk (b t:Addr) (n:Int) (g:List Addr) (_:i=[.ref b,.ref t]) (_:BoxAt H b n) (_:n<1099511627000) (_:t≠b) (_:H t=some (.lst (g.map V.ref))) (_:g.length<=1000) (_:(∀a∈g,PlA H a)) (_:∀(p:Addr) c,SameB b H c->BoxAt c b (n+3)->H p=none->PlA c p->(∀a∈g,c p≠H a)->Q (.ref p) c):Q3 K i H Q
def Zz(K:W.Frag):Sp:=fun c H Q _=>Q3 K c H Q
theorem YG:zB ["_law_box_here","_law_taken","_law_most","_law_x","_law_y","_law_turn"] ["_law_box_here","_law_taken"] (zv (topL 42)):=u4
theorem zcr{f:Addr}{fd:FuncData}(F:Fun K "_law_place" "_law_place" (topL 42) f fd)(B:Blt D)(g:Dfn P w K D C "_law_take" 1 ["_law_box_here","_law_size"] vm):FnOk P w K D C CX0 2 f fd ["_law_box_here","_law_taken"] (Zz K):=by
 have nd:=YG.nd;refine F.ok YG (fun vs H Q E h=>?_) (fun af A ae s H vs Q E hr h=>?_)
 ·obtain⟨b,t,n,as,rfl,_⟩:=h
  rfl
 ·obtain⟨b,t,n,as,rfl,B0,hn,aa,ht,ag,pa,k⟩:=h
  have a0:=hr.units;have U:=bGe;obtain⟨u,J⟩:=zcD pa;have pl:=J.1;have el:(as.map V.ref).length=as.length:=zo ..;refine⟨_,(zg (zx (i:=2) nd rfl (Or.inl rfl) (vI (zO yj (zf g hr.m rfl (za (pv 0) (za zi zb))) zi (zJ _)) zi zi))
   (zg (V6 (i:=3) (j:=4) rfl nd rfl rfl (by decide) rfl rfl (za (zf g hr.m rfl (za (pv 0) (za (pv 2) zb))) (za (zf g hr.m rfl (za (pv 0) (za (pv 2) zb))) zb)) (by rfl))
   (zg (jh jR rfl (qI rfl B.range (za (zC qr (zq zu rfl B.len boot_len (za (pv 1) zb)) zi) zb)) (zD (i:=5) nd rfl (Or.inl rfl))
   (zj (qM (zO (zfL rfl a0) (jH (za (pv 3) (za (pv 4) zb))) (pv 1) (by with_unfolding_all rfl))
    (zj (zx (i:=3) nd rfl (Or.inl rfl) (zC xm (zC qr (pv 3) zi) zi)))
    zR)))
   (zj (zw (jH (za (pv 3) (za (pv 4) zb)))))))),?_⟩
  refine⟨_,rfl,b,4,n,rfl,B0,by omega,by decide,by decide,fun r H1 r0 r1 B1 S1=>⟨rfl,_,rfl,yn (fun c=>?_) (fun c=>?_)⟩⟩
  all_goals
   refine⟨_,rfl,_,rfl,b,_,n+1,rfl,B1,by omega,by decide,by decide,fun x H2 x0 x1 B2 S2=>⟨_,rfl,_,rfl,b,_,n+1+1,rfl,B2,by omega,by decide,by decide,fun y H3 y0 y1 B3 S3=>⟨_,_,rfl,?_⟩⟩⟩
   have S4:=S1.trans (S2.trans S3);have ac:=S4 t _ ht aa;refine⟨_,rfl,t,_,rfl,.inl (u7 ac),_,_,rfl,rfl,_,rfl,(by rw[U,el];omega),(by rw[U,el];omega),?_⟩
   have xb:x<=1000:=by omega
   refine jv (fun i σ O=>Ex3 fun(v2 v5:Option V) (z:Int)=>An6 (σ=[some (.ref b),some (.ref t),v2,some (.int z),some (.int y),v5]) (0<=z) (z<=1000) (SameB b H O) (BoxAt O b (n+1+1+1)) (((z,y)∉u\/(z=(x+i) % 1001/\∀j:Nat,j<i->((x+j) % 1001,y)∈u)))) ⟨_,none,x,rfl,x0,xb,S4,B3,.inr ⟨by show x=(x+((0:Nat):Int)) % 1001;omega,fun j hj=>absurd hj (yY j)⟩⟩ ?_ ?_
   ·rintro i σ O _ ⟨v2,v5,z,rfl,L,M,G,N,I⟩
    refine⟨_,rfl,_,rfl,le2,fun p l=>⟨_,rfl,p,t,(z,y),_,u,rfl,rfl,u8 zc,u7 ((G.new l) t _ ht aa),(J.imp fun a o ha e=>?_).prs,_,rfl,yn (fun d=>?_) (fun d=>?_)⟩⟩
    ·obtain⟨cx,cy,hc,_⟩:=pa a ha
     exact(G.new l) a o e fun e2=>by
      obtain⟨w0,w1,w2,e3,_⟩:=id B0;rw[e2] at hc;rw[hc] at e3;cases e3
    ·have d:(z,y)∈u:=vk d
     refine⟨_,rfl,_,_,rfl,rfl,_,_,rfl,rfl,(by show(0:Int)<1001;decide),_,_,_,rfl,vS _ (by decide),by have:=vW (z+1) (by decide:(0:Int)<1001);omega,G.new l,N.new l,.inr ?_⟩
     rcases I with I | ⟨e,hj⟩
     ·exact absurd d I
     ·refine⟨by rw[e];omega,fun j ab=>?_⟩
      by_cases q:j=i
      ·rw[q,<- e];exact d
      ·exact hj j (by omega)
    ·have d:¬(z,y)∈u:=fun m=>d (zW m)
     exact⟨_,_,z,rfl,L,M,G.new l,N.new l,.inl d⟩
   ·rintro σ O ⟨v2,v5,z,rfl,L,M,G,N,I⟩
    have B6:BoxAt O b (n+3):=by
     have e:n+3=n+1+1+1:=by omega
     rw[e];exact N
    have Y:(z,y)∉u:=by
     rcases I with I | ⟨_,hj⟩
     ·exact I
     ·exact absurd (fun j ab=>hj j (by omega)) (zhQ (ps:=u) (x0:=x) (y:=y) (by omega))
    refine⟨_,rfl,_,rfl,le2,fun p l=>k p _ (G.new l) (B6.new l) (G.none l (N.nne l)) ⟨z,y,zc,L,M,y0,by omega⟩ fun a ha e=>?_⟩
    obtain⟨q,hq,e2⟩:=J.mem ha;rw[zc,e2] at e;cases e;exact Y hq
inductive ZK(o:List V)(H:Hp)(Q:VK):Prop
 | mk (b:Addr) (m n:Int) (_:o=[.ref b,.int m]) (_:BoxAt H b n) (_:n<1000000) (_:0<=m) (_:m<=100) (_:∀(l:Addr) (g:List Addr) c,SameB b H c->BoxAt c b (n+400)->l≠b->H l=none->c l=some (.lst (g.map V.ref))->(∀a∈g,PlA c a)->(g.length:Int)=m->(∃i,LieAt c g i/\i.Nodup)->Q (.ref l) c):ZK  o H Q
def XZ:Sp:=fun c H Q _=>ZK  c H Q
theorem X9:zB ["_law_box_here","_law_many","_law_found","_law_k"] ["_law_box_here","_law_many"] (zv (topL 43)):=u4
def zak(b:_)(m:_)(l:_)(H:_)(n:_):=fun(i:Nat) (σ:St) (c:Hp)=>(∃(g:List Addr) (s:Option V),σ=[some (.ref b),some (.int m),some (.ref l),s]/\SameB b H c/\BoxAt c b (n+3*i)/\c l=some (.lst (g.map V.ref))/\(∀a∈g,PlA c a)/\g.length=i/\∃o,LieAt c g o/\o.Nodup:Prop)
theorem zaR{f:Addr}{fd:FuncData}(F:Fun K "_law_places" "_law_places" (topL 43) f fd)(B:Blt D)(g:Dfn P w K D C "_law_place" 2 ["_law_box_here","_law_taken"] (Zz K)):FnOk P w K D C CX0 3 f fd ["_law_box_here","_law_many"] XZ:=by
 have nd:=X9.nd;refine F.ok X9 (fun vs H Q E h=>?_) (fun ac A aa s H vs Q E hr h=>?_)
 ·obtain⟨b,m,n,rfl,_⟩:=h
  rfl
 ·obtain⟨b,m,n,rfl,B0,hn,m0,m1,k⟩:=h
  have ab:=bG100000;have N:=bGe;refine⟨_,(zg (zx (i:=2) nd rfl (Or.inl rfl) (qU zb))
   (zg (jh jR rfl (qI rfl B.range (za (pv 1) zb)) (zD (i:=3) nd rfl (Or.inl rfl))
   (zj (xI (yi vB Qg Qf j7 (pv 2) (za (zf g hr.m rfl (za (pv 0) (za (pv 2) zb))) zb)))))
   (zj (zw (pv 2))))),?_⟩
  refine⟨le0,fun l O=>?_⟩
  have nl:=B0.nne O;refine⟨_,rfl,_,rfl,(by rw[N];omega),(by rw[N];omega),?_⟩
  refine jv (zak b m l H n) ⟨[],_,rfl,(uc b H).new O,(B0.new O).mono (by omega),zc,(fun x h=>nomatch h),rfl,[],⟨rfl,fun i q e=>by cases e⟩,Wt⟩ ?_ ?_
  ·rintro i σ H4 hi ⟨M,v3,rfl,S4,G,I,J,t,U,c,pn⟩
   refine⟨_,rfl,.inl ⟨rfl,_,u7 I⟩,_,rfl,_,rfl,b,l,_,M,rfl,G,by omega,nl,I,by omega,J,fun p Y L B5 pN pp pq=>⟨l,_,_,rfl,rfl,L l _ I nl,by rw[zo,t];omega,?_⟩⟩
   have L5:=L l _ I nl;have o:∀{a:Addr},PlA Y a->PlA (upd Y l (.lst (M.map V.ref++[.ref p]))) a:=fun {a} h=>by
    obtain⟨x,y,e,r⟩:=h;exact⟨x,y,by rw[zk (Vi e L5 (by intro z;cases z))];exact e,r⟩
   obtain⟨px,py,pe,_⟩:=id pp;refine⟨M++[p],_,rfl,(S4.trans L).put O,(B5.other nl).mono (by omega),by rw[zc,zF];rfl,fun a ha=>?_,by rw[zL,t];rfl,U++[(px,py)],⟨by rw[zL,zL,c.1];rfl,fun j q e=>?_⟩,Zi.mpr ⟨pn,vT.mpr ⟨Wz,Wt⟩,fun u hu v hv e=>?_⟩⟩
   ·rcases qO.mp ha with q | q
    ·exact o ((J a q).draw G L)
    ·rw[zP.mp q];exact o pp
   ·have up:∀{a:Addr} {x y:Int},Y a=some (.tup [.int x,.int y])->upd Y l (.lst (M.map V.ref++[.ref p])) a=some (.tup [.int x,.int y]):=fun {a x y} e=>by
     rw[zk (Vi e L5 (by intro z;cases z))];exact e
    by_cases lt:j<U.length
    ·rw[jV lt] at e
     obtain⟨a,e1,e2⟩:=c.2 j q e;obtain⟨cx,cy,e3,_⟩:=J a (qm e1);obtain⟨dx,dy,e4,_⟩:=(J a (qm e1)).draw G L;refine⟨a,by rw[jV (by rw[c.1];exact lt)];exact e1,up (L a _ e2 fun z=>?_)⟩
     obtain⟨w0,w1,w2,e5,_⟩:=id G;rw[z,e5] at e2;cases e2
    ·rw[jW (by omega)] at e
     have e0:j-U.length=0:=by
      have:=(zK.mp e).1;rw[Xv] at this;omega
     rw[e0] at e;cases e;exact⟨p,by rw[jW (by rw[c.1];omega),c.1,e0];rfl,up pe⟩
   ·rw[zP.mp hv] at e
    obtain⟨i',a0,eu⟩:=WK hu;obtain⟨a,e1,e2⟩:=c.2 i' _ (qA a0);refine pq a (qm e1) ?_
    rw[pe,e2,eu,e]
  ·rintro σ H4 ⟨M,v3,rfl,S4,G,I,J,t,U,c,pn⟩
   exact⟨_,rfl,k l M H4 S4 (G.mono (by omega)) nl O I J (by omega) ⟨U,c,pn⟩⟩
inductive XW(K:W.Frag)(i:List V)(H:Hp)(Q:VK):Prop
 | mk (b a:Addr) (n:Int) (g:List V) (_:i=[.ref b,.ref a]) (_:BoxAt H b n) (_:n<1000000) (_:a≠b) (_:H a=some (.lst g)) (_:g.length<=1000) (_:∀(l:Addr) (o:List V) c,SameB b H c->BoxAt c b (n+g.length)->l≠b->H l=none->c l=some (.lst o)->o.Perm g->Q (.ref l) c):XW K i H Q
def Js(K:W.Frag):Sp:=fun c H Q _=>XW K c H Q
theorem zbU:zB ["_law_box_here","_law_some","_law_found","_law_one"] ["_law_box_here","_law_some"] (zv (topL 44)):=u4
def zaj(b:_)(a:_)(l:_)(H:_)(n:_)(g:List V):=fun(i:Nat) (σ:St) (c:Hp)=>(Ex2 fun(o:List V) (s:Option V)=>An6 (σ=[some (.ref b),some (.ref a),some (.ref l),s]) (SameB b H c) (BoxAt c b (n+i)) (c a=some (.lst g)) (c l=some (.lst o)) (o.Perm (g.take i)):Prop)
theorem zdU{f:Addr}{fd:FuncData}(F:Fun K "_law_shuffled" "_law_shuffled" (topL 44) f fd)(B:Blt D)(c:Dfn P w K D C "_law_take" 1 ["_law_box_here","_law_size"] vm):FnOk P w K D C CX0 2 f fd ["_law_box_here","_law_some"] (Js K):=by
 have nd:=zbU.nd;refine F.ok zbU (fun vs H Q E h=>?_) (fun ab A a0 s H vs Q E hr h=>?_)
 ·obtain⟨b,a,n,o,rfl,_⟩:=h
  rfl
 ·obtain⟨b,a,n,o,rfl,B0,hn,U,O,ac,k⟩:=h
  have aa:=bG100000;have N:=bGe;refine⟨_,(zg (zx (i:=2) nd rfl (Or.inl rfl) (qU zb))
   (zg (jh jR rfl (jG (pv 1)) (zD (i:=3) nd rfl (Or.inl rfl))
   (zj (xI (yi vB PySem.F.slot_list_insert PySem.F.type_list_insert zaX (pv 2) (za (zf c hr.m rfl (za (pv 0) (za (zC qr (zq zu rfl B.len boot_len (za (pv 2) zb)) zi) zb))) (za (pv 3) zb))))))
   (zj (zw (pv 2))))),?_⟩
  refine⟨le0,fun l g=>?_⟩
  have nl:=B0.nne g;have Y:a≠l:=zm O g;refine⟨_,rfl,a,rfl,⟨_,u7 ((ze g) _ _ O)⟩,vN (K:=K) (a:=a) (xs:=o) (zaj b a l H n o)
   ⟨[],_,rfl,(uc b H).new g,(B0.new g).mono (by omega),(ze g) _ _ O,zc,.nil⟩ (fun i σ J _ ⟨_,_,_,_,_,h,_,_⟩=>u7 h) ?_ ?_⟩
  ·rintro i x σ J hx ⟨G,v3,rfl,L,I,A4,t,u⟩
   have hi:=(zK.mp hx).1;have yl:G.length=i:=by rw[u.length_eq,qD];omega
   refine⟨_,rfl,.inl ⟨rfl,_,u7 t⟩,_,rfl,_,rfl,l,_,rfl,.inl (u7 t),_,_,rfl,rfl,b,_,_,rfl,I,by omega,by omega,by omega,fun q H5 q0 q1 B5 M=>⟨_,rfl,?_⟩⟩
   refine⟨l,G,q,x,rfl,rfl,M l _ t nl,q0,by rw[N];omega,by omega,?_⟩
   refine⟨_,_,rfl,(L.trans M).put g,(B5.other nl).mono (by omega),by rw[zk Y];exact M a _ A4 U,zc,?_⟩
   have e1:o.take (i+1)=o.take i++[x]:=by
    obtain⟨h1,h2⟩:=zK.mp hx;rw[<- h2,wL]
   rw[e1];refine List.perm_middle.trans ?_
   rw[List.take_append_drop];exact((List.Perm.cons x u).trans (zda x _).symm)
  ·rintro σ J ⟨G,v3,rfl,L,I,A4,t,u⟩
   rw[jS] at u;exact⟨_,rfl,k l G J L I nl g t u⟩
end
def SameT(H c:Hp):Prop:=∀a u,H a=some u->(∀g,u≠.lst g)->c a=some u
theorem SameT.refl(H:Hp):SameT H H:=fun _ _ e _=>e
theorem SameT.trans{H g i:Hp}(a:SameT H g)(b:SameT g i):SameT H i:=fun c u e h=>b c u (a c u e h) h
theorem SameT.of{H c:Hp}(s:Same H c):SameT H c:=fun a u e _=>s a u e
theorem SameT.draw{H c:Hp}{b:Addr}{n:Int}(B:BoxAt H b n)(s:SameB b H c):SameT H c:=fun a u e h=>by
 obtain⟨i,b1,b2,g,_⟩:=B;exact s a u e (fun z=>by rw[z,g] at e;cases e;exact h _ rfl)
def ub:=@SameT.draw
theorem SameT.put{H:Hp}{l:Addr}{c g:List V}(h:H l=some (.lst c)):SameT H (upd H l (.lst g)):=fun a u e hu=>by
 rw[zk (fun z=>by rw[z,h] at e;cases e;exact hu _ rfl)];exact e
mutual
def Dat.imm:Dat->Bool
 | .lst _=>false
 | .tup c=>Dat.imms c
 | _=>true
def Dat.imms:List Dat->Bool
 | []=>true
 | d::c=>d.imm&&Dat.imms c
end
section
variable{P:Program}{w:World}{K:W.Frag}{G:Str->Option Value}{C:Heap}
theorem SqT.keep{H c:Hp}{a:Addr}{g:List V}(q:SqT K H a g)(s:SameT H c):SqT K c a g:=by
 rcases q with(q | ⟨o,q⟩) | q
 ·exact .inl (.inl (s a _ q (fun z h=>nomatch h)))
 ·exact .inl (.inr ⟨o,s a _ q (fun z h=>nomatch h)⟩)
 ·exact .inr q
mutual
theorem Rep.keep{H c:Hp}(s:SameT H c):∀{d:Dat} {v:V},d.imm=true->Rep K H d v->Rep K c d v
 | .non,_,_,h=>h
 | .bl _,_,_,h=>h
 | .int _,_,_,h=>h
 | .str _,_,_,h=>h
 | .lst _,_,i,_=>by cases i
 | .tup ds,_,i,h=>by
  obtain⟨a,g,e,q,r⟩:=h;exact⟨a,g,e,q.keep s,Reps.keep s (ds:=ds) i r⟩
theorem Reps.keep{H g:Hp}(s:SameT H g):∀{ds:List Dat} {l:List V},Dat.imms ds=true->Reps K H ds l->Reps K g ds l
 | [],_,_,h=>h
 | d::ds,_,i,h=>by
  obtain⟨x,r,e,o,t⟩:=h;have c:(d.imm&&Dat.imms ds)=true:=i;rw[jx] at c;exact⟨x,r,e,Rep.keep s c.1 o,Reps.keep s c.2 t⟩
end
theorem Reps.snoc{H:Hp}{d:Dat}{v:V}(h:Rep K H d v):∀{c:List Dat} {g:List V},Reps K H c g->Reps K H (c++[d]) (g++[v])
 | [],_,e=>by rw[show _=_ from e];exact⟨v,[],rfl,h,rfl⟩
 | _::_,_,e=>by
  obtain⟨x,r,e1,i,l⟩:=e;subst e1;exact⟨x,r++[v],rfl,i,Reps.snoc h l⟩
def ud:=@Reps.snoc
theorem jO{α β:Type}{f:α->β}{E D:List β}(h:E.Perm D):∀{g:List α},D=g.map f->∃i:List α,i.Perm g/\E=i.map f:=by
 induction h with
 | nil=>
  intro g e;have:g=[]:=by simpa using e.symm
  exact⟨[],by rw[this],rfl⟩
 | @cons x N O p I=>
  intro g e;cases g with
  | nil=>simp at e
  | cons a A=>
   rw[jn] at e;injection e with e1 e2;obtain⟨i,t,u⟩:=I e2;exact⟨a::i,t.cons a,by rw[jn,<- u,<- e1]⟩
 | swap x y l=>
  intro g e;cases g with
  | nil=>simp at e
  | cons a A=>
   cases A with
   | nil=>simp at e
   | cons c B=>
    rw[jn,jn] at e;injection e with e1 e2;injection e2 with e2 H;exact⟨c::a::B,.swap a c B,by rw[jn,jn,<- e1,<- e2,<- H]⟩
 | trans p q o s=>
  intro g e;obtain⟨i,t,u⟩:=s e;obtain⟨M,J,L⟩:=o u;exact⟨M,J.trans t,L⟩
def jY(p:Nat×Nat):Dat:=.tup [.int p.1,.int p.2]
def wB(c:List (Nat×Nat)):Dat:=.tup (c.map jY)
theorem j5:∀(c:List (Nat×Nat)),Dat.imms (c.map jY)=true
 | []=>rfl
 | p::c=>by
  show(Dat.imm (jY p)&&Dat.imms (c.map jY))=true;rw[j5 c];rfl
def ByOrd(c:List Nat)(g:List (Nat×Nat)):Prop:=∀p∈g,∃k l:Nat,k<l/\c[k]? =some p.1/\c[l]? =some p.2
theorem Reps.take{H:Hp}:∀(n:Nat) {c:List Dat} {g:List V},Reps K H c g->Reps K H (c.take n) (g.take n)
 | 0,_,_,_=>rfl
 | n+1,[],_,h=>by rw[show _=_ from h];exact rfl
 | n+1,d::c,_,h=>by
  obtain⟨x,r,e,i,l⟩:=h;subst e;exact⟨x,r.take n,rfl,i,Reps.take n l⟩
theorem Reps.app{H:Hp}:∀{c i:List Dat} {l o:List V},Reps K H c l->Reps K H i o->Reps K H (c++i) (l++o)
 | [],_,_,_,h,g=>by rw[show _=_ from h];exact g
 | d::c,_,_,_,h,g=>by
  obtain⟨x,r,e,s,t⟩:=h;subst e;exact⟨x,r++_,rfl,s,Reps.app t g⟩
inductive ZM(K:W.Frag)(l:List V)(H:Hp)(Q:VK):Prop
 | mk (b:Addr) (m n:Int) (_:l=[.ref b,.int m]) (_:BoxAt H b n) (_:n<1000000) (_:0<=m) (_:m<=60) (_:∀(p:Addr) (i:List (Nat×Nat)) (c:List Nat) g,SameB b H g->BoxAt g b (n+800)->Rep K g (wB i) (.ref p)->c.Perm (List.range m.toNat)->ByOrd c i->i.length<=150->Q (.ref p) g):ZM K l H Q
def X6(K:W.Frag):Sp:=fun c H Q _=>ZM K c H Q
theorem Vb:zB ["_law_box_here","_law_many","_law_order","_law_found","_law_turn","_law_k"] ["_law_box_here","_law_many"] (zv (topL 46)):=u4
theorem zgV{m r:Int}(h:0<=r)(c:r<4)(i:2<=m)(g:m<=60):∃z:Int,atI [V.int 1,V.int 4,V.int 13,V.int (2*m)] r=some (.int z)/\1<=z/\z<=120:=by
 have hc:r=0\/r=1\/r=2\/r=3:=by omega
 rcases hc with rfl | rfl | rfl | rfl
 ·exact⟨1,rfl,by omega,by omega⟩
 ·exact⟨4,rfl,by omega,by omega⟩
 ·exact⟨13,rfl,by omega,by omega⟩
 ·exact⟨2*m,rfl,by omega,by omega⟩
theorem zcf{ord:List Nat}{i:Int}(h:0<=i)(c:i<ord.length):∃x:Nat,atI (ord.map fun i:Nat=>V.int (i:Int)) i=some (.int (x:Int))/\ord[i.toNat]? =some x:=by
 obtain⟨v,e1,e2⟩:=Wq (xs:=ord.map fun i:Nat=>V.int (i:Int)) h (by rw[zo];exact c)
 rw[zY] at e2;obtain⟨x,hx,rfl⟩:=z9.mp e2;exact⟨x,e1,hx⟩
def zai(b:_)(m:_)(o:_)(R:_)(H:_)(n:_)(g:_)(K:_):=fun(i:Nat) (σ:St) (c:Hp)=>(Ex4 fun(l:List (Nat×Nat)) (s:List V) (t u:Option V)=>An8 (σ=[some (.ref b),some (.int m),some (.ref o),some (.ref R),t,u]) (SameB b H c) (BoxAt c b (n+110+2*i)) (c o=some (.lst (g.map fun i:Nat=>V.int (i:Int)))) (c R=some (.lst s)) (Reps K c (l.map jY) s) (ByOrd g l) (l.length=i):Prop)
theorem zaT{f:Addr}{fd:FuncData}(F:Fun K "_law_aheads" "_law_aheads" (topL 46) f fd)(B:Blt G)(g:Dfn P w K G C "_law_take" 1 ["_law_box_here","_law_size"] vm)(l:Dfn P w K G C "_law_shuffled" 2 ["_law_box_here","_law_some"] (Js K)):FnOk P w K G C CX0 3 f fd ["_law_box_here","_law_many"] (X6 K):=by
 have nd:=Vb.nd;refine F.ok Vb (fun vs H Q E h=>?_) (fun am A ah s H vs Q E hr h=>?_)
 ·obtain⟨b,m,n,rfl,_⟩:=h
  rfl
 ·obtain⟨b,m,n,rfl,B0,hn,m0,m1,k⟩:=h
  have al:=bG100000;have ab:=bGe;refine⟨_,(zg (V6 (i:=2) (j:=3) rfl nd rfl rfl (by decide) rfl rfl (za (zf l hr.m rfl (za (pv 0) (za (vo rfl rfl B.list rfl B.range qV (za (pv 1) zb)) zb))) (za (qU zb) zb)) (by rfl))
   (zg (qM (zO zci (pv 1) zi (zJ _))
   (zj (zw (jH zb)))
   zR)
   (zg (jh jR rfl (qI rfl B.range (za (zf g hr.m rfl (za (pv 0) (za (zH qo (qU (za zi (za zi (za zi (za (zC xD zi (pv 1)) zb))))) (zf g hr.m rfl (za (pv 0) (za zi zb))) (fun _ _=>rfl)) zb))) zb)) (zD (i:=4) nd rfl (Or.inl rfl))
   (zg (zx (i:=5) nd rfl (Or.inl rfl) (zf g hr.m rfl (za (pv 0) (za (zC yH (pv 1) zi) zb))))
    (zj (xI (yi vB Qg Qf j7 (pv 3) (za (jH (za (zH qo (pv 2) (pv 5) (fun _ _=>rfl)) (za (zH qo (pv 2) (zC qr (zC qr (pv 5) zi) (zf g hr.m rfl (za (pv 0) (za (zC yH (zC yH (pv 1) zi) (pv 5)) zb)))) (fun _ _=>rfl)) zb))) zb))))))
   (zj (zw (qe jf rfl B.tuple qY (za (zC We (pv 3) (xa ww (pv 3) vn (xr (qe Ji rfl B.int Qd (za (qR yj (zf g hr.m rfl (za (pv 0) (za zi zb))) zi (zJ _)) zb))))) zb))))))),?_⟩
  refine⟨_,rfl,_,rfl,m,rfl,m0,by omega,fun l0 h0=>?_⟩
  have N:((List.range m.toNat).map fun i:Nat=>V.int (i:Int)).length=m.toNat:=by rw[zo,qQ]
  refine⟨b,l0,n,_,rfl,B0.new h0,by omega,B0.nne h0,zc,by rw[N];omega,fun o ys H1 S1 B1 no oN ho pm=>⟨le0,fun R hR=>⟨_,_,rfl,?_⟩⟩⟩
  obtain⟨u,op,rfl⟩:=jO pm rfl;have ol:u.length=m.toNat:=by rw[op.length_eq,qQ]
  rw[N] at B1;have O:=B1.nne hR;have oR:o≠R:=zm ho hR;have aa:=((uc b H).new h0).trans S1;have RH:H R=none:=aa.none hR O;have S2:=aa.new (o:=.lst []) hR;have B2:=B1.new (o:=.lst []) hR;have O2:=(ze (o:=.lst []) hR) _ _ ho;have R2:upd H1 R (.lst []) R=some (.lst []):=zc;generalize upd H1 R (.lst [])=H2 at S2 B2 O2 R2;refine⟨_,rfl,_,_,rfl,rfl,_,rfl,yn (fun c=>?_) (fun c=>?_)⟩
  ·exact⟨le0,fun p hp=>k p [] u _ (S2.new hp) ((B2.new hp).mono (by omega)) ⟨p,[],rfl,u8 zc,rfl⟩ op (fun p h=>nomatch h) (qB _)⟩
  have m2:2<=m:=by
   have:¬m<2:=fun z=>c (zW z)
   omega
  refine⟨_,rfl,_,rfl,_,_,rfl,rfl,.inl ⟨by decide,by decide⟩,le4,fun l1 h1=>⟨_,rfl,b,4,_,rfl,B2.new h1,by omega,by decide,by decide,fun r H3 r0 r1 B3 S3=>?_⟩⟩
  have L3:=S3 l1 _ zc (B2.nne h1);obtain⟨z,ez,z0,z1⟩:=zgV r0 r1 m2 m1;refine⟨l1,_,_,_,rfl,rfl,u7 L3,ez,b,z,_,rfl,B3,by omega,by omega,by omega,fun cnt H4 c0 c1 B4 S4=>⟨_,rfl,(by rw[ab];omega),(by rw[ab];omega),?_⟩⟩
  have U4:=((uc b H2).new h1).trans (S3.trans S4);have ae:=S2.trans U4;have O4:=U4 _ _ O2 no;have R4:=U4 _ _ R2 O;clear S2 B2 O2 R2 S3 S4 U4 L3 h1 B3;refine jv (zai b m o R H n u K)
   ⟨[],[],_,_,rfl,ae,B4.mono (by omega),O4,R4,rfl,(fun p h=>nomatch h),rfl⟩ ?_ ?_
  ·rintro i σ H5 hi ⟨L,D,v4,v5,rfl,S5,B5,O5,R5,rp,bo,U⟩
   have xl:D.length=i:=by rw[rp.len,zo,U]
   refine⟨_,rfl,_,rfl,_,_,rfl,rfl,b,_,_,rfl,B5,by omega,by omega,by omega,fun kk H6 k0 k1 B6 I=>?_⟩
   have O6:=I _ _ O5 no;obtain⟨x1,af,ai⟩:=zcf (ord:=u) k0 (by omega)
   refine⟨_,rfl,.inl ⟨rfl,_,u7 (I _ _ R5 O)⟩,_,rfl,_,rfl,o,_,_,_,rfl,rfl,u7 O6,af,?_⟩
   refine⟨_,rfl,_,rfl,_,_,rfl,rfl,_,rfl,_,rfl,_,_,rfl,rfl,_,rfl,_,_,rfl,rfl,b,_,_,rfl,B6,by omega,by omega,by omega,fun q H7 q0 q1 B7 S7=>⟨_,_,rfl,rfl,?_⟩⟩
   have O7:=S7 _ _ O6 no;have R7:=S7 _ _ (I _ _ R5 O) O;obtain⟨x2,ag,aj⟩:=zcf (ord:=u) (i:=kk+1+q) (by omega) (by omega)
   refine⟨o,_,_,_,rfl,rfl,u7 O7,ag,le2,fun T M=>⟨R,D,.ref T,rfl,rfl,(ze M) _ _ R7,by omega,?_⟩⟩
   have R8:=(ze (o:=.tup [.int (x1:Int),.int (x2:Int)]) M) _ _ R7;have st:SameT H5 (upd (upd H7 T (.tup [.int (x1:Int),.int (x2:Int)])) R (.lst (D++[.ref T]))):=((ub B5 (I.trans S7)).trans (.of (ze M))).trans (.put R8);refine⟨L++[(x1,x2)],_,_,_,rfl,(((S5.trans I).trans S7).new M).put RH,((B7.new M).other O).mono (by omega),by rw[zk oR];exact(ze M) _ _ O7,zc,?_,fun pq a0=>?_,by rw[zL,U];rfl⟩
   ·rw[zF]
    refine ud ?_ (Reps.keep st (j5 L) rp)
    refine⟨T,_,rfl,u8 ?_,_,_,rfl,rfl,_,_,rfl,rfl,rfl⟩
    rw[zk (fun zz=>by rw[zz,R7] at M;cases M)]
    exact zc
   ·rcases qO.mp a0 with w1 | w1
    ·exact bo pq w1
    ·rw[zP.mp w1]
     exact⟨kk.toNat,(kk+1+q).toNat,by omega,ai,aj⟩
  ·rintro σ H5 ⟨L,D,v4,v5,rfl,S5,B5,O5,R5,rp,bo,U⟩
   have xl:D.length=L.length:=by rw[rp.len,zo]
   refine⟨_,rfl,_,rfl,_,rfl,b,4,_,rfl,B5,by omega,by decide,by decide,fun r9 H6 an ao B6 I=>⟨rfl,.inr ⟨_,rfl,_,rfl,R,D,rfl,u7 (I _ _ R5 O),fun s1 J=>?_⟩⟩⟩
   have R6:=I _ _ R5 O;obtain⟨t,et⟩:∃t:Nat,jd D none (some (if decide (V.int r9=V.int 0)=true then(1:Int) else 0))=D.take t/\t<=1:=by
    unfold jd;by_cases hd:decide (V.int r9=V.int 0)=true
    ·rw[zr hd,show(some (1:Int))=some ((1:Nat):Int) from rfl,HT.sIx_nat,HT.sIx_none]
     refine⟨min 1 D.length,by simp,by omega⟩
    ·rw[zn hd,show(some (0:Int))=some ((0:Nat):Int) from rfl,HT.sIx_nat,HT.sIx_none]
     refine⟨0,by simp,by omega⟩
   rw[et.1];have st:SameT H5 H6:=.draw B5 I;have ak:=Reps.keep st (j5 L) rp;have tl:(D.take t).length<=1:=by rw[qD];omega
   refine⟨R,s1,_,_,rfl,rfl,(ze J) _ _ R6,zc,by omega,fun c1 Y=>⟨c1,_,rfl,.inl ⟨u7 zc,fun p hp=>?_⟩⟩⟩
   have sm:=((ze (o:=.lst (D.take t)) J).trans (ze (o:=.lst (D++D.take t)) Y)).trans (ze (o:=.tup (D++D.take t)) hp);refine k p (L++L.take t) u _ ((((S5.trans I).new J).new Y).new hp) ((((B6.new J).new Y).new hp).mono (by omega)) ⟨p,_,rfl,u8 zc,?_⟩ op (fun pq a0=>?_) (by rw[zL,qD];omega)
   ·have ac:=Reps.keep (SameT.of sm) (j5 L) ak
    have rt:=Reps.take t ac;rw[<- J9] at rt;have:=Reps.app ac rt;rw[<- zF] at this;exact this
   ·rcases qO.mp a0 with w1 | w1
    ·exact bo pq w1
    ·exact bo pq (WO w1)
structure w9 where
 k:Str
 x:Int
 y:Int
structure jA where
 k:Str
 x:Int
 y:Int
 m:Int
def jX(p:w9):Dat:=.tup [.str p.k,.tup [.int p.x,.int p.y]]
def xM(p:jA):Dat:=.tup [.str p.k,.tup [.int p.x,.int p.y],.int p.m]
theorem va:∀(c:List jA),Dat.imms (c.map xM)=true
 | []=>rfl
 | p::c=>by
  show(Dat.imm (xM p)&&Dat.imms (c.map xM))=true;rw[va c];rfl
theorem j4:∀(c:List w9),Dat.imms (c.map jX)=true
 | []=>rfl
 | p::c=>by
  show(Dat.imm (jX p)&&Dat.imms (c.map jX))=true;rw[j4 c];rfl
def inP(x y:Int):Prop:=0<=x/\x<=1000/\0<=y/\y<=1000
inductive X4(K:W.Frag)(u:List V)(H:Hp)(Q:VK):Prop
 | mk (b o t:Addr) (A:Bool) (n:Int) (c:List Str) (g:List w9) (_:u=[.ref b,.ref o,.ref t,.bl A]) (_:BoxAt H b n) (_:n<900000) (_:o≠b) (_:Row H o c) (_:1<=c.length) (_:c.length<=12) (_:Rep K H (.tup (g.map jX)) (.ref t)) (_:g.length<=100) (_:∀(p:Addr) (l:List jA) (s:List Str) i,SameB b H i->BoxAt i b (n+400)->Rep K i (.tup (l.map xM)) (.ref p)->(l.map (·.k)).Perm (c++s)->(∀e∈s,e∈c)->l.length<=20->(∀f∈l,Nm f.k/\inP f.x f.y/\0<=f.m/\f.m<=400)->Q (.ref p) i):X4 K u H Q
def zbK(K:W.Frag):Sp:=fun c H Q _=>X4 K c H Q
theorem zbY:zB ["_law_box_here","_law_kinds","_law_parts","_law_plenty","_law_great","_law_more","_law_some","_law_found","_law_kind","_law_need","_law_many"] ["_law_box_here","_law_kinds","_law_parts","_law_plenty"] (zv (topL 45)):=u4
theorem zbE{ns:List Str}{i:Int}(h:0<=i)(c:i<ns.length):∃x,atI (ns.map V.str) i=some (.str x)/\x∈ns:=by
 obtain⟨v,e1,e2⟩:=Wq (xs:=ns.map V.str) h (by rw[zo];exact c)
 rw[zY] at e2;obtain⟨x,hx,rfl⟩:=z9.mp e2;exact⟨x,e1,qm hx⟩
theorem zgU{a c r:Int}(h:0<=r)(l:r<3)(g:0<=a)(a1:a<=400)(i:0<=c)(c1:c<=400):∃z:Int,atI [V.int a,V.int c,V.int 400] r=some (.int z)/\0<=z/\z<=400:=by
 have hc:r=0\/r=1\/r=2:=by omega
 rcases hc with rfl | rfl | rfl
 ·exact⟨a,rfl,g,a1⟩
 ·exact⟨c,rfl,i,c1⟩
 ·exact⟨400,rfl,by omega,by omega⟩
theorem zdY{f:Addr}{fd:FuncData}(F:Fun K "_law_feeders" "_law_feeders" (topL 45) f fd)(B:Blt G)(u:Dfn P w K G C "_law_take" 1 ["_law_box_here","_law_size"] vm)(M:Dfn P w K G C "_law_shuffled" 2 ["_law_box_here","_law_some"] (Js K))(O:Dfn P w K G C "_law_place" 2 ["_law_box_here","_law_taken"] (Zz K)):FnOk P w K G C CX0 3 f fd ["_law_box_here","_law_kinds","_law_parts","_law_plenty"] (zbK K):=by
 have nd:=zbY.nd;refine F.ok zbY (fun vs H Q E h=>?_) (fun be A b0 s H vs Q E hr h=>?_)
 ·obtain⟨b,ks,ps,pl,n,t,L,rfl,_⟩:=h
  rfl
 ·obtain⟨b,ks,ps,pl,n,t,L,rfl,B0,hn,nk,Rk,k0,k1,hp,lp,k⟩:=h
  have bd:=bG100000;have ar:=bGe;have ek:(t.map V.str).length=t.length:=zo ..;refine⟨_,(zg (zx (i:=4) nd rfl (Or.inl rfl) (qR yj (zf u hr.m rfl (za (pv 0) (za zi zb))) zi (zJ _)))
   (zg (JC (zx (i:=5) nd rfl (Or.inl rfl) (zf u hr.m rfl (za (pv 0) (za (vI (qS (pv 4)) (zC yH zi (zq zu rfl B.len boot_len (za (pv 1) zb))) zi) zb)))))
   (zg (zx (i:=6) nd rfl (Or.inl rfl) (zC We (pv 1) (jg ["_law_kinds","_law_box_here"] [1,0] rfl rfl (by kernel_rfl) (qI rfl B.range (za (pv 5) zb)) (fun _ _ _ _=>qT) (fun _ _ _ _=>(zH (vM (K:=K) rfl) (pv 1) (zf u hr.m rfl (za (pv 2) (za (zq (wF (K:=K) rfl) rfl B.len boot_len (za (pv 1) zb)) zb))) (fun _ _=>rfl))))))
   (zg (zx (i:=7) nd rfl (Or.inl rfl) (qU zb))
   (zg (jh jR rfl (jG (zf M hr.m rfl (za (pv 0) (za (pv 6) zb)))) (zD (i:=8) nd rfl (Or.inr rfl))
   (zg (zx (i:=9) nd rfl (Or.inl rfl) (zq zu rfl B.len boot_len (za (jg ["_law_kind"] [8] rfl rfl (by kernel_rfl) (xj (pv 2)) (fun _ _ _ _=>(ZR (zO yj (zH (xL (K:=K) rfl) (pv 0) zi (fun _ _=>rfl)) (pv 1) (zJ _)))) (fun _ _ _ _=>(pv 0))) zb)))
    (zg (JC (zx (i:=10) nd rfl (Or.inl rfl) (vI (qS (pv 3)) (zH qo (qU (za (pv 9) (za (zC qr (pv 9) (zf u hr.m rfl (za (pv 0) (za zi zb)))) (za zi zb)))) (zf u hr.m rfl (za (pv 0) (za zi zb))) (fun _ _=>rfl)) (zf u hr.m rfl (za (pv 0) (za zi zb))))))
    (zj (xI (yi vB Qg Qf j7 (pv 7) (za (jH (za (pv 8) (za (zf O hr.m rfl (za (pv 0) (za (qU zb) zb))) (za (pv 10) zb)))) zb)))))))
   (zj (zw (qe jf rfl B.tuple qY (za (pv 7) zb))))))))),?_⟩
  refine⟨_,rfl,b,8,n,rfl,B0,by omega,by decide,by decide,fun r H1 r0 r1 B1 S1=>⟨rfl,?_⟩⟩
  have an:=Rk.draw S1 nk;refine⟨fun σ' H'=>Ex1 fun(more:Int)=>An6 (σ'=[some (.ref b),some (.ref ks),some (.ref ps),some (.bl pl),some (.bl (decide (V.int r=V.int 0))),some (.int more),none,none,none,none,none]) (0<=more) (more<=20) ((t.length:Int)+more<=20) (SameB b H H') (BoxAt H' b (n+2)),?_,?_⟩
  ·refine⟨_,rfl,_,rfl,_,rfl,yn (fun c=>?_) (fun c=>?_)⟩
   ·exact⟨_,rfl,ks,_,rfl,.inl (u7 an.1),_,_,rfl,rfl,b,_,_,rfl,B1,by omega,by omega,by omega,fun more H2 a0 a1 B2 S2=>⟨_,rfl,a0,by omega,by omega,S1.trans S2,B2.mono (by omega)⟩⟩
   ·exact⟨b,4,_,rfl,B1,by omega,by decide,by decide,fun more H2 a0 a1 B2 S2=>⟨_,rfl,a0,by omega,by omega,S1.trans S2,B2.mono (by omega)⟩⟩
  rintro σ' H2 ⟨more,rfl,bg,bh,bi,S2,B2⟩;clear S1 B1 an;have ab:=Rk.draw S2 nk;refine⟨_,rfl,_,rfl,_,rfl,(by rw[ar];omega),(by rw[ar];omega),ZX (fun j N H3=>Ex1 fun(J:List Str)=>An5 (N=J.map V.str) (J.length=j) ((∀x∈J,x∈t)) (SameB b H2 H3) (BoxAt H3 b (n+2+j))) ⟨[],rfl,rfl,(fun x h=>nomatch h),uc _ _,B2.mono (by omega)⟩ ?_ ?_⟩
  ·rintro j N H3 hj ⟨J,rfl,el,ee,S3,B3⟩
   refine⟨rfl,⟨_,rfl,_,rfl,_,rfl,ks,_,rfl,.inl (u7 (ab.draw S3 nk).1),b,_,_,rfl,B3,by omega,by omega,by omega,fun q H4 q0 q1 B4 S4=>?_⟩⟩
   obtain⟨y,ey,my⟩:=zbE (ns:=t) q0 (by omega)
   refine⟨ks,_,_,_,rfl,rfl,u7 (ab.draw (S3.trans S4) nk).1,ey,by rw[zo,el];omega,J++[y],by rw[zF];rfl,by rw[zL,el];rfl,fun x hx=>?_,S3.trans S4,B4.mono (by omega)⟩
   rcases qO.mp hx with pq | pq
   ·exact ee x pq
   ·rw[zP.mp pq];exact my
  rintro N H3 ⟨J,rfl,el,ee,S3,B3⟩;refine⟨by rw[zo,el];omega,fun D hD=>?_⟩
  have ap:=(S2.trans S3).new (o:=.lst (J.map V.str)) hD;have ao:=(ab.draw S3 nk).same (ze (o:=.lst (J.map V.str)) hD);refine⟨ks,D,_,_,rfl,rfl,ao.1,zc,by rw[ek,zo,el];omega,fun sm hs=>?_⟩
  have B4:=(B3.new (o:=.lst (J.map V.str)) hD).new (o:=.lst (t.map V.str++J.map V.str)) hs;have S4:=ap.new (o:=.lst (t.map V.str++J.map V.str)) hs;have ns:=(B3.new (o:=.lst (J.map V.str)) hD).nne hs;have M4:upd (upd H3 D (.lst (J.map V.str))) sm (.lst (t.map V.str++J.map V.str)) sm=some (.lst ((t++J).map V.str)):=by rw[zc,zF]
  generalize upd (upd H3 D (.lst (J.map V.str))) sm (.lst (t.map V.str++J.map V.str))=H4 at B4 S4 M4;clear S2 S3 ap ab ao B2 B3 hD hs;refine⟨le0,fun R hR=>?_⟩
  have nR:=B4.nne hR;have RH:H R=none:=S4.none hR nR;have ac:((t++J).map V.str).length<=20:=by rw[zo,zL,el];omega
  refine⟨_,rfl,_,rfl,b,sm,_,_,rfl,B4.new hR,by omega,ns,(ze hR) _ _ M4,by omega,fun l ys H5 S5 B5 nl lN hl pm=>?_⟩
  obtain⟨sh,aj,rfl⟩:=jO pm rfl;have aw:=(S4.new (o:=.lst []) hR).trans S5;have R5:H5 R=some (.lst []):=S5 _ _ zc nR;have lR:l≠R:=fun z=>by rw[z,zc] at lN;cases lN
  have bo:sh.length<=20:=by rw[aj.length_eq];rw[zo] at ac;exact ac
  have bc:∀x∈sh,Nm x:=fun x hx=>by
   rcases qO.mp (aj.mem_iff.mp hx) with q | q
   ·exact Rk.2 x q
   ·exact Rk.2 x (ee x q)
  clear pm M4 S4 S5 B4 hR;refine⟨l,rfl,⟨_,u7 hl⟩,vN (K:=K) (a:=l) (xs:=sh.map V.str) (fun i σ H6=>Ex6 fun(Y:List jA) (xs:List V) (v6 v8 v9 ak:Option V)=>An8 (σ=[some (.ref b),some (.ref ks),some (.ref ps),some (.bl pl),some (.bl (decide (V.int r=V.int 0))),some (.int more),v6,some (.ref R),v8,v9,ak]) (SameB b H H6) (BoxAt H6 b (n+60+6*i)) (H6 l=some (.lst (sh.map V.str))) (H6 R=some (.lst xs)) (Reps K H6 (Y.map xM) xs) (Y.map (·.k)=sh.take i) (∀f∈Y,Nm f.k/\inP f.x f.y/\0<=f.m/\f.m<=400))
   ⟨[],[],_,_,_,_,rfl,aw,B5.mono (by omega),hl,R5,rfl,rfl,(fun f h=>nomatch h)⟩ (fun i σ H6 _ ⟨_,_,_,_,_,_,_,_,_,h,_,_,_,_⟩=>u7 h) ?_ ?_⟩
  ·rintro i x σ H6 hx ⟨Y,xs,v6,v8,v9,ak,rfl,S6,B6,L6,R6,rp,fk,fa⟩
   rw[zY] at hx;obtain⟨kd,ah,rfl⟩:=z9.mp hx;have hi:=(zK.mp ah).1;have fl:Y.length=i:=by
    have:=congrArg List.length fk;rw[zo,qD] at this;omega
   have xl:xs.length=i:=by rw[rp.len,zo,fl]
   have az:=Rep.keep (d:=.tup (L.map jX)) (ub B0 S6) (j4 L) hp;obtain⟨_,au,ep,hq,as⟩:=az;cases ep;have bj:au.length=L.length:=by rw[as.len,zo]
   refine⟨_,rfl,ps,rfl,⟨_,hq⟩,xX (K:=K) (a:=ps) (xs:=au) (fun j N H7=>N.length<=j/\Same H6 H7) ⟨zy _,ua _⟩ (fun j N H7 ⟨_,s7⟩=>s7.sqT hq) ?_ ?_⟩
   ·rintro j v N H7 hv ⟨zl,s7⟩
    have hj:=(zK.mp hv).1;obtain⟨d,hd,rd⟩:=as.get hv;rw[zY] at hd;obtain⟨pt,_,rfl⟩:=z9.mp hd;obtain⟨c,bf,rfl,hc,u1,bn,e1,e2,e3⟩:=rd;subst e1;cases(show u1=.str pt.k from e2)
    refine⟨rfl,⟨_,rfl,c,_,_,.str pt.k,rfl,rfl,s7.sqT hc,j9 (j:=0) rfl,_,rfl,rfl,_,rfl,yn (fun dd=>⟨_,rfl,by omega,by rw[zL];simp;omega,s7⟩) (fun dd=>⟨by omega,s7⟩)⟩⟩
   rintro N H7 ⟨zl,s7⟩;refine⟨by omega,fun D2 ax=>⟨D2,N,rfl,.inl (u7 zc),?_⟩⟩
   have s8:=s7.trans (ze (o:=.lst N) ax);have B8:=B6.same s8;generalize upd H7 D2 (.lst N)=H8 at s8 B8;refine⟨fun σ' H'=>Ex1 fun(I:Int)=>An5 (σ'=[some (.ref b),some (.ref ks),some (.ref ps),some (.bl pl),some (.bl (decide (V.int r=V.int 0))),some (.int more),v6,some (.ref R),some (.str kd),some (.int (N.length:Int)),some (.int I)]) (0<=I) (I<=400) (SameB b H8 H') (BoxAt H' b (n+60+6*i+2)),?_,?_⟩
   ·refine⟨_,rfl,_,rfl,yn (fun c=>?_) (fun c=>?_)⟩
    ·refine⟨_,rfl,_,rfl,_,rfl,b,9,_,rfl,B8,by omega,by decide,by decide,fun q9 H9 a0 a1 B9 S9=>⟨_,_,rfl,rfl,le3,fun l3 h3=>⟨_,rfl,b,3,_,rfl,B9.new h3,by omega,by decide,by decide,fun q3 al c0 c1 ae U=>?_⟩⟩⟩
     have av:=U l3 _ zc (B9.nne h3);obtain⟨z,ez,z0,z1⟩:=zgU (a:=(N.length:Int)) (c:=(N.length:Int)+q9) c0 c1 (by omega) (by omega) (by omega) (by omega)
     exact⟨l3,_,_,_,rfl,rfl,u7 av,ez,z,rfl,z0,z1,(S9.new h3).trans U,ae.mono (by omega)⟩
    ·exact⟨_,rfl,b,4,_,rfl,B8,by omega,by decide,by decide,fun q9 H9 a0 a1 B9 S9=>⟨q9,rfl,a0,by omega,S9,B9.mono (by omega)⟩⟩
   rintro σ' H9 ⟨I,rfl,y0,y1,S9,B9⟩;have aq:=(uf (b:=b) s8).trans S9;have R9:=aq _ _ R6 nR;refine⟨_,rfl,.inl ⟨rfl,_,u7 R9⟩,_,rfl,_,rfl,le0,fun e he=>⟨b,e,_,[],rfl,B9.new he,by omega,B9.nne he,zc,qB _,(fun a h=>nomatch h),fun pp al U ae bm pa _=>⟨_,rfl,le3,fun T hT=>?_⟩⟩⟩
   obtain⟨px,py,aa,b1,b2,b3,b4⟩:=pa;have af:=U _ _ ((ze he) _ _ R9) nR;have am:=(ze (o:=.tup [.str kd,.ref pp,.int I]) hT) _ _ af;refine⟨R,xs,.ref T,rfl,rfl,am,by omega,?_⟩
   have ag:=(aq.new he).trans (U.new (o:=.tup [.str kd,.ref pp,.int I]) hT);have st:SameT H6 (upd (upd al T (.tup [.str kd,.ref pp,.int I])) R (.lst (xs++[.ref T]))):=(ub B6 ag).trans (.put am);have TR:T≠R:=fun z=>by rw[z,af] at hT;cases hT
   have ba:pp≠R:=fun z=>by rw[z,af] at aa;cases aa
   have bb:pp≠T:=fun z=>by rw[z,hT] at aa;cases aa
   refine⟨Y++[⟨kd,px,py,I⟩],_,_,_,_,_,rfl,(S6.trans ag).put RH,((ae.new hT).other nR).mono (by omega),by rw[zk lR];exact ag _ _ L6 nl,zc,?_,?_,fun g ay=>?_⟩
   ·rw[zF]
    refine ud ?_ (Reps.keep st (va Y) rp)
    refine⟨T,_,rfl,u8 (by rw[zk TR];exact zc),_,_,rfl,rfl,_,_,rfl,⟨pp,_,rfl,u8 (by rw[zk ba,zk bb];exact aa),_,_,rfl,rfl,_,_,rfl,rfl,rfl⟩,_,_,rfl,rfl,rfl⟩
   ·rw[zF,fk]
    obtain⟨h1,h2⟩:=zK.mp ah;rw[<- wL h1,h2];rfl
   ·rcases qO.mp ay with q | q
    ·exact fa g q
    ·rw[zP.mp q]
     exact⟨bc kd (qm ah),⟨b1,b2,b3,b4⟩,y0,y1⟩
  ·rintro σ H6 ⟨Y,xs,v6,v8,v9,ak,rfl,S6,B6,L6,R6,rp,fk,fa⟩
   rw[zo,jS] at fk;have fl:Y.length<=20:=by
    have:=congrArg List.length fk;rw[zo] at this;omega
   refine⟨_,rfl,R,xs,rfl,.inl ⟨u7 R6,fun p ai=>?_⟩⟩
   refine k p Y J _ (S6.new ai) ((B6.new ai).mono (by rw[zo] at *;omega)) ⟨p,_,rfl,u8 zc,Reps.keep (SameT.of (ze ai)) (va Y) rp⟩ (by rw[fk];exact aj) ee (by omega) fa
structure Job where
 gx:Int
 gy:Int
 hd:Int
 fs:List jA
 ps:List w9
 as:List (Nat×Nat)
def wC(J:Job):Dat:=.tup [.tup [.int J.gx,.int J.gy],.int J.hd,.tup (J.fs.map xM),.tup (J.ps.map jX),wB J.as]
theorem vL(J:Job):(wC J).imm=true:=by
 show(true&&(true&&(Dat.imms (J.fs.map xM)&&(Dat.imms (J.ps.map jX)&&(Dat.imms (J.as.map jY)&&true)))))=true;rw[va,j4,j5];rfl
structure JobOk(J:Job)(ord:List Nat):Prop where
 gate:inP J.gx J.gy
 hd0:1<=J.hd
 hd1:J.hd<=4
 fl:J.fs.length<=20
 fa:∀f∈J.fs,Nm f.k/\inP f.x f.y/\0<=f.m/\f.m<=400
 pl:J.ps.length<=60
 pa:∀p∈J.ps,Nm p.k/\inP p.x p.y/\∃f∈J.fs,f.k=p.k
 op:ord.Perm (List.range J.ps.length)
 bo:ByOrd ord J.as
 al:J.as.length<=150
 f0:1<=J.fs.length
 pd:(J.ps.map fun p=>(p.x,p.y)).Nodup
 kc:∃ks:List Str,ks.length<=12/\∀p∈J.ps,p.k∈ks
theorem zdK{r:Int}(c:0<=r)(g:r<4):∃z:Int,atI [V.int 3,V.int 3,V.int 3,V.int 12] r=some (.int z)/\3<=z/\z<=12:=by
 have hc:r=0\/r=1\/r=2\/r=3:=by omega
 rcases hc with rfl | rfl | rfl | rfl
 ·exact⟨3,rfl,by decide,by decide⟩
 ·exact⟨3,rfl,by decide,by decide⟩
 ·exact⟨3,rfl,by decide,by decide⟩
 ·exact⟨12,rfl,by decide,by decide⟩
inductive Yt(K:W.Frag)(o:List V)(H:Hp)(Q:VK):Prop
 | mk (b:Addr) (g c n:Int) (s:Bool) (_:o=[.ref b,.int g,.int c,.bl s]) (_:BoxAt H b n) (_:n<500000) (_:0<=g) (_:g<=60) (_:0<=c) (_:c<=60) (_:∀(p:Addr) (J:Job) (l:List Nat) i,SameB b H i->BoxAt i b (n+3000)->Rep K i (wC J) (.ref p)->JobOk J l->Q (.ref p) i):Yt K o H Q
def zeE(K:W.Frag):Sp:=fun c H Q _=>Yt K c H Q
theorem zeQ:zB ["_law_box_here","_law_few","_law_most","_law_plenty","_law_many","_law_kinds","_law_parts","_law_feeders_here"] ["_law_box_here","_law_few","_law_most","_law_plenty"] (zv (topL 47)):=u4
def zah(b:_)(g:_)(c:_)(l:_)(H:_)(n:_):=fun(o:St) (i:Hp)=>(Ex1 fun(m:Int)=>An5 (o=[some (.ref b),some (.int g),some (.int c),some (.bl l),some (.int m),none,none,none]) (0<=m) (m<=60) (SameB b H i) (BoxAt i b (n+2)):Prop)
theorem zfR{f:Addr}{fd:FuncData}(F:Fun K "_law_job" "_law_job" (topL 47) f fd)(B:Blt G)(g:Dfn P w K G C "_law_take" 1 ["_law_box_here","_law_size"] vm)(U:Dfn P w K G C "_law_names" 3 ["_law_box_here","_law_many"] Yq)(Y:Dfn P w K G C "_law_place" 2 ["_law_box_here","_law_taken"] (Zz K))(M:Dfn P w K G C "_law_places" 3 ["_law_box_here","_law_many"] XZ)
  (J:Dfn P w K G C "_law_feeders" 3 ["_law_box_here","_law_kinds","_law_parts","_law_plenty"] (zbK K)) (L:Dfn P w K G C "_law_aheads" 3 ["_law_box_here","_law_many"] (X6 K)):FnOk P w K G C CX0 4 f fd ["_law_box_here","_law_few","_law_most","_law_plenty"] (zeE K):=by
 have nd:=zeQ.nd;refine F.ok zeQ (fun vs H Q E h=>?_) (fun bq A bh s H vs Q E hr h=>?_)
 ·obtain⟨b,ao,ae,n,pl,rfl,_⟩:=h
  rfl
 ·obtain⟨b,ao,ae,n,pl,rfl,B0,hn,f0,f1,br,bs,k⟩:=h
  have bn:=bG100000;refine⟨_,(zg (JC (zx (i:=4) nd rfl (Or.inl rfl) (zf g hr.m rfl (za (pv 0) (za (zC qr (vI (zO ze3 (zf g hr.m rfl (za (pv 0) (za zi zb))) zi (zJ _)) (pv 1) (pv 2)) zi) zb)))))
   (zg (zx (i:=5) nd rfl (Or.inr rfl) (zf U hr.m rfl (za (pv 0) (za (zC qr zi (zf g hr.m rfl (za (pv 0) (za (zH qo (qU (za zi (za zi (za zi (za zi zb))))) (zf g hr.m rfl (za (pv 0) (za zi zb))) (fun _ _=>rfl)) zb)))) zb))))
   (zg (zx (i:=6) nd rfl (Or.inl rfl) (qe jf rfl B.tuple qY (za (jg ["_law_kinds","_law_box_here"] [5,0] rfl rfl (by kernel_rfl) (jG (zf M hr.m rfl (za (pv 0) (za (pv 4) zb)))) (fun _ _ _ _=>qT) (fun _ _ _ _=>(jH (za (zH (vM (K:=K) rfl) (pv 1) (zf g hr.m rfl (za (pv 2) (za (zq (wF (K:=K) rfl) rfl B.len boot_len (za (pv 1) zb)) zb))) (fun _ _=>rfl)) (za (pv 0) zb))))) zb)))
   (zg (zx (i:=7) nd rfl (Or.inl rfl) (zf J hr.m rfl (za (pv 0) (za (pv 5) (za (pv 6) (za (pv 3) zb))))))
   (zj (zw (jH (pa5 (zf Y hr.m rfl (za (pv 0) (za (qU zb) zb))) (zC qr zi (zf g hr.m rfl (za (pv 0) (za zi zb)))) (pv 7) (pv 6) (zf L hr.m rfl (za (pv 0) (za (pv 4) zb))))))))))),?_⟩
  refine⟨zah b ao ae pl H n,?_,?_⟩
  ·refine⟨_,rfl,_,rfl,b,8,n,rfl,B0,by omega,by decide,by decide,fun r H1 r0 r1 B1 S1=>⟨_,_,rfl,rfl,_,rfl,yn (fun c=>⟨_,rfl,_,_,rfl,rfl,?_⟩) (fun c=>⟨_,rfl,_,_,rfl,rfl,?_⟩)⟩⟩
   ·exact⟨b,_,_,rfl,B1,by omega,by omega,by omega,fun m H2 a0 a1 B2 S2=>⟨m,rfl,a0,by omega,S1.trans S2,B2.mono (by omega)⟩⟩
   ·exact⟨b,_,_,rfl,B1,by omega,by omega,by omega,fun m H2 a0 a1 B2 S2=>⟨m,rfl,a0,by omega,S1.trans S2,B2.mono (by omega)⟩⟩
  rintro σ' H2 ⟨m,rfl,m0,m1,S2,B2⟩;refine⟨_,rfl,_,rfl,le4,fun l1 h1=>⟨_,rfl,b,4,_,rfl,B2.new h1,by omega,by decide,by decide,fun r H3 r0 r1 B3 S3=>?_⟩⟩
  have L3:=S3 l1 _ zc (B2.nne h1);obtain⟨z,ez,z0,z1⟩:=zdK r0 r1;refine⟨l1,_,_,_,rfl,rfl,u7 L3,ez,b,z,_,rfl,B3,by omega,by omega,by omega,fun q H4 q0 q1 B4 S4=>⟨_,_,rfl,rfl,b,1+q,_,rfl,B4,by omega,by omega,by omega,fun ks u H5 S5 B5 nk kN Rk kl=>?_⟩⟩
  have an:=(((S2.new h1).trans S3).trans S4).trans S5;have ek:(u.map V.str).length=u.length:=zo ..;clear S2 S3 S4 S5 B2 B3 B4 L3 h1;refine⟨_,rfl,_,rfl,b,m,_,rfl,B5,by omega,m0,by omega,fun l as H6 S6 B6 nl lN hl pa al ⟨N,av,bg⟩=>?_⟩
  have ac:=Rk.draw S6 nk;refine⟨l,rfl,⟨_,u7 hl⟩,xt (K:=K) (a:=l) (xs:=as.map V.ref) (fun j O H7=>Ex1 fun(I:List w9)=>An6 (Reps K H7 (I.map jX) O) (I.length=j) ((∀q∈I,q.k∈u/\inP q.x q.y)) (SameB b H6 H7) (BoxAt H7 b (n+700+j)) ((I.map fun q=>(q.x,q.y))=N.take j)) ⟨[],rfl,rfl,(fun x h=>nomatch h),uc _ _,B6.mono (by omega),rfl⟩ (fun j O H7 ⟨_,_,_,_,s7,_,_⟩=>u7 (s7 _ _ hl nl)) ?_ ?_⟩
  ·rintro j x O H7 hx ⟨I,rq,ql,qa,S7,B7,qd⟩
   rw[zY] at hx;obtain⟨a,ha,rfl⟩:=z9.mp hx;have hj:=(zK.mp ha).1;have zl:O.length=j:=by rw[rq.len,zo,ql]
   refine⟨rfl,⟨_,rfl,_,rfl,_,rfl,ks,_,rfl,.inl (u7 (ac.draw S7 nk).1),b,_,_,rfl,B7,by omega,by omega,by omega,fun q H8 c0 c1 B8 S8=>?_⟩⟩
   obtain⟨y,ey,my⟩:=zbE (ns:=u) c0 (by omega)
   obtain⟨px,py,ar,b1,b2,b3,b4⟩:=(pa a (qm ha)).draw B6 (S7.trans S8);have aq:j<N.length:=by rw[<- av.1];exact hj
   obtain⟨a',e1,e2⟩:=av.2 j _ (qA aq);rw[ha] at e1;cases e1;have e3:=(S7.trans S8) a _ e2 fun z=>by
    obtain⟨w0,w1,w2,e5,_⟩:=id B6;rw[z,e5] at e2;cases e2
   rw[ar] at e3;cases e3;refine⟨ks,_,_,_,rfl,rfl,u7 (ac.draw (S7.trans S8) nk).1,ey,_,rfl,le2,fun T hT=>⟨by omega,I++[⟨y,N[j].1,N[j].2⟩],?_,by rw[zL,ql];rfl,fun q hq=>?_,(S7.trans S8).new hT,(B8.new hT).mono (by omega),by rw[zF,qd,<- wL aq];rfl⟩⟩
   ·rw[zF]
    have rT:Rep K (upd H8 T (.tup [.str y,.ref a])) (jX ⟨y,N[j].1,N[j].2⟩) (.ref T):=⟨T,_,rfl,u8 zc,_,_,rfl,rfl,_,_,rfl,⟨a,_,rfl,u8 ((ze hT) _ _ ar),_,_,rfl,rfl,_,_,rfl,rfl,rfl⟩,rfl⟩;exact ud rT (Reps.keep ((ub B7 S8).trans (.of (ze hT))) (j4 I) rq)
   ·rcases qO.mp hq with w1 | w1
    ·exact qa q w1
    ·rw[zP.mp w1];exact⟨my,b1,b2,b3,b4⟩
  rintro O H7 ⟨I,rq,ql,qa,S7,B7,qd⟩;rw[zo] at ql qd;have bi:(I.map fun q=>(q.x,q.y)).Nodup:=by rw[qd];exact bg.sublist (WE _ _)
  have B7:BoxAt H7 b (n+800):=B7.mono (by rw[zo];omega)
  have zl:O.length=as.length:=by rw[rq.len,zo,ql]
  refine⟨by omega,fun D hD=>⟨D,O,rfl,.inl ⟨u7 zc,fun ps au=>?_⟩⟩⟩
  have sm:=(ze (o:=.lst O) hD).trans (ze (o:=.tup O) au);have S8:=(an.trans S6).trans (S7.trans (uf (b:=b) sm));have B8:=B7.same sm;have ah:=(ac.draw S7 nk).same sm;have P8:Rep K (upd (upd H7 D (.lst O)) ps (.tup O)) (.tup (I.map jX)) (.ref ps):=⟨ps,_,rfl,u8 zc,Reps.keep (.of sm) (j4 I) rq⟩;generalize upd (upd H7 D (.lst O)) ps (.tup O)=H8 at sm S8 B8 ah P8;clear an S6 S7 B5 B6 B7 Rk ac rq hD au pa hl;refine⟨_,rfl,_,rfl,_,rfl,_,rfl,b,ks,ps,pl,_,u,I,rfl,B8,by omega,nk,ah,by omega,by omega,P8,by omega,fun fp fs es H9 S9 B9 F9 aa ee fl fa=>?_⟩
  have P9:=Rep.keep (d:=.tup (I.map jX)) (ub B8 S9) (j4 I) P8;refine⟨_,rfl,le0,fun t ht=>⟨b,t,_,[],rfl,B9.new ht,by omega,B9.nne ht,zc,qB _,(fun a h=>nomatch h),fun gp bb am af gN ga _=>?_⟩⟩
  obtain⟨gx,gy,be,g1,g2,g3,g4⟩:=ga;refine⟨_,rfl,b,4,_,rfl,af,by omega,by decide,by decide,fun hd bp d0 d1 ag ai=>⟨_,_,rfl,rfl,_,rfl,_,rfl,_,rfl,_,rfl,b,m,_,rfl,ag,by omega,m0,by omega,fun ap ak aw ab aj az ax op bo bd=>⟨leN (by show 5<=1000;decide),fun p hp=>?_⟩⟩⟩
  have t9:SameT H9 ab:=((SameT.of (ze ht)).trans (.draw (B9.new ht) am)).trans ((ub af ai).trans (.draw ag aj));have bm:SameT bb ab:=(ub af ai).trans (.draw ag aj);have up:Same ab (upd ab p (.tup [.ref gp,.int (1+hd),.ref fp,.ref ps,.ref ap])):=ze hp;have b0:=Rep.keep (d:=.tup (fs.map xM)) (t9.trans (.of up)) (va fs) F9;have bc:=Rep.keep (d:=.tup (I.map jX)) (t9.trans (.of up)) (j4 I) P9;have ay:=Rep.keep (d:=wB ak) (.of up) (j5 ak) ax;have ba:=(bm.trans (.of up)) gp _ be (fun xs h=>nomatch h)
  have bj:I.length=m.toNat:=by omega
  have fk:∀kd∈u,∃f∈fs,f.k=kd:=fun kd bf=>by
   have:=aa.mem_iff.mpr (vz es bf);obtain⟨f,hf,e⟩:=zT.mp this;exact⟨f,hf,e⟩
  refine k p ⟨gx,gy,1+hd,fs,I,ak⟩ aw _ (((S8.trans S9).trans ((uf (ze ht)).trans am)).trans ((ai.trans aj).new hp)) ((az.new hp).mono (by omega)) ?_ ?_
  ·exact⟨p,_,rfl,u8 zc,_,_,rfl,⟨gp,_,rfl,u8 ba,_,_,rfl,rfl,_,_,rfl,rfl,rfl⟩,_,_,rfl,rfl,_,_,rfl,b0,_,_,rfl,bc,_,_,rfl,ay,rfl⟩
  ·refine⟨⟨g1,g2,g3,g4⟩,by show 1<=1+hd;omega,by show 1+hd<=4;omega,fl,fa,by show I.length<=60;omega,fun q hq=>?_,by show aw.Perm (List.range I.length);rw[bj];exact op,bo,bd,?_,bi,u,by omega,fun p hp=>(qa p hp).1⟩
   ·obtain⟨hk,hi⟩:=qa q hq
    exact⟨ah.2 q.k hk,hi,fk q.k hk⟩
   ·have:=aa.length_eq
    rw[zo,zL] at this;show 1<=fs.length;omega
theorem ju{α:Type}{l:List α}{i:Nat}{x:α}(h:l[i]? =some x):l.take (i+1)=l.take i++[x]:=by
 obtain⟨g,c⟩:=zK.mp h;rw[<- c,wL]
theorem Same.none{H c:Hp}{t:Addr}(s:Same H c)(h:c t=Option.none):H t=Option.none:=s.free h
def qZ(os:List Nat):List V:=os.map fun i:Nat=>V.int (i:Int)
theorem qL(os:List Nat):(qZ os).length=os.length:=zo ..
def atK(c:List jA)(g:Str)(n:Nat):List Nat:=(List.range n).filter fun i=>decide (c[i]?.map jA.k=some g)
theorem JX(c:List jA)(g:Str)(n:Nat):(atK c g n).length<=n:=zX (Xr _ _) (by rw[qQ];exact zy _)
theorem zep{c:List jA}{g:Str}{n:Nat}{f:jA}(h:c[n]? =some f)(e:f.k=g):atK c g (n+1)=atK c g n++[n]:=by
 unfold atK;rw[Wv,Xk,List.filter_cons_of_pos (by rw[h];exact zW (by show some f.k=_;rw[e]))]
 rfl
theorem zeq{c:List jA}{g:Str}{n:Nat}{f:jA}(h:c[n]? =some f)(e:f.k≠g):atK c g (n+1)=atK c g n:=by
 unfold atK;rw[Wv,Xk,List.filter_cons_of_neg (by rw[h];simpa using e),List.filter_nil,yw]
theorem yL(os:List Nat)(n:Nat):qZ (os++[n])=qZ os++[.int (n:Int)]:=by
 unfold qZ;rw[zF];rfl
def dkC(c g:List Str):List (Key×V):=g.map fun k=>(Sum.inr k,V.int (c.count k))
theorem Y5(g c:List Str):(dkC g c).length=c.length:=zo _
theorem yt(g:List Str)(k:Str):∀c:List Str,z7 (dkC g c) (Sum.inr k)=if k∈c then some (.int (g.count k)) else none
 | []=>by rw[zn (by simp)];rfl
 | m::c=>by
  by_cases h:m=k
  ·subst h
   rw[zr (by simp)]
   exact qJ rfl
  ·have e:z7 (dkC g (m::c)) (Sum.inr k)=z7 (dkC g c) (Sum.inr k):=qK (fun z=>h (J7 z))
   rw[e,yt g k c];have:k∈m::c↔k∈c:=⟨fun z=>(zQ.mp z).resolve_left fun y=>h y.symm,qw _⟩
   by_cases i:k∈c
   ·rw[zr i,zr (this.mpr i)]
   ·rw[zn i,zn fun z=>i (this.mp z)]
theorem Y6{c i:List Str}{k:Str}(h:k∈c->k∈i):(z7 (dkC c i) (Sum.inr k)).getD (.int 0)=.int (c.count k):=by
 rw[yt];by_cases g:k∈i
 ·rw[zr g];rfl
 ·rw[zn g,zdi fun z=>g (h z)];rfl
def XF(c:List Str)(k:Str):List Str:=if k∈c then c else c++[k]
theorem zdm{c:List Str}{k j:Str}:j∈XF c k↔j∈c\/j=k:=by
 unfold XF;by_cases h:k∈c
 ·rw[zr h]
  exact⟨.inl,fun z=>z.elim id fun e=>e▸h⟩
 ·rw[zn h,qO,zP]
theorem zet{g:List Str}{k:Str}(h:g.Nodup):(XF g k).Nodup:=by
 unfold XF;by_cases c:k∈g
 ·rw[zr c];exact h
 ·rw[zn c]
  refine Zi.mpr ⟨h,by simp,fun a i b hb e=>?_⟩
  rw[zP.mp hb] at e;exact c (e▸i)
theorem zdn(c:List Str)(k:Str):(XF c k).length<=c.length+1:=by
 unfold XF;split
 ·omega
 ·rw[zL];exact zy _
theorem zeh{c i:List Str}(k:Str):jB (dkC c i) (Sum.inr k) (.int ((c.count k:Int)+1))=dkC (c++[k]) (XF i k):=by
 unfold XF;have c1:((c++[k]).count k:Int)=(c.count k:Int)+1:=by rw[List.count_append];simp
 have o:∀j,j≠k->(c++[k]).count j=c.count j:=fun j g=>by rw[List.count_append,zdi (l:=[k]) (by simpa using g)];rfl
 by_cases h:k∈i
 ·rw[zr h]
  unfold jB;rw[zr (by rw[xY,yt,zr h];rfl)]
  unfold dkC;rw[jC];refine Qu fun j _=>?_
  show(if(Sum.inr j:Key)=Sum.inr k then((Sum.inr j:Key),V.int ((c.count k:Int)+1)) else(Sum.inr j,V.int (c.count j)))=_
  by_cases e:j=k
  ·subst e
   rw[zr rfl,c1]
  ·rw[zn fun z=>e (J7 z),o j e]
 ·rw[zn h,ZQ _ (by rw[yt,zn h])]
  unfold dkC;rw[zF];congr 1
  ·refine Qu fun j g=>?_
   rw[o j fun e=>h (e▸g)]
  ·show [((Sum.inr k:Key),V.int ((c.count k:Int)+1))]=[((Sum.inr k:Key),V.int ((c++[k]).count k))]
   rw[c1]
theorem Jg(g:List Str):∀(i c:List Str),(c++i).Nodup->jJ (dkC g c) (dkC g i)=dkC g (c++i)
 | [],c,_=>by rw[yw];rfl
 | b::i,c,l=>by
  show jJ (jB (dkC g c) (Sum.inr b) (.int (g.count b))) (dkC g i)=_;have hb:b∉c:=fun z=>(Zi.mp l).2.2 b z b (by simp) rfl
  have e:jB (dkC g c) (Sum.inr b) (.int (g.count b))=dkC g (c++[b]):=by
   rw[ZQ _ (by rw[yt,zn hb])]
   unfold dkC;rw[zF];rfl
  rw[e,Jg g i (c++[b]) (by rw[WB];exact l),WB]
  rfl
def Wtd(H:Hp)(i c:List Str)(g:List V):Prop:=g.length=c.length/\∀(j:Nat) (k:Str),c[j]? =some k->∃T,g[j]? =some (.ref T)/\H T=some (.tup [.str k,.int (i.count k)])
theorem Wtd.same{H c:Hp}{g i:List Str}{l:List V}(h:Wtd H g i l)(s:Same H c):Wtd c g i l:=⟨h.1,fun j k e=>let ⟨T,a,b⟩:=h.2 j k e;⟨T,a,s _ _ b⟩⟩
theorem Wtd.prs{H:Hp}{g c:List Str}{l:List V}(h:Wtd H g c l):PrsL H l (dkC g c):=by
 refine⟨by rw[h.1,Y5],fun j x e=>?_⟩
 have o:=(zK.mp e).1;have i:c[j]? =some (c[j]'(by rw[<- h.1];exact o)):=qA _
 obtain⟨T,e1,e2⟩:=h.2 j _ i;rw[e] at e1;cases e1;refine⟨T,Sum.inr _,_,rfl,e2,?_⟩
 unfold dkC;rw[zY,i];rfl
def wtD(c:List Str)(k:Str):Dat:=.tup [.str k,.int (c.count k)]
theorem Wtd.reps{K:W.Frag}{H:Hp}{i:List Str}:∀{g:List Str} {c:List V},Wtd H i g c->Reps K H (g.map (wtD i)) c
 | [],c,h=>by
  have:c=[]:=List.length_eq_zero_iff.mp h.1;rw[this];exact rfl
 | m::g,c,h=>by
  cases c with
  | nil=>have:=h.1;simp at this
  | cons z c=>
   obtain⟨T,e1,e2⟩:=h.2 0 m rfl;cases e1;exact⟨_,_,rfl,⟨T,_,rfl,u8 e2,_,_,rfl,rfl,_,_,rfl,rfl,rfl⟩,Wtd.reps ⟨by have:=h.1;simpa using this,fun j k e=>h.2 (j+1) k e⟩⟩
def zV(J:Job):List Str:=J.ps.map w9.k
def ZG(J:Job):Bool:=J.fs.all fun f=>decide (((zV J).count f.k:Int)<=f.m)
theorem vc{H:Hp}{p:jA}{x:V}(h:Rep K H (xM p) x):∃a c,x=.ref a/\SqT K H a [.str p.k,.ref c,.int p.m]/\Rep K H (.tup [.int p.x,.int p.y]) (.ref c):=by
 obtain⟨a,N,rfl,q,E,L,g,t,O,M,i,u,I,D,l,A,o⟩:=h;subst g i l;cases(show D=[] from o)
 cases(show E=_ from t)
 cases(show I=_ from A)
 obtain⟨c,J,rfl,B,s⟩:=u;exact⟨a,c,rfl,q,c,J,rfl,B,s⟩
theorem zaK{H:Hp}{p:w9}{x:V}(h:Rep K H (jX p) x):∃a c,x=.ref a/\SqT K H a [.str p.k,.ref c]:=by
 obtain⟨a,E,rfl,q,A,D,g,o,I,u,i,t,l⟩:=h;subst g i;cases(show u=[] from l)
 cases(show A=_ from o)
 obtain⟨c,J,rfl,B,s⟩:=t;exact⟨a,c,rfl,q⟩
theorem jc{H:Hp}{J:Job}{u:Addr}(h:Rep K H (wC J) (.ref u)):∃(g i l c:Addr) (t pv:List V),SqT K H u [.ref g,.int J.hd,.ref i,.ref l,.ref c]/\Rep K H (.tup [.int J.gx,.int J.gy]) (.ref g)/\SqT K H i t/\Reps K H (J.fs.map xM) t/\SqT K H l pv/\Reps K H (J.ps.map jX) pv/\Rep K H (wB J.as) (.ref c):=by
 obtain⟨a,xs,e,q,x0,r0,D,Y,x1,r1,e1,h1,x2,r2,e2,h2,x3,r3,E,h3,x4,r4,I,h4,L⟩:=h;cases e;subst D e1 e2 E I;have o:r4=[]:=L;subst o;have s:x1=.int J.hd:=h1;subst s;obtain⟨g,U,rfl,Q⟩:=Y;obtain⟨i,O,rfl,M,N⟩:=h2;obtain⟨l,px,rfl,pq,pr⟩:=h3;obtain⟨c,B,rfl,A⟩:=h4;exact⟨g,i,l,c,O,px,q,⟨g,U,rfl,Q⟩,M,N,pq,pr,⟨c,B,rfl,A⟩⟩
inductive XT(K:W.Frag)(o:List V)(H:Hp)(Q:VK):Prop
 | mk (i:Addr) (J:Job) (_:o=[.ref i]) (_:Rep K H (wC J) (.ref i)) (_:J.ps.length<=60) (_:∀(l:Addr) (c:List Str) (s:List V) g,H l=none->Same H g->g l=some (.lst s)->(c.Pairwise fun a b=>ltS a b=true)->(∀j,j∈c↔j∈zV J)->c.Nodup->c.length<=60->Wtd g (zV J) c s->Q (.ref l) g):XT K o H Q
def VX(K:W.Frag):Sp:=fun c H Q _=>XT K c H Q
theorem zbS:zB ["job","counts","part"] ["job"] (zv (topL 33)):=u4
theorem zau{c g:List Str}{l:List (Str×Int)}(h:l.Perm (g.map fun k=>(k,(c.count k:Int)))):∃i:List Str,i.Perm g/\l=i.map fun k=>(k,(c.count k:Int)):=jO h rfl
def zag(l:_)(d:_)(H:_)(J:_):=fun(i:Nat) (σ:St) (g:Hp)=>(Ex2 fun(o:Option V) (c:List Str)=>An6 (σ=[some (.ref l),some (.ref d),o]) (Same H g) (g d=some (.dK (dkC ((zV J).take i) c))) (c.Nodup) ((∀j,j∈c↔j∈(zV J).take i)) (c.length<=i):Prop)
theorem zdS{f:Addr}{fd:FuncData}(F:Fun K "wanted_of" "wanted_of" (topL 33) f fd)(B:Blt G):FnOk P w K G C CX0 1 f fd ["job"] (VX K):=by
 have nd:=zbS.nd;refine F.ok zbS (fun vs H Q E h=>?_) (fun ae A a0 s H vs Q E hr h=>?_)
 ·obtain⟨jp,J,rfl,_⟩:=h
  rfl
 ·obtain⟨jp,J,rfl,rj,pl,k⟩:=h
  have I:=yp hr;have ac:=bG100000;obtain⟨g,fs,ps,as,fv,ab,qj,_,qf,rf,qp,rp,_⟩:=jc rj;have lp:=rp.len;rw[zo] at lp;refine⟨_,(zg (zx (i:=1) nd rfl (Or.inl rfl) Ve)
   (zg (jh jR rfl (xj (zH qH (pv 0) zi (fun _ _=>rfl))) (zD (i:=2) nd rfl (Or.inl rfl))
   (zj (YO I (pv 1) (zH qH (pv 2) zi (fun _ _=>rfl)) (zC qr (yh I (pv 1) (zH qH (pv 2) zi (fun _ _=>rfl)) zi ⟨rfl,rfl,rfl,rfl⟩) zi) rfl)))
   (zj (zw (zq (QI hr.hd) rfl B.sorted xg (za (zfH WW PySem.F.slot_dict_items PySem.F.type_dict_items zcy (pv 1)) zb)))))),?_⟩
  refine fun d N=>⟨_,rfl,jp,_,_,_,rfl,rfl,(ze N).sqT qj,rfl,ps,rfl,⟨_,(ze N).sqT qp⟩,JQ (K:=K) (a:=ps) (xs:=ab) (zag jp d H J)
   ⟨_,[],rfl,ze N,zc,by simp,fun j=>by simp,qB _⟩ (fun i σ M _ ⟨_,_,_,s1,_,_,_,_⟩=>s1.sqT qp) ?_ ?_⟩
  ·rintro i x σ M hx ⟨v2,U,rfl,s1,t,O,L,ml⟩
   obtain⟨dd,e1,r1⟩:=(rp.same s1).get hx;rw[zY] at e1;obtain⟨Y,D,rfl⟩:=z9.mp e1;have hi:=(zK.mp D).1;obtain⟨a,c,rfl,qa⟩:=zaK r1;have ek:(zV J)[i]? =some Y.k:=by unfold zV;rw[zY,D];rfl
   refine⟨_,rfl,d,rfl,.inl ⟨_,.inl t⟩,_,rfl,a,_,_,_,rfl,rfl,qa,rfl,_,DGet.k (k:=Sum.inr Y.k) t,?_⟩
   rw[Y6 fun z=>(L _).mpr z]
   refine⟨_,_,rfl,rfl,_,rfl,_,rfl,a,_,_,_,rfl,rfl,qa,rfl,d,_,rfl,DPut.k (k:=Sum.inr Y.k) t (by rw[Y5];omega),?_⟩
   rw[zeh];refine⟨_,XF U Y.k,rfl,fun c o z=>by rw[zk (zm z N)];exact s1 _ _ z,by rw[zc,ju ek],zet O,fun j=>?_,zX (zdn _ _) (by omega)⟩
   rw[zdm,L j,ju ek,qO,zP]
  ·rintro σ M ⟨v2,U,rfl,s1,t,O,L,ml⟩
   have lk:(zV J).length=J.ps.length:=zo _;rw[lp,<- lk,jS] at t L;refine⟨_,rfl,.inr (.inr (.inl ⟨rfl,.inl ⟨_,t⟩⟩)),d,_,rfl,rfl,t,fun p hp=>?_⟩
   have D2:=(ze (o:=yb p d) hp) _ _ t;have V2:upd M p (yb p d) p=some (yb p d):=zc;have s2:=s1.trans (ze (o:=yb p d) hp);generalize upd M p (yb p d)=H2 at D2 V2 s2;refine⟨p,d,U.map fun k=>(k,((zV J).count k:Int)),rfl,V2,by rw[jC];exact D2,by rw[jC];show(U.map id).Nodup;rw[List.map_id];exact O,by rw[zo];omega,fun l qs zs H3 s3 hl L3 pm pw zl zt=>?_⟩
   obtain⟨u,np,rfl⟩:=zau pm;rw[jC] at pw;have aa:u.Pairwise fun a b=>ltS a b=true:=by
    have e:u.map ((fun x:Str×Int=>x.1)∘fun k=>(k,((zV J).count k:Int)))=u:=by
     show u.map id=u;rw[List.map_id]
    rwa[e] at pw
   refine k l u zs H3 (s2.none hl) (s2.trans s3) L3 aa (fun j=>(np.mem_iff).trans (L j)) (np.nodup_iff.mpr O) (by have:=np.length_eq;omega) ⟨by rw[zl,zo],fun j kk e=>?_⟩
   obtain⟨T,e1,e2,e3⟩:=zt j (kk,((zV J).count kk:Int)) (by rw[zY,e];rfl)
   exact⟨T,e1,e3⟩
def plD(p:Int×Int):Dat:=.tup [.int p.1,.int p.2]
theorem YQ{H:Hp}{p:Int×Int}{x:V}(h:Rep K H (plD p) x):∃a,x=.ref a/\SqT K H a [.int p.1,.int p.2]:=by
 obtain⟨u,E,rfl,c,A,D,i,s,B,g,l,t,o⟩:=h;subst i l;cases(show g=[] from o)
 cases(show A=_ from s)
 cases(show B=_ from t)
 exact⟨u,rfl,c⟩
inductive X0(c:List V)(H:Hp)(Q:VK):Prop
 | mk (i:Int) (_:c=[.int i]) (_:Q (.bl true) H):X0  c H Q
def zbG:Sp:=fun c H Q _=>X0  c H Q
theorem zeN:zB ["thing"] ["thing"] (zv (topL 4)):=u4
theorem zfS{f:Addr}{g:FuncData}(F:Fun K "is_number" "is_number" (topL 4) f g)(B:Blt G):FnOk P w K G C CX0 1 f g ["thing"] zbG:=by
 have u:=zeN.nd;refine F.ok zeN (fun o H Q E h=>?_) (fun l A c s H o Q E t h=>?_)
 ·obtain⟨i,rfl,_⟩:=h
  rfl
 ·obtain⟨i,rfl,k⟩:=h
  refine⟨_,(zj (zw (xC (zq xf rfl B.isinstance boot_isinstance (za (pv 0) (za (xK (v:=.ty "int") rfl B.int Qd rfl) zb))) (xU (zfE (zq xf rfl B.isinstance boot_isinstance (za (pv 0) (za (xK (v:=.ty "bool") rfl B.bool zbi rfl) zb)))))))),?_⟩
  exact⟨_,rfl,_, "int", "int",rfl,rfl,(by decide),_,rfl,ifT (by decide) ⟨_,rfl,_, "int", "bool",rfl,rfl,(by decide),_,rfl,k⟩⟩
inductive XS(g:List V)(H:Hp)(Q:VK):Prop
 | mk (i lo c:Int) (_:g=[.int i,.int lo,.int c]) (_:lo<=i) (_:i<=c) (_:Q (.bl true) H):XS  g H Q
def ZH:Sp:=fun c H Q _=>XS  c H Q
theorem zeJ:zB ["thing","least","most"] ["thing","least","most"] (zv (topL 5)):=u4
theorem zfM{f:Addr}{l:FuncData}(F:Fun K "is_number_within" "is_number_within" (topL 5) f l)(B:Blt G)(c:Dfn P w K G C "is_number" 1 ["thing"] zbG):FnOk P w K G C CX0 2 f l ["thing","least","most"] ZH:=by
 have L:=zeJ.nd;refine F.ok zeJ (fun J H Q E h=>?_) (fun o A g s H J Q E I h=>?_)
 ·obtain⟨i,lo,D,rfl,_⟩:=h
  rfl
 ·obtain⟨i,lo,D,rfl,t,u,k⟩:=h
  refine⟨_,(zj (zw (xC (zf c I.m rfl (za (pv 0) zb)) (xU (zce Vg Vg (pv 1) (pv 0) (pv 2)))))),?_⟩
  refine⟨_,rfl,i,rfl,_,rfl,ifT rfl ⟨_,rfl,_,rfl,_,_,rfl,rfl,_,rfl,ifT (zW t) ⟨_,rfl,_,_,rfl,rfl,?_⟩⟩⟩
  rw[zW u];exact k
inductive Yp(g:List V)(H:Hp)(Q:VK):Prop
 | mk (x:Str) (_:g=[.str x]) (_:Nm x) (_:∀c,Same H c->Q (.bl true) c):Yp  g H Q
def zeC:Sp:=fun c H Q _=>Yp  c H Q
theorem zgH:zB ["thing"] ["thing"] (zv (topL 6)):=u4
theorem zf0(c:Nat):(!(Builtin.Str.occurrences zaF ⟨#[c]⟩ 0 zaF.length 1).isEmpty)=Zv c:=by
 rw[StrLaws.found_one,Vn,vU];unfold Zv;rw[vX,List.mem_range'_1,jx,vX,vX];omega
theorem V0{x:Str}{i c:Nat}(h:x.cps[i]? =some c)(f:Nat->V):(x.cps.toList.take i).map f++[f c]=(x.cps.toList.take (i+1)).map f:=by
 rw[ju (show x.cps.toList[i]? =some c by simpa using h),zF]
 rfl
theorem zg3{f:Addr}{L:FuncData}{Y tn:Tok}(F:Fun K "is_name" "is_name" (topL 6) f L)(B:Blt G)(l:G "LETTERS" = some (.str zaF Y))(g:G "LONGEST_NAME" = some (.int 8 tn)):FnOk P w K G C CX0 1 f L ["thing"] zeC:=by
 have nd:=zgH.nd;refine F.ok zgH (fun vs H Q E h=>?_) (fun N A u s H vs Q E hr h=>?_)
 ·obtain⟨x,rfl,_⟩:=h
  rfl
 ·obtain⟨x,rfl,⟨h8,_,h1,t⟩,k⟩:=h
  have M:=bG100000;have U:x.length<=sizeLine:=by omega
  have lx:x.cps.toList.length=x.length:=by simp[Str.length]
  refine⟨_,(zg (qM (PW.pt (vw (qX (qS (zq xf rfl B.isinstance boot_isinstance (za (pv 0) (za (xK (v:=.ty "str") rfl B.str zcY rfl) zb))))) (xS (qX (zb6 Vg Vg zi (zq JW rfl B.len boot_len (za (pv 0) zb)) (xJ (v:=.int 8) rfl g ⟨_,rfl⟩))))))
   (zj (zw ji))
   zR)
   (zj (zw (zq (jL rfl) rfl B.all boot_all (za (jg [] [] rfl rfl (by kernel_rfl) (zfB (pv 0)) (fun _ _ _ _=>qT) (fun _ _ _ _=>(qR zaO (pv 0) (xJ (v:=.str zaF) rfl l ⟨_,rfl⟩) (by with_unfolding_all rfl)))) zb))))),?_⟩
  refine⟨_,rfl,_, "str", "str",rfl,rfl,(by decide),_,rfl,ifF (by decide) ⟨_,rfl,x,rfl,U,_,_,rfl,rfl,_,rfl,ifT (zW (by omega)) ⟨_,_,rfl,rfl,_,rfl,?_⟩⟩⟩
  refine ifF (by rw[zW (by omega:(x.length:Int)<=8)];decide) ?_
  refine⟨_,rfl,x,rfl,zf2 (fun i J o=>J=(x.cps.toList.take i).map (fun c=>V.bl (Zv c))/\Same H o) ⟨rfl,ua _⟩ ?_ ?_⟩
  ·rintro i c J o hc ⟨rfl,I⟩
   refine⟨rfl,⟨_,rfl,_,_,rfl,rfl,?_,?_,I⟩⟩
   ·rw[zo,qD];omega
   ·rw[zf0,<- V0 hc]
  ·rintro J o ⟨rfl,I⟩
   rw[Qv (show x.cps.toList.length<=x.cps.size by simp)]
   refine⟨by rw[zo];omega,fun D O=>⟨D,x.cps.toList.map Zv,rfl,u7 (by rw[zc,jC];rfl),?_⟩⟩
   rw[t];exact k _ (I.trans (ze O))
inductive XY(K:W.Frag)(g:List V)(H:Hp)(Q:VK):Prop
 | mk (v:V) (x y:Int) (_:g=[v]) (_:Rep K H (.tup [.int x,.int y]) v) (_:inP x y) (_:∀c,Same H c->Q (.bl true) c):XY K g H Q
def Jt(K:W.Frag):Sp:=fun c H Q _=>XY K c H Q
theorem zeM:zB ["thing"] ["thing"] (zv (topL 7)):=u4
theorem zfO{f:Addr}{M:FuncData}{tf:Tok}(F:Fun K "is_place" "is_place" (topL 7) f M)(B:Blt G)(c:Dfn P w K G C "is_number_within" 2 ["thing","least","most"] ZH)(g:G "FARTHEST" = some (.int 1000 tf)):FnOk P w K G C CX0 3 f M ["thing"] (Jt K):=by
 have nd:=zeM.nd;refine F.ok zeM (fun vs H Q E h=>?_) (fun O A L s H vs Q E Y h=>?_)
 ·obtain⟨v,x,y,rfl,_⟩:=h
  rfl
 ·obtain⟨v,x,y,rfl,rp,⟨x0,x1,y0,y1⟩,k⟩:=h
  have N:=bG100000;obtain⟨a,rfl,t⟩:=YQ (p:=(x,y)) rp;refine⟨_,(zg (qM (PW.pt (vw (qX (qS (zq xf rfl B.isinstance boot_isinstance (za (pv 0) (za (xK (v:=.ty "tuple") rfl B.tuple qY rfl) zb))))) (xS (zO Ja (zq zu rfl B.len boot_len (za (pv 0) zb)) zi (zJ _)))))
   (zj (zw ji))
   zR)
   (zj (zw (zq (jL rfl) rfl B.all boot_all (za (jg [] [] rfl rfl (by kernel_rfl) (xj (pv 0)) (fun _ _ _ _=>qT) (fun _ _ _ _=>(zf c Y.m rfl (za (pv 0) (za zi (za (xJ (v:=.int 1000) rfl g ⟨_,rfl⟩) zb)))))) zb))))),?_⟩
  refine⟨_,rfl,_, "tuple", "tuple",rfl,.inr ⟨rfl,_,t⟩,(by decide),_,rfl,ifF (by decide) ⟨_,rfl,a,_,rfl,.inr t,rfl,_,rfl,ifF rfl ?_⟩⟩
  refine⟨_,rfl,a,rfl,⟨_,t⟩,xX (K:=K) (xs:=[.int x,.int y]) (fun i u o=>u=List.replicate i (V.bl true)/\Same H o) ⟨rfl,ua _⟩ (fun i u o ⟨_,l⟩=>l.sqT t) ?_ ?_⟩
  ·rintro i z u o J ⟨rfl,l⟩
   have I:=(zK.mp J).1;have I:i<2:=I;obtain⟨n,rfl,n0,n1⟩:∃n:Int,z=.int n/\0<=n/\n<=1000:=by
    match i,I with
    | 0,_=>cases J;exact⟨x,rfl,x0,x1⟩
    | 1,_=>cases J;exact⟨y,rfl,y0,y1⟩
   exact⟨rfl,⟨_,rfl,n,0,1000,rfl,n0,n1,by rw[xQ];omega,by rw[y9],l⟩⟩
  ·rintro u o ⟨rfl,l⟩
   exact⟨by rw[xQ];show 2<=_;omega,fun D U=>⟨D,[true,true],rfl,u7 zc,k _ (l.trans (ze U))⟩⟩
inductive Yj(K:W.Frag)(c:List V)(H:Hp)(Q:VK):Prop
 | mk (a:Addr) (g:List V) (n:Nat) (_:c=[.ref a,.int (n:Int)]) (_:SqT K H a g) (_:g.length=n) (_:Q (.bl true) H):Yj K c H Q
def XU(K:W.Frag):Sp:=fun c H Q _=>Yj K c H Q
theorem zgF:zB ["thing","many"] ["thing","many"] (zv (topL 14)):=u4
theorem zg1{f:Addr}{g:FuncData}(F:Fun K "is_tuple_of" "is_tuple_of" (topL 14) f g)(B:Blt G):FnOk P w K G C CX0 1 f g ["thing","many"] (XU K):=by
 have D:=zgF.nd;refine F.ok zgF (fun t H Q E h=>?_) (fun o A c s H t Q E u h=>?_)
 ·obtain⟨a,l,n,rfl,_⟩:=h
  rfl
 ·obtain⟨a,l,n,rfl,i,ln,k⟩:=h
  refine⟨_,(zj (zw (xC (zq xf rfl B.isinstance boot_isinstance (za (pv 0) (za (xK (v:=.ty "tuple") rfl B.tuple qY rfl) zb))) (xU (qR yj (zq zu rfl B.len boot_len (za (pv 0) zb)) (pv 1) (zJ _)))))),?_⟩
  refine⟨_,rfl,_, "tuple", "tuple",rfl,.inr ⟨rfl,_,i⟩,(by decide),_,rfl,ifT (by decide) ⟨_,rfl,a,l,rfl,.inr i,_,rfl,?_⟩⟩
  refine⟨rfl,?_⟩
  rw[ln];exact(zW (rfl:V.int (n:Int)=V.int (n:Int))).symm▸k
inductive Yh(K:W.Frag)(c:List V)(H:Hp)(Q:VK):Prop
 | mk (a:Addr) (g:List V) (m:Int) (_:c=[.ref a,.int m]) (_:SqT K H a g) (_:(g.length:Int)<=m) (_:Q (.bl true) H):Yh K c H Q
def Yi(K:W.Frag):Sp:=fun c H Q _=>Yh K c H Q
theorem zgE:zB ["thing","most"] ["thing","most"] (zv (topL 15)):=u4
theorem zgZ{f:Addr}{g:FuncData}(F:Fun K "is_tuple_upto" "is_tuple_upto" (topL 15) f g)(B:Blt G):FnOk P w K G C CX0 1 f g ["thing","most"] (Yi K):=by
 have D:=zgE.nd;refine F.ok zgE (fun t H Q E h=>?_) (fun o A c s H t Q E u h=>?_)
 ·obtain⟨a,l,n,rfl,_⟩:=h
  rfl
 ·obtain⟨a,l,n,rfl,i,ln,k⟩:=h
  refine⟨_,(zj (zw (xC (zq xf rfl B.isinstance boot_isinstance (za (pv 0) (za (xK (v:=.ty "tuple") rfl B.tuple qY rfl) zb))) (xU (qR Vg (zq zu rfl B.len boot_len (za (pv 0) zb)) (pv 1) (zJ _)))))),?_⟩
  refine⟨_,rfl,_, "tuple", "tuple",rfl,.inr ⟨rfl,_,i⟩,(by decide),_,rfl,ifT (by decide) ⟨_,rfl,a,l,rfl,.inr i,_,rfl,_,_,rfl,rfl,?_⟩⟩
  rw[zW ln];exact k
theorem YR{H:Hp}{p:w9}{x:V}(h:Rep K H (jX p) x):∃a c,x=.ref a/\SqT K H a [.str p.k,.ref c]/\Rep K H (plD (p.x,p.y)) (.ref c):=by
 obtain⟨a,I,rfl,q,B,E,g,o,J,A,i,t,l⟩:=h;subst g i;cases(show A=[] from l)
 cases(show B=_ from o)
 obtain⟨c,D,rfl,u,s⟩:=t;exact⟨a,c,rfl,q,c,D,rfl,u,s⟩
def okF(f:jA):Prop:=Nm f.k/\inP f.x f.y/\0<=f.m/\f.m<=400
inductive zbL(K:W.Frag)(g:List V)(H:Hp)(Q:VK):Prop
 | mk (v:V) (p:jA) (_:g=[v]) (_:Rep K H (xM p) v) (_:okF p) (_:∀c,Same H c->Q (.bl true) c):zbL K g H Q
def zgz(K:W.Frag):Sp:=fun c H Q _=>zbL K c H Q
theorem zgI:zB ["thing","kind","place","many"] ["thing"] (zv (topL 16)):=u4
theorem zg4{f:Addr}{L:FuncData}{tf:Tok}(F:Fun K "is_feeder" "is_feeder" (topL 16) f L)(B:Blt G)(o:Dfn P w K G C "is_tuple_of" 1 ["thing","many"] (XU K))(u:Dfn P w K G C "is_name" 1 ["thing"] zeC)(t:Dfn P w K G C "is_place" 3 ["thing"] (Jt K))(g:Dfn P w K G C "is_number_within" 2 ["thing","least","most"] ZH)(l:G "MOST_IN_FEEDER" = some (.int 400 tf)):FnOk P w K G C CX0 4 f L ["thing"] (zgz K):=by
 have I:=zgI.nd;refine F.ok zgI (fun vs H Q E h=>?_) (fun N A J s H vs Q E D h=>?_)
 ·obtain⟨v,p,rfl,_⟩:=h
  rfl
 ·obtain⟨v,p,rfl,rp,⟨Y,np,O,U⟩,k⟩:=h
  obtain⟨a,c,rfl,M,rc⟩:=vc rp;refine⟨_,(zg (qM (qX (qS (zf o D.m rfl (za (pv 0) (za zi zb)))))
   (zj (zw ji))
   zR)
   (zg (wQ (pv 0) (xA rfl (zE (zD (i:=1) I rfl (Or.inl rfl)) (zE (zD (i:=2) I rfl (Or.inl rfl)) (zE (zD (i:=3) I rfl (Or.inl rfl)) jM)))))
   (zj (zw (xC (zf u D.m rfl (za (pv 1) zb)) (xC (zf t D.m rfl (za (pv 2) zb)) (xU (zf g D.m rfl (za (pv 3) (za zi (za (xJ (v:=.int 400) rfl l ⟨_,rfl⟩) zb))))))))))),?_⟩
  refine⟨_,rfl,a,_,3,rfl,M,rfl,_,rfl,ifF rfl ⟨_,rfl,a,_,rfl,M,rfl,_,_,rfl,_,_,rfl,_,_,rfl,rfl,?_⟩⟩
  refine⟨_,rfl,p.k,rfl,Y,fun H1 s1=>⟨_,rfl,ifT rfl ?_⟩⟩
  refine⟨_,rfl,.ref c,p.x,p.y,rfl,rc.same s1,np,fun H2 s2=>⟨_,rfl,ifT rfl ?_⟩⟩
  exact⟨_,rfl,p.m,0,400,rfl,O,U,k _ (s1.trans s2)⟩
inductive Yv(K:W.Frag)(l:List V)(H:Hp)(Q:VK):Prop
 | mk (a:Addr) (i:List V) (c:List jA) (_:l=[.ref a]) (_:SqT K H a i) (_:Reps K H (c.map xM) i) (_:c.length<=20) (_:(∀p∈c,okF p)) (_:∀g,Same H g->Q (.bl true) g):Yv K l H Q
def zeF(K:W.Frag):Sp:=fun c H Q _=>Yv K c H Q
theorem zeS:zB ["thing"] ["thing"] (zv (topL 17)):=u4
theorem zfU{f:Addr}{N:FuncData}{tf:Tok}(F:Fun K "are_feeders" "are_feeders" (topL 17) f N)(B:Blt G)(c:Dfn P w K G C "is_tuple_upto" 1 ["thing","most"] (Yi K))(l:Dfn P w K G C "is_feeder" 4 ["thing"] (zgz K))(g:G "MOST_FEEDERS" = some (.int 20 tf)):FnOk P w K G C CX0 5 f N ["thing"] (zeF K):=by
 have nd:=zeS.nd;refine F.ok zeS (fun vs H Q E h=>?_) (fun a0 A J s H vs Q E U h=>?_)
 ·obtain⟨a,u,fs,rfl,_⟩:=h
  rfl
 ·obtain⟨a,u,fs,rfl,L,Y,fl,ok,k⟩:=h
  have O:=bG100000;have ln:=Y.len;rw[zo] at ln;refine⟨_,(zj (zw (xC (zf c U.m rfl (za (pv 0) (za (xJ (v:=.int 20) rfl g ⟨_,rfl⟩) zb))) (xU (zq (jL rfl) rfl B.all boot_all (za (jg [] [] rfl rfl (by kernel_rfl) (xj (pv 0)) (fun _ _ _ _=>qT) (fun _ _ _ _=>(zf l U.m rfl (za (pv 0) zb)))) zb)))))),?_⟩
  refine⟨_,rfl,a,u,20,rfl,L,by omega,_,rfl,ifT rfl ?_⟩
  refine⟨_,rfl,a,rfl,⟨_,L⟩,xX (K:=K) (xs:=u) (fun i I t=>I=(List.replicate i true).map V.bl/\Same H t) ⟨rfl,ua _⟩ (fun i I t ⟨_,o⟩=>o.sqT L) ?_ ?_⟩
  ·rintro i z I t hz ⟨rfl,o⟩
   obtain⟨dd,e1,r1⟩:=(Y.same o).get hz;rw[zY] at e1;obtain⟨p,M,rfl⟩:=z9.mp e1;have hi:=(zK.mp M).1;exact⟨rfl,⟨_,rfl,z,p,rfl,r1,ok p (qm M),fun H4 s4=>⟨by rw[zo,xQ];omega,by rw[y9,zF];rfl,o.trans s4⟩⟩⟩
  ·rintro I t ⟨rfl,o⟩
   refine⟨by rw[zo,xQ];omega,fun D hD=>⟨D,_,rfl,u7 zc,?_⟩⟩
   rw[show(List.replicate u.length true).all id=true by simp]
   exact k _ (o.trans (ze hD))
inductive Yn(K:W.Frag)(l:List V)(H:Hp)(Q:VK):Prop
 | mk (v:V) (g:Addr) (p:w9) (i:List Str) (_:l=[v,.ref g]) (_:Rep K H (jX p) v) (_:SqL K H g (i.map V.str)) (_:p.k∈i) (_:inP p.x p.y) (_:∀c,Same H c->Q (.bl true) c):Yn K l H Q
def zeA(K:W.Frag):Sp:=fun c H Q _=>Yn K c H Q
theorem zeK:zB ["thing","kinds","kind","place"] ["thing","kinds"] (zv (topL 18)):=u4
theorem Y0(t:Str):∀l:List Str,inV (.str t) (l.map V.str)=decide (t∈l)
 | []=>by simp[inV]
 | x::l=>by
  have:=Y0 t l;unfold inV at this ⊢;rw[jn,wG,this];by_cases e:t=x
  ·subst e
   simp[eqV]
  ·have c:¬x=t:=fun z=>e z.symm
   simp[eqV,e,c]
theorem VW(l:List Str):(l.map V.str).all x9=true:=j3.mpr fun z c=>by
 obtain⟨k,_,rfl⟩:=zT.mp c;rfl
theorem zg2{f:Addr}{t:FuncData}(F:Fun K "is_part" "is_part" (topL 18) f t)(B:Blt G)(g:Dfn P w K G C "is_tuple_of" 1 ["thing","many"] (XU K))(l:Dfn P w K G C "is_place" 3 ["thing"] (Jt K)):FnOk P w K G C CX0 4 f t ["thing","kinds"] (zeA K):=by
 have I:=zeK.nd;refine F.ok zeK (fun vs H Q E h=>?_) (fun L A o s H vs Q E u h=>?_)
 ·obtain⟨v,D,p,M,rfl,_⟩:=h
  rfl
 ·obtain⟨v,D,p,M,rfl,Y,O,mk,N,k⟩:=h
  obtain⟨a,c,rfl,J,U⟩:=YR Y;refine⟨_,(zg (qM (qX (qS (zf g u.m rfl (za (pv 0) (za zi zb)))))
   (zj (zw ji))
   zR)
   (zg (wQ (pv 0) (xA rfl (zE (zD (i:=2) I rfl (Or.inl rfl)) (zE (zD (i:=3) I rfl (Or.inl rfl)) jM))))
   (zj (zw (xC (qR Jb (pv 2) (pv 1) (by with_unfolding_all rfl)) (xU (zf l u.m rfl (za (pv 3) zb)))))))),?_⟩
  refine⟨_,rfl,a,_,2,rfl,J,rfl,_,rfl,ifF rfl ⟨_,rfl,a,_,rfl,J,rfl,_,_,rfl,_,_,rfl,rfl,?_⟩⟩
  refine⟨_,rfl,_,rfl,D,_,rfl,.inl O,rfl,VW _,_,rfl,?_⟩
  rw[Y0,zW mk];exact ifT rfl ⟨_,rfl,.ref c,p.x,p.y,rfl,U,N,k⟩
def V8(p:w9):List Key:=[Sum.inl p.x,Sum.inl p.y]
inductive Yo(K:W.Frag)(s:List V)(H:Hp)(Q:VK):Prop
 | mk (a b:Addr) (c o:List V) (g:List w9) (i:List jA) (_:s=[.ref a,.ref b]) (_:SqT K H a c) (_:Reps K H (g.map jX) c) (_:SqT K H b o) (_:Reps K H (i.map xM) o) (_:i.length<=100) (_:g.length<=60) (_:(∀p∈g,inP p.x p.y/\∃f∈i,f.k=p.k)) (_:(g.map fun p=>(p.x,p.y)).Nodup) (_:∀l,Same H l->Q (.bl true) l):Yo K s H Q
def zeB(K:W.Frag):Sp:=fun c H Q _=>Yo K c H Q
theorem zeL:zB ["thing","feeders","kinds"] ["thing","feeders"] (zv (topL 19)):=u4
theorem zfN{f:Addr}{fd:FuncData}{tf:Tok}(F:Fun K "are_parts" "are_parts" (topL 19) f fd)(B:Blt G)(g:Dfn P w K G C "is_tuple_upto" 1 ["thing","most"] (Yi K))(J:Dfn P w K G C "is_part" 4 ["thing","kinds"] (zeA K))(l:G "MOST_PARTS" = some (.int 60 tf)):FnOk P w K G C CX0 5 f fd ["thing","feeders"] (zeB K):=by
 have nd:=zeL.nd;refine F.ok zeL (fun vs H Q E h=>?_) (fun ag A ae s H vs Q E hr h=>?_)
 ·obtain⟨a,b,t,fv,ps,U,rfl,_⟩:=h
  rfl
 ·obtain⟨a,b,t,fv,ps,U,rfl,qa,rp,qb,rf,fl,pl,ok,pd,k⟩:=h
  have af:=bG100000;have ac:=yp hr;have ln:=rp.len;have lf:=rf.len;rw[zo] at ln lf;refine⟨_,(zg (zx (i:=2) nd rfl (Or.inr rfl) (jg [] [] rfl rfl (by kernel_rfl) (xj (pv 1)) (fun _ _ _ _=>qT) (fun _ _ _ _=>(zH (xL (K:=K) rfl) (pv 0) zi (fun _ _=>rfl)))))
   (zg (qM (PW.pt (vw (qX (qS (zf g hr.m rfl (za (pv 0) (za (xJ (v:=.int 60) rfl l ⟨_,rfl⟩) zb))))) (xS (qX (qS (zq (jL rfl) rfl B.all boot_all (za (jg ["kinds"] [2] rfl rfl (by kernel_rfl) (xj (pv 0)) (fun _ _ _ _=>qT) (fun _ _ _ _=>(zf J hr.m rfl (za (pv 0) (za (pv 1) zb))))) zb)))))))
   (zj (zw ji))
   zR)
   (zj (zw (qR yj (zq zbg rfl B.len boot_len (za (zfD ac [] [] rfl rfl (by kernel_rfl) (xj (pv 0)) (fun _ _ _ _=>qT) (fun _ _ _ _=>(zH (xL (K:=K) rfl) (pv 0) zi (fun _ _=>rfl)))) zb)) (zq zu rfl B.len boot_len (za (pv 0) zb)) (zJ _)))))),?_⟩
  refine⟨_,rfl,b,rfl,⟨_,qb⟩,xX (K:=K) (xs:=fv) (fun i I M=>I=((U.take i).map jA.k).map V.str/\Same H M) ⟨rfl,ua _⟩ (fun i I M ⟨_,L⟩=>L.sqT qb) ?_ ?_⟩
  ·rintro i z I M hz ⟨rfl,L⟩
   obtain⟨dd,e1,r1⟩:=(rf.same L).get hz;rw[zY] at e1;obtain⟨p,N,rfl⟩:=z9.mp e1;have hi:=(zK.mp N).1;obtain⟨u,c,rfl,qu,_⟩:=vc r1;exact⟨rfl,⟨_,rfl,u,_,_,_,rfl,rfl,qu,rfl,by rw[zo,zo,qD];omega,by rw[ju N,zF,zF];rfl,L⟩⟩
  rintro I H1 ⟨rfl,s1⟩;rw[lf,jS];refine⟨by rw[zo,zo];omega,fun kl aa=>?_⟩
  have s2:=s1.trans (ze (o:=.lst ((U.map jA.k).map V.str)) aa);have K2:upd H1 kl (.lst ((U.map jA.k).map V.str)) kl=some (.lst ((U.map jA.k).map V.str)):=zc;generalize upd H1 kl (.lst ((U.map jA.k).map V.str))=H2 at s2 K2;refine⟨_,rfl,a,t,60,rfl,s2.sqT qa,by omega,_,rfl,ifF rfl ?_⟩
  refine⟨_,rfl,a,rfl,⟨_,s2.sqT qa⟩,xX (K:=K) (xs:=t) (fun i I M=>I=(List.replicate i true).map V.bl/\Same H2 M) ⟨rfl,ua _⟩ (fun i I M ⟨_,L⟩=>L.sqT (s2.sqT qa)) ?_ ?_⟩
  ·rintro i z I M hz ⟨rfl,L⟩
   obtain⟨dd,e1,r1⟩:=(rp.same (s2.trans L)).get hz;rw[zY] at e1;obtain⟨p,N,rfl⟩:=z9.mp e1;have hi:=(zK.mp N).1;obtain⟨o1,fe,fm,o2⟩:=ok p (qm N);exact⟨rfl,⟨_,rfl,_,rfl,z,kl,p,U.map jA.k,rfl,r1,u7 (L _ _ K2),zT.mpr ⟨fe,fm,o2⟩,o1,fun H4 O=>⟨by rw[zo,xQ];omega,by rw[y9,zF];rfl,L.trans O⟩⟩⟩
  rintro I M ⟨rfl,s3⟩;refine⟨by rw[zo,xQ];omega,fun D hD=>⟨D,_,rfl,u7 zc,_,rfl,?_⟩⟩
  rw[show(List.replicate t.length true).all id=true by simp]
  refine ifF rfl ?_
  have O:=s2.trans (s3.trans (ze (o:=.lst ((List.replicate t.length true).map V.bl)) hD));generalize upd M D (.lst ((List.replicate t.length true).map V.bl))=H4 at O;refine⟨_,rfl,a,rfl,⟨_,O.sqT qa⟩,zfl (K:=K) (xs:=t) (fun i I H5=>I.map (·.1)=(ps.take i).map V8/\Same H4 H5/\∀p∈I,SqT K H5 p.2 (p.1.map kV)) ⟨rfl,ua _,fun p h=>(nomatch h)⟩ (fun i I H5 ⟨_,Y,q⟩=>⟨Y.sqT (O.sqT qa),q⟩) ?_ ?_⟩
  ·rintro i z I H5 hz ⟨e5,Y,q5⟩
   obtain⟨dd,e1,r1⟩:=(rp.same (O.trans Y)).get hz;rw[zY] at e1;obtain⟨p,N,rfl⟩:=z9.mp e1;have hi:=(zK.mp N).1;obtain⟨u,c,rfl,qu,rc⟩:=YR r1;obtain⟨c',ec,qc⟩:=YQ rc;cases ec;have zl:=congrArg List.length e5;rw[zo,zo,qD] at zl;refine⟨rfl,⟨_,rfl,u,_,_,_,rfl,rfl,qu,rfl,V8 p,c,rfl,qc,?_,by omega,?_,Y,fun x hx=>?_⟩⟩
   ·rw[e5]
    intro h;obtain⟨p',ab,e⟩:=zT.mp h;obtain⟨j,hj,ej⟩:=zc6.mp ab;have e6:(ps.map fun p=>(p.x,p.y))[j]? =(ps.map fun p=>(p.x,p.y))[i]?:=by
     rw[zY,zY,N,qA (by omega),ej]
     unfold V8 at e;injection e with a1 a2;injection a2 with a2 _;exact congrArg some (yS (vf a1) (vf a2))
    have:=(List.getElem?_inj (by rw[zo];omega) pd).mp e6
    omega
   ·rw[zF,e5,ju N,zF];rfl
   ·rcases qO.mp hx with h | h
    ·exact q5 x h
    ·rw[zP.mp h];exact qc
  ·rintro I H5 ⟨e5,Y,q5⟩ D5 a0
   have zl:=congrArg List.length e5;rw[zo,zo,qD] at zl;refine⟨D5,I.length,rfl,zc,_,rfl,a,t,rfl,.inr ((O.trans (Y.trans (ze a0))).sqT qa),rfl,?_⟩
   rw[show I.length=t.length by omega,zW rfl]
   exact k _ (O.trans (Y.trans (ze a0)))
theorem zaL{H:Hp}{p:Nat×Nat}{v:V}(h:Rep K H (jY p) v):∃a,v=.ref a/\SqT K H a [.int p.1,.int p.2]:=by
 obtain⟨a,t,rfl,g,o,i,rfl,c,s,l,rfl,e1,e2⟩:=h;cases c;cases e1;cases e2
 exact⟨a,rfl,g⟩
inductive zbO(K:W.Frag)(c:List V)(H:Hp)(Q:VK):Prop
 | mk (v:V) (p:Nat×Nat) (m:Nat) (_:c=[v,.int (m:Int)]) (_:Rep K H (jY p) v) (_:p.1<m) (_:p.2<m) (_:p.1≠p.2) (_:Q (.bl true) H):zbO K c H Q
def zgB(K:W.Frag):Sp:=fun c H Q _=>zbO K c H Q
theorem zgK:zB ["thing","many","one","other"] ["thing","many"] (zv (topL 20)):=u4
theorem zg6{f:Addr}{t:FuncData}(F:Fun K "is_ahead" "is_ahead" (topL 20) f t)(B:Blt G)(g:Dfn P w K G C "is_tuple_of" 1 ["thing","many"] (XU K))(c:Dfn P w K G C "is_number_within" 2 ["thing","least","most"] ZH):FnOk P w K G C CX0 3 f t ["thing","many"] (zgB K):=by
 have u:=zgK.nd;refine F.ok zgK (fun L H Q E h=>?_) (fun I A o s H L Q E l h=>?_)
 ·obtain⟨v,p,m,rfl,_⟩:=h
  rfl
 ·obtain⟨v,p,m,rfl,J,M,N,ne,k⟩:=h
  obtain⟨a,rfl,D⟩:=zaL J;refine⟨_,(zg (qM (qX (qS (zf g l.m rfl (za (pv 0) (za zi zb)))))
   (zj (zw ji))
   zR)
   (zg (wQ (pv 0) (xA rfl (zE (zD (i:=2) u rfl (Or.inl rfl)) (zE (zD (i:=3) u rfl (Or.inl rfl)) jM))))
   (zg (qM (PW.pt (vw (qX (qS (zf c l.m rfl (za (pv 2) (za zi (za (zC yH (pv 1) zi) zb)))))) (xS (qX (qS (zf c l.m rfl (za (pv 3) (za zi (za (zC yH (pv 1) zi) zb)))))))))
   (zj (zw ji))
   zR)
   (zj (zw (qR Ja (pv 2) (pv 3) (zJ _))))))),?_⟩
  refine⟨_,rfl,a,_,2,rfl,D,rfl,_,rfl,ifF rfl ⟨_,rfl,a,_,rfl,D,rfl,_,_,rfl,_,_,rfl,rfl,?_⟩⟩
  refine⟨_,rfl,_,rfl,_,_,rfl,rfl,_,_,_,rfl,by omega,by omega,_,rfl,ifF rfl ?_⟩
  refine⟨_,rfl,_,rfl,_,_,rfl,rfl,_,_,_,rfl,by omega,by omega,_,rfl,ifF rfl ?_⟩
  refine⟨_,rfl,_,rfl,rfl,?_⟩
  rw[show decide (V.int (p.1:Int)=V.int (p.2:Int))=false from qP fun z=>ne (by injection z with z;omega)]
  exact k
inductive Yy(K:W.Frag)(i:List V)(H:Hp)(Q:VK):Prop
 | mk (a:Addr) (m:Nat) (c:List (Nat×Nat)) (_:i=[.ref a,.int (m:Int)]) (_:Rep K H (wB c) (.ref a)) (_:c.length<=200) (_:(∀p∈c,p.1<m/\p.2<m/\p.1≠p.2)) (_:∀g,Same H g->Q (.bl true) g):Yy K i H Q
def zeI(K:W.Frag):Sp:=fun c H Q _=>Yy K c H Q
theorem zeV:zB ["thing","many"] ["thing","many"] (zv (topL 21)):=u4
theorem zfX{f:Addr}{N:FuncData}{tf:Tok}(F:Fun K "are_aheads" "are_aheads" (topL 21) f N)(B:Blt G)(c:Dfn P w K G C "is_tuple_upto" 1 ["thing","most"] (Yi K))(l:Dfn P w K G C "is_ahead" 3 ["thing","many"] (zgB K))(g:G "MOST_AHEADS" = some (.int 200 tf)):FnOk P w K G C CX0 4 f N ["thing","many"] (zeI K):=by
 have nd:=zeV.nd;refine F.ok zeV (fun vs H Q E h=>?_) (fun a0 A J s H vs Q E U h=>?_)
 ·obtain⟨a,m,as,rfl,_⟩:=h
  rfl
 ·obtain⟨a,m,as,rfl,⟨a',I,ea,L,Y⟩,fl,ok,k⟩:=h
  cases ea;have O:=bG100000;have ln:=Y.len;rw[zo] at ln;refine⟨_,(zj (zw (xC (zf c U.m rfl (za (pv 0) (za (xJ (v:=.int 200) rfl g ⟨_,rfl⟩) zb))) (xU (zq (jL rfl) rfl B.all boot_all (za (jg ["many"] [1] rfl rfl (by kernel_rfl) (xj (pv 0)) (fun _ _ _ _=>qT) (fun _ _ _ _=>(zf l U.m rfl (za (pv 0) (za (pv 1) zb))))) zb)))))),?_⟩
  refine⟨_,rfl,a,I,200,rfl,L,by omega,_,rfl,ifT rfl ?_⟩
  refine⟨_,rfl,a,rfl,⟨_,L⟩,xX (K:=K) (xs:=I) (fun i u t=>u=(List.replicate i true).map V.bl/\Same H t) ⟨rfl,ua _⟩ (fun i u t ⟨_,o⟩=>o.sqT L) ?_ ?_⟩
  ·rintro i z u t hz ⟨rfl,o⟩
   obtain⟨dd,e1,r1⟩:=(Y.same o).get hz;rw[zY] at e1;obtain⟨p,M,rfl⟩:=z9.mp e1;have hi:=(zK.mp M).1;obtain⟨o1,o2,o3⟩:=ok p (qm M);exact⟨rfl,⟨_,rfl,_,rfl,z,p,m,rfl,r1,o1,o2,o3,by rw[zo,xQ];omega,by rw[y9,zF];rfl,o⟩⟩
  ·rintro u t ⟨rfl,o⟩
   refine⟨by rw[zo,xQ];omega,fun D hD=>⟨D,_,rfl,u7 zc,?_⟩⟩
   rw[show(List.replicate I.length true).all id=true by simp]
   exact k _ (o.trans (ze hD))
def prD(p:Int×Int):Dat:=.tup [.int p.1,.int p.2]
inductive QV(K:W.Frag)(o:List V)(H:Hp)(Q:VK):Prop
 | mk (t:Addr) (i:List V) (g:List (Int×Int)) (_:o=[.ref t]) (_:(SqL K H t i\/SqT K H t i)) (_:Reps K H (g.map prD) i) (_:g.length<=1000) (_:∀(l:Addr) (s:List V) c,Same H c->c l=some (.lst s)->Reps K c (g.map fun p=>prD p.swap) s->Q (.ref l) c):QV K o H Q
def Jq(K:W.Frag):Sp:=fun c H Q _=>QV K c H Q
theorem YA:zB ["pairs"] ["pairs"] (zv (topL 23)):=u4
theorem zcl{f:Addr}{M:FuncData}(F:Fun K "turned" "turned" (topL 23) f M)(B:Blt G):FnOk P w K G C CX0 1 f M ["pairs"] (Jq K):=by
 have nd:=YA.nd;refine F.ok YA (fun vs H Q E h=>?_) (fun a0 A J s H vs Q E hr h=>?_)
 ·obtain⟨t,I,u,rfl,_⟩:=h
  rfl
 ·obtain⟨t,I,u,rfl,ht,rp,la,k⟩:=h
  have U:=bG100000;have lx:=rp.len;rw[zo] at lx;refine⟨_,(zj (zw (Wb [] [] rfl rfl (by kernel_rfl) (zb9 (pv 0)) (fun _ _ _ _=>qT) (fun _ _ _ _=>(jH (za (pv 1) (za (pv 0) zb))))))),?_⟩
  have l2:∀x y:V,[x,y].length<=sizeLine:=fun x y=>by rw[sizeLine_eq];show 2<=_;decide
  refine⟨_,rfl,t,rfl,ht.elim (fun N=>.inl ⟨⟨_,N⟩,xt (K:=K) (a:=t) (xs:=I) (fun i g o=>Reps K o ((u.take i).map fun p=>prD p.swap) g/\Same H o) ⟨rfl,ua _⟩ (fun i g o ⟨_,c⟩=>c.seq N) ?s1 ?e1⟩) (fun O=>.inr ⟨⟨_,O⟩,xX (K:=K) (a:=t) (xs:=I) (fun i g o=>Reps K o ((u.take i).map fun p=>prD p.swap) g/\Same H o) ⟨rfl,ua _⟩ (fun i g o ⟨_,c⟩=>c.sqT O) ?s2 ?e2⟩)⟩
  case s1 | s2=>
   rintro i x g H1 hx ⟨D,c⟩;obtain⟨d,e1,r1⟩:=(rp.same c).get hx;rw[zY] at e1;obtain⟨p,L,rfl⟩:=z9.mp e1;have hi:i<u.length:=(zK.mp L).1;obtain⟨a,ws,rfl,qa,x1,aa,rfl,e2,x2,ab,rfl,e3,e4⟩:=r1;cases e2;cases e3;cases e4;refine⟨a,_,rfl,qa,rfl,_,_,rfl,_,_,rfl,rfl,rfl,?_⟩
   refine⟨_,rfl,_,rfl,l2 _ _,fun q hq=>⟨?_,?_,c.trans (ze hq)⟩⟩
   ·have:=D.len
    rw[zo,qD] at this;omega
   ·have e5:u.take (i+1)=u.take i++[p]:=by
     obtain⟨h1,h2⟩:=zK.mp L;rw[<- h2,wL]
    rw[e5,zF];exact ud (d:=prD p.swap) ⟨q,_,rfl,u8 zc,_,_,rfl,rfl,_,_,rfl,rfl,rfl⟩ (D.same (ze hq))
  case e1 | e2=>
   rintro g H1 ⟨D,c⟩;rw[lx,jS] at D;refine⟨by have:=D.len;rw[zo] at this;omega,fun l Y=>k l g _ (c.trans (ze Y)) zc (D.same (ze Y))⟩
def xz(c:List (Int×Int))(i:Int):List Int:=(c.filter fun p=>decide (p.1=i)).map (·.2)
structure NB(H0 H:Hp)(kvs:List (Key×V))(as:List (Int×Int)):Prop where
 at_:∀i v,z7 kvs (Sum.inl i)=some v->∃l,v=.ref l/\H0 l=none/\H l=some (.lst ((xz as i).map V.int))
 no:∀i,z7 kvs (Sum.inl i)=none->xz as i=[]
 inj:∀i j l,z7 kvs (Sum.inl i)=some (.ref l)->z7 kvs (Sum.inl j)=some (.ref l)->i=j
 few:kvs.length<=as.length
theorem wv(c:List (Int×Int))(x y i:Int):xz (c++[(x,y)]) i=xz c i++(if x=i then [y] else []):=by
 unfold xz;rw[Xk,zF];congr 1
 by_cases h:x=i<;>simp[h]
theorem Ye(c:List (Int×Int))(i:Int):(xz c i).length<=c.length:=by
 unfold xz;rw[zo];exact Xr _ _
theorem NB.old{o H t:Hp}{c:List (Key×V)}{g:List (Int×Int)}{x y:Int}{l:Addr}(n:NB o H c g)(s:Same H t)(e:z7 c (Sum.inl x)=some (.ref l)) :
  NB o (upd t l (.lst ((xz g x).map V.int++[.int y]))) c (g++[(x,y)]):=by
 refine⟨fun i v hv=>?_,fun i hv=>?_,n.inj,by rw[zL];have:=n.few;omega⟩
 ·obtain⟨u,rfl,A,B⟩:=n.at_ i v hv
  refine⟨u,rfl,A,?_⟩
  rw[wv];by_cases hx:x=i
  ·subst hx
   rw[e] at hv;cases hv;rw[zc,zr rfl,zF];rfl
  ·have ne:u≠l:=fun z=>hx (n.inj x i l e (by rw[<- z];exact hv))
   rw[zk ne,zn hx,yw];exact s _ _ B
 ·rw[wv,n.no i hv,zn (fun z=>by rw[<- z,e] at hv;cases hv)]
  rfl
theorem NB.new{u H:Hp}{c:List (Key×V)}{A:List (Int×Int)}{x y:Int}{m d:Addr}(n:NB u H c A)(I:H m=none)(D:u m=none)(E:H d=some (.dK c))(e:z7 c (Sum.inl x)=none) :
  NB u (upd (upd (upd H m (.lst [])) d (.dK (jB c (Sum.inl x) (.ref m)))) m (.lst ([]++[.int y]))) (jB c (Sum.inl x) (.ref m)) (A++[(x,y)]):=by
 have old:∀i l,z7 c (Sum.inl i)=some (.ref l)->H l=some (.lst ((xz A i).map V.int))/\l≠m/\l≠d:=fun i l h=>by
  obtain⟨L,z,_,g⟩:=n.at_ i _ h;cases z;refine⟨g,fun z=>?_,fun z=>?_⟩
  ·rw[z,I] at g;cases g
  ·rw[z,E] at g;cases g
 refine⟨fun i v hv=>?_,fun i hv=>?_,fun i j l o s=>?_,?_⟩
 ·rw[ZC] at hv
  rw[wv];by_cases hx:i=x
  ·subst hx
   rw[zr rfl] at hv;cases hv;refine⟨m,rfl,D,?_⟩
   rw[zc,n.no _ e,zr rfl];rfl
  ·rw[zn (fun z=>hx (vf z))] at hv
   obtain⟨l,rfl,g,t⟩:=n.at_ i v hv;obtain⟨_,B,J⟩:=old i l hv;refine⟨l,rfl,g,?_⟩
   rw[zk B,zk J,zk B,zn (zN hx),yw];exact t
 ·rw[ZC] at hv
  by_cases hx:i=x
  ·subst hx;rw[zr rfl] at hv;cases hv
  ·rw[zn (fun z=>hx (vf z))] at hv
   rw[wv,n.no i hv,zn (zN hx)];rfl
 ·rw[ZC] at o s
  by_cases g:i=x<;>by_cases t:j=x
  ·rw[g,t]
  ·rw[zr (by rw[g])] at o
   rw[zn (fun z=>t (vf z))] at s
   cases o;exact absurd rfl (old j _ s).2.1
  ·rw[zn (fun z=>g (vf z))] at o
   rw[zr (by rw[t])] at s
   cases s;exact absurd rfl (old i _ o).2.1
  ·rw[zn (fun z=>g (vf z))] at o
   rw[zn (fun z=>t (vf z))] at s
   exact n.inj i j l o s
 ·have:=xc c (Sum.inl x) (.ref m)
  have:=n.few;rw[zL,Xv];omega
inductive X1(K:W.Frag)(o:List V)(H:Hp)(Q:VK):Prop
 | mk (t:Addr) (l:List V) (i:List (Int×Int)) (_:o=[.ref t]) (_:(SqL K H t l\/SqT K H t l)) (_:Reps K H (i.map prD) l) (_:i.length<=1000) (_:∀(d:Addr) (c:List (Key×V)) g,Same H g->H d=none->g d=some (.dK c)->NB H g c i->Q (.ref d) g):X1 K o H Q
def Ju(K:W.Frag):Sp:=fun c H Q _=>X1 K c H Q
theorem zbV:zB ["pairs","rows","one","other"] ["pairs"] (zv (topL 24)):=u4
theorem zdV{f:Addr}{fd:FuncData}(F:Fun K "next_by" "next_by" (topL 24) f fd)(B:Blt G):FnOk P w K G C CX0 1 f fd ["pairs"] (Ju K):=by
 have Y:=zbV.nd;refine F.ok zbV (fun vs H Q E h=>?_) (fun ae A ab s H vs Q E hr h=>?_)
 ·obtain⟨t,U,N,rfl,_⟩:=h
  rfl
 ·obtain⟨t,U,N,rfl,ht,rp,la,k⟩:=h
  have ac:=bG100000;have af:=yp hr;have lx:=rp.len;rw[zo] at lx;refine⟨_,(zg (zx (i:=1) Y rfl (Or.inl rfl) Ve)
   (zg (jh jR rfl (zb9 (pv 0)) (xA rfl (zE (zD (i:=2) Y rfl (Or.inl rfl)) (zE (zD (i:=3) Y rfl (Or.inl rfl)) jM)))
   (zj (xI (yi vB Qg Qf j7 (zfG (pv 1) (pv 2) (qU zb) ⟨rfl,rfl,rfl,rfl⟩) (za (pv 3) zb)))))
   (zj (zw (pv 1))))),?_⟩
  refine fun d hd=>?_
  have e0:NB H (upd H d (.dK [])) [] ([]:List (Int×Int)):=⟨(fun i v z=>nomatch z),(fun _ _=>rfl),(fun i j l z=>nomatch z),zy _⟩
  have s0:Same H (upd H d (.dK [])):=ze hd;have step:∀(i:Nat) (x:V) (I:Hp) (g:List (Key×V)),U[i]? =some x->I d=some (.dK g)->NB H I g (N.take i)->Same H I->∃(a:Addr) (p:Int×Int),x=.ref a/\SqT K I a [.int p.1,.int p.2]/\N[i]? =some p/\i<N.length/\N.take (i+1)=N.take i++[p]:=fun i x I g hx _ _ u=>by
   obtain⟨dd,e1,r1⟩:=(rp.same u).get hx;rw[zY] at e1;obtain⟨p,ep,rfl⟩:=z9.mp e1;obtain⟨D,h2⟩:=zK.mp ep;obtain⟨a,ws,rfl,qa,x1,ag,rfl,e2,x2,ah,rfl,e3,e4⟩:=r1;cases e2;cases e3;cases e4;exact⟨a,p,rfl,qa,ep,D,by rw[<- h2,wL]⟩
  refine⟨_,rfl,t,rfl,ht.elim (fun hL=>.inl ⟨⟨_,s0.seq hL⟩,vN (K:=K) (a:=t) (xs:=U) (fun i σ M=>Ex3 fun(v2 v3:Option V) (g:List (Key×V))=>An4 (σ=[some (.ref t),some (.ref d),v2,v3]) (M d=some (.dK g)) (NB H M g (N.take i)) (Same H M))
   ⟨_,_,[],rfl,zc,e0,s0⟩ (fun i σ M _ ⟨_,_,_,_,_,_,u⟩=>u.seq hL) ?s1 ?e1⟩) (fun hT=>.inr ⟨⟨_,s0.sqT hT⟩,JQ (K:=K) (a:=t) (xs:=U) (fun i σ M=>Ex3 fun(v2 v3:Option V) (g:List (Key×V))=>An4 (σ=[some (.ref t),some (.ref d),v2,v3]) (M d=some (.dK g)) (NB H M g (N.take i)) (Same H M))
   ⟨_,_,[],rfl,zc,e0,s0⟩ (fun i σ M _ ⟨_,_,_,_,_,_,u⟩=>u.sqT hT) ?s2 ?e2⟩)⟩
  case e1 | e2=>
   rintro σ I ⟨v2,v3,g,rfl,D,O,u⟩;rw[lx,jS] at O;exact⟨_,rfl,k d g I u hd D O⟩
  case s1 | s2=>
   rintro i x σ I hx ⟨v2,v3,g,rfl,D,O,u⟩;obtain⟨a,p,rfl,qa,ep,hi,et⟩:=step i x I g hx D O u;rw[et];have aa:=O.few;rw[qD] at aa;refine⟨a,_,rfl,qa,rfl,_,_,rfl,_,_,rfl,rfl,?_⟩
   refine⟨_,rfl,d,rfl,.inl ⟨_,.inl D⟩,_,rfl,le0,fun m J=>⟨g,Sum.inl p.1,(ze (o:=.lst []) J) _ _ D,rfl,by omega,fun v hv=>?_,fun hv=>?_⟩⟩
   ·obtain⟨l,rfl,l0,ll⟩:=O.at_ _ v hv
    have L:=(ze (o:=.lst []) J) _ _ ll;have Y:d≠l:=fun z=>by rw[<- z,D] at ll;cases ll
    have sl:=Ye (N.take i) p.1;rw[qD] at sl;refine⟨.inl ⟨rfl,_,u7 L⟩,_,rfl,l,_,_,rfl,rfl,L,by rw[zo];omega,?_⟩
    exact⟨_,_,g,rfl,by rw[zk Y];exact(ze (o:=.lst []) J) _ _ D,O.old (ze J) hv,fun c o e=>by rw[zk (zm e l0)];exact(ze J) _ _ (u _ _ e)⟩
   ·have a0:m≠d:=fun z=>by rw[z,D] at J;cases J
    have m0:H m=none:=by
     cases z:H m with
     | none=>rfl
     | some o=>rw[u _ _ z] at J;cases J
    have L:upd (upd I m (.lst [])) d (.dK (jB g (Sum.inl p.1) (.ref m))) m=some (.lst []):=by rw[zk a0];exact zc
    refine⟨.inl ⟨rfl,_,u7 L⟩,_,rfl,m,_,_,rfl,rfl,L,by show 0<_;omega,?_⟩
    exact⟨_,_,_,rfl,by rw[zk (zN a0)];exact zc,O.new J m0 D hv,fun c o e=>by rw[zk (zm e m0),zk (zm e hd),zk (zm e m0)];exact u _ _ e⟩
end
end L2
namespace L2
def Wk(c:List (Int×Int)):Nat->Int->Int->Prop
 | 0,i,j=>i=j
 | n+1,i,j=>∃m,(i,m)∈c/\Wk c n m j
def InN(n:Nat)(i:Int):Prop:=0<=i/\i<n
theorem Jd{α:Type}[DecidableEq α]:∀{l m:List α},l.Nodup->(∀x∈l,x∈m)->l.length<=m.length
 | [],_,_,_=>qB _
 | x::l,m,h,s=>by
  have hx:=s x (by simp)
  have c:=vT.mp h;have:=Jd (l:=l) (m:=m.erase x) c.2 fun y hy=>(WP (fun e:y=x=>c.1 (e▸hy))).mpr (s y (qw _ hy))
  rw[WZ hx] at this;have:=Xw hx;rw[jy];omega
theorem x6{n:Nat}{l:List Int}(h:l.Nodup)(s:∀x∈l,InN n x):l.length<=n:=by
 have:=Jd (m:=(List.range n).map fun k:Nat=>(k:Int)) h fun x hx=>by
  obtain⟨c,g⟩:=s x hx;exact zT.mpr ⟨x.toNat,qC.mpr (by omega),by omega⟩
 rwa[zo,qQ] at this
theorem Wg{α:Type}{l:List α}{x:α}(h:l.Nodup)(hx:x∉l):(l++[x]).Nodup:=by
 rw[Zi];exact⟨h,by simp,fun a c b hb e=>hx (by rw[zP] at hb;rw[<- hb,<- e];exact c)⟩
section
variable{as:List (Int×Int)}
theorem Wk.snoc:∀{n:Nat} {i j k:Int},Wk as n i j->(j,k)∈as->Wk as (n+1) i k
 | 0,i,j,k,h,e=>by cases(show i=j from h);exact⟨k,e,rfl⟩
 | n+1,i,j,k,⟨m,h,c⟩,e=>⟨m,h,Wk.snoc c e⟩
theorem Wk.unsnoc:∀{n:Nat} {i k:Int},Wk as (n+1) i k->∃j,Wk as n i j/\(j,k)∈as
 | 0,i,k,⟨m,h,c⟩=>by cases(show m=k from c);exact⟨i,rfl,h⟩
 | n+1,i,k,⟨m,h,c⟩=>let ⟨j,g,l⟩:=Wk.unsnoc c;⟨j,⟨m,h,g⟩,l⟩
theorem Wk.back:∀{n:Nat} {i j:Int},Wk as n i j->Wk (as.map Prod.swap) n j i
 | 0,i,j,h=>Eq.symm h
 | n+1,i,j,⟨m,e,w⟩=>Wk.snoc (Wk.back w) (zT.mpr ⟨(i,m),e,rfl⟩)
theorem wD(as:List (Int×Int)):(as.map Prod.swap).map Prod.swap=as:=by
 rw[jC];exact List.map_id'' (fun _=>rfl) as
theorem Wk.turn{n:Nat}{i j:Int}:Wk (as.map Prod.swap) n i j↔Wk as n j i:=
 ⟨fun h=>by have:=h.back;rwa[wD] at this,fun h=>h.back⟩
theorem Wk.tail:∀{n:Nat} {i k:Int} (m:Nat),m<=n->Wk as n i k->∃j,Wk as m j k
 | 0,i,k,m,h,w=>⟨i,by rw[show m=0 by omega];exact w⟩
 | n+1,i,k,m,h,w=>by
  by_cases e:m=n+1
  ·exact⟨i,by rw[e];exact w⟩
  ·obtain⟨x,_,c⟩:=w
   exact Wk.tail m (by omega) c
def Dist(as:List (Int×Int))(k:Nat)(i j:Int):Prop:=Wk as k i j/\∀c,c<k->¬Wk as c i j
theorem Dist.uniq{k c:Nat}{i j:Int}(a:Dist as k i j)(b:Dist as c i j):k=c:=by
 rcases Nat.lt_trichotomy k c with z | z | z
 ·exact absurd a.1 (b.2 k z)
 ·exact z
 ·exact absurd b.1 (a.2 c z)
theorem Wk.dist{i j:Int}:∀{k:Nat},Wk as k i j->∃d,d<=k/\Dist as d i j:=by
 intro k;induction k using Nat.strongRecOn with
 | ind k s=>
  intro w;by_cases h:∃c,c<k/\Wk as c i j
  ·obtain⟨c,g,l⟩:=h
   obtain⟨d,t,o⟩:=s c g l;exact⟨d,by omega,o⟩
  ·exact⟨k,zy _,w,fun c g l=>h ⟨c,g,l⟩⟩
theorem Dist.zero(as:List (Int×Int))(s:Int):Dist as 0 s s:=⟨rfl,fun k h=>absurd h (yY k)⟩
theorem Dist.turn{k:Nat}{i j:Int}:Dist (as.map Prod.swap) k i j↔Dist as k j i:=
 ⟨fun h=>⟨Wk.turn.mp h.1,fun c g w=>h.2 c g (Wk.turn.mpr w)⟩,fun h=>⟨Wk.turn.mpr h.1,fun c g w=>h.2 c g (Wk.turn.mp w)⟩⟩
def Cyc(as:List (Int×Int))(s x:Int)(k:Nat):Prop:=1<=k/\Wk as k x s/\∀c,1<=c->c<k->¬Wk as c x s
theorem Cyc.uniq{s x:Int}{k c:Nat}(a:Cyc as s x k)(b:Cyc as s x c):k=c:=by
 rcases Nat.lt_trichotomy k c with z | z | z
 ·exact absurd a.2.1 (b.2.2 k a.1 z)
 ·exact z
 ·exact absurd b.2.1 (a.2.2 c b.1 z)
theorem Wk.cyc{s x:Int}:∀{k:Nat},1<=k->Wk as k x s->∃d,d<=k/\Cyc as s x d:=by
 intro k;induction k using Nat.strongRecOn with
 | ind k u=>
  intro o w;by_cases h:∃c,1<=c/\c<k/\Wk as c x s
  ·obtain⟨c,g,i,l⟩:=h
   obtain⟨d,o,t⟩:=u c i g l;exact⟨d,by omega,t⟩
  ·exact⟨k,zy _,o,w,fun c g i l=>h ⟨c,g,i,l⟩⟩
theorem Cyc.next{s x:Int}{k:Nat}(h:Cyc as s x (k+2)):∃y,(x,y)∈as/\Cyc as s y (k+1):=by
 obtain⟨_,⟨y,e,w⟩,m⟩:=h;exact⟨y,e,by omega,w,fun c g l i=>m (c+1) (by omega) (by omega) ⟨y,e,i⟩⟩
theorem Cyc.rows{n:Nat}(c:∀p∈as,InN n p.1){s:Int}:∀{k:Nat} {x:Int},Cyc as s x (k+1)->∃g:List Int,g.length=k+1/\g.Nodup/\∀y∈g,InN n y/\∃j,j<=k+1/\Cyc as s y j
 | 0,x,h=>by
  obtain⟨y,e,_⟩:=h.2.1;exact⟨[x],rfl,by simp,fun y hy=>by rw[zP.mp hy];exact⟨c _ e,1,zy _,h⟩⟩
 | k+1,x,h=>by
  obtain⟨y,e,hy⟩:=h.next
  obtain⟨g,l,A,o⟩:=Cyc.rows c hy;refine⟨x::g,by rw[jy,l],vT.mpr ⟨fun hx=>?_,A⟩,fun z w=>?_⟩
  ·obtain⟨_,j,u,i⟩:=o x hx
   have:=i.uniq h;omega
  ·rcases zQ.mp w with q | q
   ·rw[q];exact⟨c _ e,k+2,zy _,h⟩
   ·obtain⟨t,j,u,i⟩:=o z q
    exact⟨t,j,by omega,i⟩
theorem Cyc.le{n:Nat}(c:∀p∈as,InN n p.1){s x:Int}{k:Nat}(h:Cyc as s x k):k<=n:=by
 obtain⟨k,rfl⟩:∃j,k=j+1:=⟨k-1,by have:=h.1;omega⟩
 obtain⟨o,l,i,g⟩:=h.rows c;rw[<- l];exact x6 i fun y hy=>(g y hy).1
structure RingAt(as:List (Int×Int))(s:Int)(c:Nat)(r:List Int):Prop where
 len:r.length=c
 head:r[0]? =some s
 next:∀i,i+1<c->∃a b,r[i]? =some a/\r[i+1]? =some b/\(a,b)∈as/\Dist as (c-1-i) b s/\∀b',(a,b')∈as->Dist as (c-1-i) b' s->b<=b'
theorem RingAt.uniq{s:Int}{c:Nat}{r g:List Int}(a:RingAt as s c r)(b:RingAt as s c g):r=g:=by
 have all:∀i,i<c->r[i]? =g[i]?:=fun i=>by
  induction i with
  | zero=>intro _;rw[a.head,b.head]
  | succ i G=>
   intro l;obtain⟨x,y,e1,e2,t,u,w⟩:=a.next i l
   obtain⟨J,o,A,B,C,D,E⟩:=b.next i l
   have:=G (by omega)
   rw[e1,A] at this;cases this;have H:=w o C D;have I:=E y t u;rw[e2,B,show y=o by omega]
 refine Xh fun i=>?_
 by_cases h:i<c
 ·exact all i h
 ·rw[Zj (by rw[a.len];omega),Zj (by rw[b.len];omega)]
def Best(as:List (Int×Int))(i:Nat)(s:Int)(c:Nat):Prop:=InN i s/\Cyc as s s c/\∀g l,InN i g->Cyc as g g l->c<=l/\(l=c->s<=g)
theorem Best.uniq{i:Nat}{s l:Int}{c g:Nat}(a:Best as i s c)(b:Best as i l g):s=l/\c=g:=by
 obtain⟨u,o⟩:=a.2.2 l g b.1 b.2.1;obtain⟨w,t⟩:=b.2.2 s c a.1 a.2.1;have e:c=g:=by omega
 subst e;exact⟨by have:=o rfl;have:=t rfl;omega,rfl⟩
theorem Best.first{i:Nat}{c:Nat}(u:∀s c,InN i s->¬Cyc as s s c)(h:Cyc as (i:Int) i c):Best as (i+1) i c:=
 ⟨⟨by omega,by omega⟩,h,fun o t l g=>by
  by_cases e:o=i
  ·subst e;have:=h.uniq g;omega
  ·exact absurd g (u o t ⟨l.1,by have:=l.2;omega⟩)⟩
theorem Best.less{i:Nat}{s:Int}{c g:Nat}(b:Best as i s c)(h:Cyc as (i:Int) i g)(u:g<c):Best as (i+1) i g:=
 ⟨⟨by omega,by omega⟩,h,fun t d o l=>by
  by_cases e:t=i
  ·subst e;have:=h.uniq l;omega
  ·have:=b.2.2 t d ⟨o.1,by have:=o.2;omega⟩ l
   omega⟩
theorem Best.keep{i:Nat}{s:Int}{c:Nat}(b:Best as i s c)(h:∀g,Cyc as (i:Int) i g->c<=g):Best as (i+1) s c:=
 ⟨⟨b.1.1,by have:=b.1.2;omega⟩,b.2.1,fun t d o l=>by
  by_cases e:t=i
  ·subst e;exact⟨h d l,fun _=>by have:=b.1.2;omega⟩
  ·exact b.2.2 t d ⟨o.1,by have:=o.2;omega⟩ l⟩
theorem zaV{i:Nat}(l:∀s c,InN i s->¬Cyc as s s c)(h:∀c,¬Cyc as (i:Int) i c):∀s c,InN (i+1) s->¬Cyc as s s c:=fun s c g hc=>by
 by_cases e:s=i
 ·subst e;exact h c hc
 ·exact l s c ⟨g.1,by have:=g.2;omega⟩ hc
theorem Dist.down{s x:Int}{k:Nat}(h:Dist as (k+1) x s):(∃y,(x,y)∈as/\Dist as k y s)/\∀y d,(x,y)∈as->Dist as d y s->k<=d:=by
 obtain⟨⟨y,e,w⟩,m⟩:=h;have c:∀y d,(x,y)∈as->Wk as d y s->k<=d:=fun y d e w=>by
  rcases yV d k with z | z
  ·exact absurd ⟨y,e,w⟩ (m (d+1) (by omega))
  ·exact z
 exact⟨⟨y,e,w,fun g l i=>by have:=c y g e i;omega⟩,fun y d e h=>c y d e h.1⟩
theorem Cyc.down{s x:Int}{k:Nat}(h:Cyc as s x (k+1)):(∃y,(x,y)∈as/\Dist as k y s)/\∀y d,(x,y)∈as->Dist as d y s->k<=d:=by
 obtain⟨_,⟨y,e,w⟩,m⟩:=h;have c:∀y d,(x,y)∈as->Wk as d y s->k<=d:=fun y d e w=>by
  rcases yV d k with z | z
  ·exact absurd ⟨y,e,w⟩ (m (d+1) (by omega) (by omega))
  ·exact z
 exact⟨⟨y,e,w,fun g l i=>by have:=c y g e i;omega⟩,fun y d e h=>c y d e h.1⟩
theorem Cyc.of{s x y:Int}{d:Nat}(e:(x,y)∈as)(h:Dist as d y s)(i:∀y c,(x,y)∈as->Dist as c y s->d<=c):Cyc as s x (d+1):=
 ⟨by omega,⟨y,e,h.1⟩,fun l g A w=>by
  obtain⟨j,rfl⟩:∃j,l=j+1:=⟨l-1,by omega⟩
  obtain⟨z,o,w⟩:=w;obtain⟨c,u,t⟩:=Wk.dist w;have:=i z c o t;omega⟩
theorem Cyc.dist{s x:Int}{k:Nat}(ne:x≠s):Cyc as s x k↔Dist as k x s:=by
 constructor
 ·intro h
  refine⟨h.2.1,fun c g w=>?_⟩
  rcases WG c with z | z
  ·subst z;exact ne w
  ·exact h.2.2 c z g w
 ·intro h
  refine⟨?_,h.1,fun c _ g w=>h.2 c g w⟩
  rcases WG k with z | z
  ·subst z;exact absurd h.1 ne
  ·exact z
end
end L2
namespace L2
open PySem PySem.Spec PyProof.Rows
section
variable{g:List (Int×Int)}
theorem Wk.closed{C:Int->Prop}(c:∀x y,C x->(x,y)∈g->C y):∀{n:Nat} {i j:Int},C i->Wk g n i j->C j
 | 0,i,j,h,e=>by cases(show i=j from e);exact h
 | n+1,i,j,h,⟨m,e,w⟩=>Wk.closed c (c i m h e) w
theorem ja{i j:Int}:j∈xz g i↔(i,j)∈g:=by
 unfold xz;rw[zT];constructor
 ·rintro⟨⟨a,b⟩,h,rfl⟩
  obtain⟨c,l⟩:=wm.mp h;rw[<- vk l];exact c
 ·intro h
  exact⟨(i,j),wm.mpr ⟨h,zW rfl⟩,rfl⟩
end
def dkI(c:List (Int×Int)):List (Key×V):=c.map fun p=>(Sum.inl p.1,V.int p.2)
theorem Y4(c:List (Int×Int)):(dkI c).length=c.length:=zo _
theorem yr:∀(c:List (Int×Int)) (i:Int),(∃v,z7 (dkI c) (Sum.inl i)=some (.int v)/\i∈c.map (·.1))\/(z7 (dkI c) (Sum.inl i)=none/\i∉c.map (·.1))
 | [],i=>.inr ⟨rfl,by simp⟩
 | p::c,i=>by
  by_cases h:p.1=i
  ·exact .inl ⟨p.2,qJ (by show Sum.inl p.1=_;rw[h]),by simp[h]⟩
  ·have e:z7 (dkI (p::c)) (Sum.inl i)=z7 (dkI c) (Sum.inl i):=qK (fun z=>h (vf z))
   rcases yr c i with ⟨v,g,l⟩ | ⟨g,l⟩
   ·exact .inl ⟨v,e.trans g,by simp only[jn,zQ];exact .inr l⟩
   ·exact .inr ⟨e.trans g,by simp only[jn,zQ];rintro(z | z);exact h z.symm;exact l z⟩
theorem zeg{c:List (Int×Int)}{i v:Int}(h:z7 (dkI c) (Sum.inl i)=none):jB (dkI c) (Sum.inl i) (.int v)=dkI (c++[(i,v)]):=by
 rw[ZQ _ h];unfold dkI;rw[zF];rfl
structure RowsOk(H:Hp)(rk:List (Key×V))(as:List (Int×Int)):Prop where
 at_:∀i v,z7 rk (Sum.inl i)=some v->∃l,v=.ref l/\H l=some (.lst ((xz as i).map V.int))
 no:∀i,z7 rk (Sum.inl i)=none->xz as i=[]
theorem RowsOk.same{H c:Hp}{o:List (Key×V)}{g:List (Int×Int)}(r:RowsOk H o g)(s:Same H c):RowsOk c o g:=⟨fun i v e=>let ⟨l,a,b⟩:=r.at_ i v e;⟨l,a,s _ _ b⟩,r.no⟩
theorem zcR{c:List (Int×Int)}(g:(c.map (·.1)).Nodup){i v:Int}:z7 (dkI c) (Sum.inl i)=some (.int v)↔(i,v)∈c:=by
 induction c with
 | nil=>exact⟨fun h=>(nomatch h),fun h=>nomatch h⟩
 | cons p c l=>
  rw[jn,vT] at g;by_cases h:p.1=i
  ·have e:z7 (dkI (p::c)) (Sum.inl i)=some (.int p.2):=qJ (by show Sum.inl p.1=_;rw[h])
   rw[e];constructor
   ·intro q
    cases q;exact zQ.mpr (.inl (by rw[<- h]))
   ·intro q
    rcases zQ.mp q with z | z
    ·rw[<- z]
    ·exact absurd (zT.mpr ⟨(i,v),z,h.symm⟩) g.1
  ·have e:z7 (dkI (p::c)) (Sum.inl i)=z7 (dkI c) (Sum.inl i):=qK (fun z=>h (vf z))
   rw[e,l g.2,zQ];exact⟨fun z=>.inr z,fun z=>z.elim (fun y=>absurd (by rw[<- y]) h) id⟩
structure Lvl(as:List (Int×Int))(s:Int)(k:Nat)(ps:List (Int×Int))(es:List Int):Prop where
 nd:(ps.map (·.1)).Nodup
 snd:∀p∈ps,∃d:Nat,p.2=d/\d<=k/\Dist as d s p.1
 all:∀j d,d<=k->Dist as d s j->j∈ps.map (·.1)
 edge:∀j,j∈es↔Dist as k s j
theorem Dist.pre{g:List (Int×Int)}{s:Int}{k:Nat}:∀{d:Nat} {j:Int},k<=d->Dist g d s j->∃x,Dist g k s x
 | 0,j,h,c=>⟨j,by rw[show k=0 by omega];exact c⟩
 | d+1,j,h,c=>by
  by_cases e:k=d+1
  ·exact⟨j,by rw[e];exact c⟩
  ·obtain⟨x,w,hx⟩:=c.1.unsnoc
   exact Dist.pre (j:=x) (by omega) ⟨w,fun i o l=>c.2 (i+1) (by omega) (l.snoc hx)⟩
def j6(k:Nat)(c:List Int):List (Int×Int):=c.map fun j=>(j,((k+1:Nat):Int))
theorem yK(k:Nat)(c:List Int):(j6 k c).map (·.1)=c:=by
 unfold j6;rw[jC];exact List.map_id'' (fun _=>rfl) c
theorem Lvl.next{i:List (Int×Int)}{s:Int}{k:Nat}{o:List (Int×Int)}{A g:List Int}(h:Lvl i s k o A)(D:((o++j6 k g).map (·.1)).Nodup)(l:∀j∈g,Dist i (k+1) s j)
  (B:∀x∈A,∀y,(x,y)∈i->y∈(o++j6 k g).map (·.1)):Lvl i s (k+1) (o++j6 k g) g:=by
 have all:∀j d,d<=k+1->Dist i d s j->j∈(o++j6 k g).map (·.1):=fun j d G c=>by
  by_cases e:d=k+1
  ·subst e
   obtain⟨x,w,hx⟩:=c.1.unsnoc;exact B x ((h.edge x).mpr ⟨w,fun C H E=>c.2 (C+1) (by omega) (E.snoc hx)⟩) j hx
  ·rw[zF]
   exact vz _ (h.all j d (by omega) c)
 refine⟨D,fun p u=>?_,all,fun j=>⟨l j,fun c=>?_⟩⟩
 ·rcases qO.mp u with z | z
  ·obtain⟨d,e1,e2,t⟩:=h.snd p z
   exact⟨d,e1,by omega,t⟩
  ·obtain⟨j,c,rfl⟩:=zT.mp z
   exact⟨k+1,rfl,zy _,l j c⟩
 ·have:=all j (k+1) (zy _) c
  rw[zF,yK] at this;rcases qO.mp this with z | z
  ·obtain⟨p,u,rfl⟩:=zT.mp z
   obtain⟨d,_,e2,t⟩:=h.snd p u;have:=t.uniq c;omega
  ·exact z
theorem Lvl.done{l:List (Int×Int)}{s:Int}{k:Nat}{o:List (Int×Int)}(h:Lvl l s k o []):∀j v,(j,v)∈o↔∃d:Nat,v=d/\Dist l d s j:=fun j v=>by
 constructor
 ·intro g
  obtain⟨d,e1,_,c⟩:=h.snd _ g;exact⟨d,e1,c⟩
 ·rintro⟨d,rfl,i⟩
  rcases yV d k with z | z
  ·obtain⟨p,g,e⟩:=zT.mp (h.all j d (by omega) i)
   obtain⟨t,e1,_,c⟩:=h.snd p g;have e:p.1=j:=e;rw[e] at c;have:=c.uniq i;subst this;rw[<- e,<- e1];exact g
  ·obtain⟨x,hx⟩:=i.pre z
   exact absurd ((h.edge x).mpr hx) (by simp)
def WSt(H:Hp)(l:List (Int×Int))(n:Nat)(s:Int)(r d:Addr)(m:Nat)(σ:St)(g:Hp):Prop:=
 ∃(e:Addr) (c:List Int) (i:List (Int×Int)) (o:Nat) (t u w:Option V),σ=[some (.int s),some (.ref r),some (.ref d),some (.ref e),t,u,w]/\H e=none/\e≠d/\g e=some (.lst (c.map V.int))/\g d=some (.dK (dkI i))/\Same H g /\
  Lvl l s o i c/\c.length<=60/\m=2*(n-i.length)+(if c=[] then 0 else 1)
structure RSt(as:List (Int×Int))(s:Int)(d l:Addr)(kk:Nat)(ps:List (Int×Int))(H H':Hp)(rs:List Int):Prop where
 hd:H' d=some (.dK (dkI (ps++j6 kk rs)))
 hl:H' l=some (.lst (rs.map V.int))
 sm:Same H H'
 nd:((ps++j6 kk rs).map (·.1)).Nodup
 snd:∀j∈rs,Dist as (kk+1) s j
section
variable{P:Program}{w:World}{K:W.Frag}{I:Str->Option Value}{G:Heap}
inductive QY(K:W.Frag)(o:List V)(H:Hp)(Q:VK):Prop
 | mk (s:Int) (r:Addr) (l:List (Key×V)) (c:List (Int×Int)) (n:Nat) (_:o=[.int s,.ref r]) (_:H r=some (.dK l)) (_:RowsOk H l c) (_:n<=60) (_:InN n s) (_:(∀p∈c,InN n p.2)) (_:c.length<=1000) (_:∀(d:Addr) (i:List (Int×Int)) g,Same H g->H d=none->g d=some (.dK (dkI i))->(i.map (·.1)).Nodup->(∀j v,(j,v)∈i↔∃k:Nat,v=k/\Dist c k s j)->Q (.ref d) g):QY K o H Q
def Jr(K:W.Frag):Sp:=fun c H Q _=>QY K c H Q
theorem YD:zB ["start","rows","steps","edge","reached","part","other"] ["start","rows"] (zv (topL 25)):=u4
theorem zco{f:Addr}{fd:FuncData}(F:Fun K "steps_from" "steps_from" (topL 25) f fd)(B:Blt I):FnOk P w K I G CX0 1 f fd ["start","rows"] (Jr K):=by
 have nd:=YD.nd;refine F.ok YD (fun vs H Q E h=>?_) (fun be A ba s H vs Q E hr h=>?_)
 ·obtain⟨s,r,rk,M,n,rfl,_⟩:=h
  rfl
 ·obtain⟨s,r,rk,M,n,rfl,hR,ro,bf,ins,ai,al,k⟩:=h
  have bd:=bG100000;have af:=yp hr;refine⟨_,(zg (zx (i:=2) nd rfl (Or.inl rfl) (zdM (zb7 (pv 0) zi zdJ) rfl rfl (by intro z;cases z) (by show 1<=15;decide)))
   (zg (zx (i:=3) nd rfl (Or.inl rfl) (qU (za (pv 0) zb)))
   (zg (Vd jR (zdI (pv 3))
   (zg (zx (i:=4) nd rfl (Or.inl rfl) (qU zb))
    (zg (jh jR rfl (jG (pv 3)) (zD (i:=5) nd rfl (Or.inl rfl))
    (zj (jh jR rfl (jG (yh af (pv 1) (pv 5) (qU zb) ⟨rfl,rfl,rfl,rfl⟩)) (zD (i:=6) nd rfl (Or.inl rfl))
     (zj (qM (zb5 (zaJ af (pv 6) (pv 2)))
      (zg (YO af (pv 2) (pv 6) (zC qr (JE af (pv 2) (pv 5) (fun _ _=>rfl)) zi) rfl)
       (zj (xI (yi vB Qg Qf j7 (pv 4) (za (pv 6) zb)))))
      zR)))))
    (zj (zx (i:=3) nd rfl (Or.inl rfl) (pv 4))))))
   (zj (zw (pv 2)))))),?_⟩
  refine fun d hd=>⟨_,rfl,zc,[(Sum.inl s,.int 0)],rfl,(by show 1<=15;decide),_,rfl,le1,fun e he=>?_⟩
  have ed:e≠d:=fun z=>by rw[z,zc] at he;cases he
  have e0:H e=none:=by rw[zk ed,zk ed] at he;exact he
  have s0:Same H (upd (upd (upd H d (.dK [])) d (.dK (jJ [] [(Sum.inl s,V.int 0)]))) e (.lst [.int s])):=fun c o z=>by rw[zk (zm z e0),zk (zm z hd),zk (zm z hd)];exact z
  have an:(upd (upd (upd H d (.dK [])) d (.dK (jJ [] [(Sum.inl s,V.int 0)]))) e (.lst [.int s])) d=some (.dK (dkI [(s,0)])):=by rw[zk (zN ed),zc];rfl
  have ao:(upd (upd (upd H d (.dK [])) d (.dK (jJ [] [(Sum.inl s,V.int 0)]))) e (.lst [.int s])) e=some (.lst ([s].map V.int)):=zc;generalize upd (upd (upd H d (.dK [])) d (.dK (jJ [] [(Sum.inl s,V.int 0)]))) e (.lst [.int s])=H1 at s0 an ao;refine⟨WSt H M n s r d,⟨_,e,[s],[(s,0)],0,_,_,_,rfl,e0,ed,ao,an,s0,⟨by simp,fun p hp=>by rw[zP.mp hp];exact⟨0,rfl,zy _,Dist.zero M s⟩,fun j k hk N=>by
   rw[show k=0 by omega] at N
   rw[<- show s=j from N.1];simp,fun j=>⟨fun N=>by rw[zP.mp N];exact Dist.zero M s,fun N=>by rw[<- show s=j from N.1];simp⟩⟩,by simp,rfl⟩,?_⟩
  rintro m σ H2 ⟨e,es,D,J,v4,v5,v6,rfl,en,b0,ac,ag,s2,lv,el,rfl⟩;have aj:=lv.nd;have au:∀j∈D.map (·.1),InN n j:=fun j N=>by
   obtain⟨p,hp,rfl⟩:=zT.mp N;obtain⟨k,_,_,dk⟩:=lv.snd p hp;exact Wk.closed (C:=InN n) (fun x y _ h=>ai _ h) ins dk.1
  have pl:D.length<=n:=by have:=x6 aj au;rwa[zo] at this
  refine⟨_,rfl,e,_,rfl,u7 ac,?_⟩
  cases es with
  | nil=>
   refine ifF (by rfl) ?_
   refine⟨_,rfl,k d D H2 s2 hd ag aj lv.done⟩
  | cons e1 er=>
   refine ifT (by rfl) ?_
   refine⟨fun σ' H'=>∃m',m'<2*(n-D.length)+(if e1::er=[] then 0 else 1)/\WSt H M n s r d m' σ' H',fun _ _ h=>h,?_⟩
   refine⟨le0,fun l hl=>?_⟩
   have lH:H l=none:=by
    cases z:H l with
    | none=>rfl
    | some o=>rw[s2 _ _ z] at hl;cases hl
   have ld:l≠d:=fun z=>by rw[z,ag] at hl;cases hl
   have le:l≠e:=fun z=>by rw[z,ac] at hl;cases hl
   refine⟨_,rfl,e,rfl,⟨_,u7 ((ze hl) _ _ ac)⟩,vN (K:=K) (a:=e) (xs:=(e1::er).map V.int) (fun i σ H'=>Ex3 fun(v5 v6:Option V) (g:List Int)=>An4 (σ=[some (.int s),some (.ref r),some (.ref d),some (.ref e),some (.ref l),v5,v6]) (H' e=some (.lst ((e1::er).map V.int))) (RSt M s d l J D H H' g) ((∀x∈(e1::er).take i,∀y,(x,y)∈M->y∈(D++j6 J g).map (·.1))))
    ⟨_,_,[],rfl,(ze hl) _ _ ac,⟨by rw[show D++j6 J []=D from yw D];exact(ze hl) _ _ ag,zc,s2.trans (ze hl),by rw[show D++j6 J []=D from yw D];exact aj,fun j N=>nomatch N⟩,by simp⟩ (fun i σ H' _ ⟨_,_,_,_,h,_,_⟩=>u7 h) ?_ ?_⟩
   ·rintro i x σ H3 hx ⟨v5,v6,g,rfl,aq,L,aa⟩
    rw[zY] at hx;obtain⟨x,ex,rfl⟩:=z9.mp hx;have et:(e1::er).take (i+1)=(e1::er).take i++[x]:=by
     obtain⟨h1,h2⟩:=zK.mp ex;rw[<- h2,wL]
    have xd:Dist M J s x:=(lv.edge x).mp (qm ex);have xk:x∈D.map (·.1):=lv.all x J (zy _) xd
    refine⟨_,rfl,r,rfl,.inl ⟨_,.inl (L.sm _ _ hR)⟩,_,rfl,le0,fun q hq=>?_⟩
    have sq:=ze (H:=H3) (o:=.lst []) hq;have qd:q≠d:=fun z=>by rw[z,L.hd] at hq;cases hq
    have ql:q≠l:=fun z=>by rw[z,L.hl] at hq;cases hq
    refine⟨_,.inl ⟨rk,Sum.inl x,.inl (sq _ _ (L.sm _ _ hR)),rfl,rfl⟩,?_⟩
    have tt:∃t,(z7 rk (Sum.inl x)).getD (.ref q)=.ref t/\upd H3 q (.lst []) t=some (.lst ((xz M x).map V.int))/\t≠d/\t≠l:=by
     cases z:z7 rk (Sum.inl x) with
     | none=>exact⟨q,rfl,by rw[ro.no x z];exact zc,qd,ql⟩
     | some v=>
      obtain⟨t,rfl,ht⟩:=ro.at_ x v z;exact⟨t,rfl,sq _ _ (L.sm _ _ ht),zm ht hd,zm ht lH⟩
    obtain⟨t,av,ht,td,tl⟩:=tt;rw[av];refine⟨t,rfl,⟨_,u7 ht⟩,vN (K:=K) (a:=t) (xs:=(xz M x).map V.int) (fun k σ H'=>Ex2 fun(v6:Option V) (g:List Int)=>An6 (σ=[some (.int s),some (.ref r),some (.ref d),some (.ref e),some (.ref l),some (.int x),v6]) (H' e=some (.lst ((e1::er).map V.int))) (H' t=some (.lst ((xz M x).map V.int))) (RSt M s d l J D H H' g) ((∀x∈(e1::er).take i,∀y,(x,y)∈M->y∈(D++j6 J g).map (·.1))) (∀y∈(xz M x).take k,y∈(D++j6 J g).map (·.1)))
     ⟨_,g,rfl,sq _ _ aq,ht,⟨sq _ _ L.hd,sq _ _ L.hl,L.sm.trans sq,L.nd,L.snd⟩,aa,by simp⟩ (fun i σ H' _ ⟨_,_,_,_,h,_,_,_⟩=>u7 h) ?_ ?_⟩
    ·rintro j y σ H4 hy ⟨v6,g,rfl,ae,ah,O,ab,Y⟩
     rw[zY] at hy;obtain⟨y,ey,rfl⟩:=z9.mp hy;have ap:(xz M x).take (j+1)=(xz M x).take j++[y]:=by
      obtain⟨h1,h2⟩:=zK.mp ey;rw[<- h2,wL]
     have xy:(x,y)∈M:=ja.mp (qm ey);have bc:x∈(D++j6 J g).map (·.1):=by rw[zF];exact vz _ xk
     refine⟨_,rfl,_,rfl,d,_,rfl,.inl ⟨_,Sum.inl y,.inl O.hd,rfl,rfl⟩,?_⟩
     rcases yr (D++j6 J g) y with ⟨v,hv,my⟩ | ⟨hv,my⟩
     ·rw[hv]
      refine⟨_,rfl,ifF (by rfl) ?_⟩
      refine⟨_,g,rfl,ae,ah,O,ab,fun z U=>?_⟩
      rw[ap] at U;rcases qO.mp U with h | h
      ·exact Y z h
      ·rw[zP.mp h];exact my
     ·rw[hv]
      refine⟨_,rfl,ifT (by rfl) ?_⟩
      rcases yr (D++j6 J g) x with ⟨vx,ar,_⟩ | ⟨_,z⟩
      ·have aw:vx=(J:Int):=by
        rcases qO.mp ((zcR O.nd).mp ar) with z | z
        ·obtain⟨d0,e1,_,e3⟩:=lv.snd _ z
         rw[show vx=(d0:Int) from e1,e3.uniq xd]
        ·obtain⟨j0,ax,e⟩:=zT.mp z
         have e:j0=x:=congrArg Prod.fst e;have:=(O.snd j0 ax);rw[e] at this;have:=this.uniq xd;omega
       subst aw;have yd:Dist M (J+1) s y:=⟨xd.1.snoc xy,fun k' lt w'=>by
        obtain⟨d0,l0,h0⟩:=w'.dist;exact my (by rw[zF];exact vz _ (lv.all y d0 (by omega) h0))⟩
       have ak:∀j∈g,InN n j:=fun j N=>Wk.closed (C:=InN n) (fun x y _ h=>ai _ h) ins (O.snd j N).1
       have bb:g.Nodup:=by
        have:=O.nd;rw[zF,yK] at this;exact(Zi.mp this).2.1
       have ql:g.length<=n:=x6 bb ak;have nl:(j6 J g).length=g.length:=zo _;refine⟨_,rfl,_,rfl,d,_,rfl,.inl ⟨_,Sum.inl x,.inl O.hd,rfl,ar.symm⟩,_,_,rfl,rfl,_,rfl,_,rfl,d,_,rfl,.inl ⟨_,Sum.inl y,O.hd,rfl,by rw[Y4,zL,nl];omega,rfl⟩,?_⟩
       rw[zeg hv];have eq:(D++j6 J g)++[(y,(J:Int)+1)]=D++j6 J (g++[y]):=by
        unfold j6;rw[zF,WB];rfl
       rw[eq];have am:upd H4 d (.dK (dkI (D++j6 J (g++[y])))) l=some (.lst (g.map V.int)):=by rw[zk ld];exact O.hl
       have a0:((D++j6 J (g++[y])).map (·.1))=(D++j6 J g).map (·.1)++[y]:=by rw[<- eq,zF];rfl
       refine⟨_,rfl,.inl ⟨rfl,_,u7 am⟩,_,rfl,l,_,_,rfl,rfl,am,by rw[zo];omega,?_⟩
       refine⟨_,g++[y],rfl,by rw[zk (zN le),zk b0];exact ae,by rw[zk tl,zk td];exact ah,⟨by rw[zk (zN ld)];exact zc,by rw[zc,zF];rfl,fun c o z=>by rw[zk (zm z lH),zk (zm z hd)];exact O.sm _ _ z,?_,?_⟩,fun z U u hu=>?_,fun z U=>?_⟩
       ·rw[a0]
        exact Wg O.nd my
       ·intro z U
        rcases qO.mp U with h | h
        ·exact O.snd z h
        ·rw[zP.mp h];exact yd
       ·rw[a0]
        exact vz _ (ab z U u hu)
       ·rw[ap] at U
        rw[a0];rcases qO.mp U with h | h
        ·exact vz _ (Y z h)
        ·exact jz _ h
      ·exact absurd bc z
    ·rintro σ H4 ⟨v6,g,rfl,ae,ah,O,ab,Y⟩
     rw[zo,jS] at Y;refine⟨_,_,g,rfl,ae,O,fun z U y hy=>?_⟩
     rw[et] at U;rcases qO.mp U with h | h
     ·exact ab z h y hy
     ·rw[zP.mp h] at hy
      exact Y y (ja.mpr hy)
   ·rintro σ H3 ⟨v5,v6,g,rfl,aq,L,aa⟩
    rw[zo,jS] at aa;have ak:∀j∈g,InN n j:=fun j N=>Wk.closed (C:=InN n) (fun x y _ h=>ai _ h) ins (L.snd j N).1
    have az:=lv.next L.nd L.snd aa
    have ay:∀j∈(D++j6 J g).map (·.1),InN n j:=fun j N=>by
     rw[zF,yK] at N;rcases qO.mp N with h | h
     ·exact au j h
     ·exact ak j h
    have nl:(j6 J g).length=g.length:=zo _;have ql:D.length+g.length<=n:=by have:=x6 L.nd ay;rwa[zo,zL,nl] at this
    refine⟨_,rfl,2*(n-(D++j6 J g).length)+(if g=[] then 0 else 1),?_,l,g,D++j6 J g,J+1,_,_,_,rfl,lH,ld,L.hl,L.hd,L.sm,az,by omega,rfl⟩
    rw[zn (by simp:¬e1::er=[]),zL,nl]
    split
    ·omega
    ·rename_i h
     have:=WL.mpr h;omega
def zbr(c:List (Int×Int))(x:Int):Option Int:=match z7 (dkI c) (Sum.inl x) with | some (.int v)=>some v | _=>none
def prs(g:List (Int×Int))(c:List Int):List (Int×Int):=c.filterMap fun x=>(zbr g x).map fun v=>(v,x)
theorem Yb{c:List (Int×Int)}(g:(c.map (·.1)).Nodup){x v:Int}:zbr c x=some v↔(x,v)∈c:=by
 rw[<- zcR g];unfold zbr;rcases yr c x with ⟨u,h,_⟩ | ⟨h,_⟩
 ·rw[h]
  constructor
  ·intro e;cases e;rfl
  ·intro e;cases e;rfl
 ·rw[h]
  constructor
  ·intro e;cases e
  ·intro e;cases e
theorem JI{c:List (Int×Int)}(g:(c.map (·.1)).Nodup){i:List Int}{v x:Int}:(v,x)∈prs c i↔x∈i/\(x,v)∈c:=by
 unfold prs;rw[Xn];constructor
 ·rintro⟨y,hy,e⟩
  obtain⟨u,hu,e⟩:=z9.mp e;cases e;exact⟨hy,(Yb g).mp hu⟩
 ·rintro⟨hx,l⟩
  exact⟨x,hx,by rw[(Yb g).mpr l];rfl⟩
inductive X2(K:W.Frag)(o:List V)(H:Hp)(Q:VK):Prop
 | mk (l d:Addr) (g:List Int) (i:List (Int×Int)) (_:o=[.ref l,.ref d]) (_:SqL K H l (g.map V.int)) (_:H d=some (.dK (dkI i))) (_:(i.map (·.1)).Nodup) (_:g.length<=1000) (_:(∀c,Same H c->(∀x∈g,∀v,(x,v)∉i)->Q .non c)) (_:∀c x v,Same H c->x∈g->(x,v)∈i->(∀y u,y∈g->(y,u)∈i->v<u\/v=u/\x<=y)->Q (.int x) c):X2 K o H Q
def zbH(K:W.Frag):Sp:=fun c H Q _=>X2 K c H Q
theorem zbW:zB ["parts","steps","found"] ["parts","steps"] (zv (topL 26)):=u4
theorem zdW{f:Addr}{fd:FuncData}(F:Fun K "nearest_of" "nearest_of" (topL 26) f fd)(B:Blt I):FnOk P w K I G CX0 1 f fd ["parts","steps"] (zbH K):=by
 have nd:=zbW.nd;refine F.ok zbW (fun vs H Q E h=>?_) (fun a0 A Y s H vs Q E hr h=>?_)
 ·obtain⟨l,d,c,g,rfl,_⟩:=h
  rfl
 ·obtain⟨l,d,c,g,rfl,hl,hd,U,nl,k1,k2⟩:=h
  have sz:sizeLine=16777216:=sizeLine_eq;have L:=yp hr;have M:=hr.units;refine⟨_,(zg (zx (i:=2) nd rfl (Or.inl rfl) (Wc (zbd rfl M) rfl B.min zc0 (za (jg ["steps"] [1] rfl rfl (by kernel_rfl) (jG (pv 0)) (fun _ _ _ _=>(ZR (zb5 (zfI L (pv 0) (pv 1))))) (fun _ _ _ _=>(jH (za (JE L (pv 1) (pv 0) (fun _ _=>rfl)) (za (pv 0) zb))))) zb) xB))
   (zg (qM (zO yI (pv 2) xB (zJ _))
   (zj (zw xB))
   zR)
   (zj (zw (zH qH (pv 2) zi (fun _ _=>rfl)))))),?_⟩
  refine⟨_,rfl,l,rfl,⟨_,hl⟩,xt (K:=K) (a:=l) (xs:=c.map V.int) (fun i C J=>Same H J/\PrR J C (prs g (c.take i))) ⟨ua _,PrR.nil⟩ (fun i C J ⟨s1,_⟩=>s1.seq hl) ?_ ?_⟩
  ·rintro i x C J hx ⟨s1,w1⟩
   rw[zY] at hx;obtain⟨x,ex,rfl⟩:=z9.mp hx;have hi:=(zK.mp ex).1;have et:c.take (i+1)=c.take i++[x]:=by
    obtain⟨h1,h2⟩:=zK.mp ex;rw[<- h2,wL]
   have ep:prs g (c.take (i+1))=prs g (c.take i)++prs g [x]:=by rw[et];unfold prs;rw[List.filterMap_append]
   rw[ep];have zl:C.length<=i:=by
    rw[w1.1];refine zX (List.length_filterMap_le _ _) ?_
    rw[qD];omega
   refine⟨rfl,_,rfl,_,rfl,d,_,rfl,.inl ⟨_,Sum.inl x,.inl (s1 _ _ hd),rfl,rfl⟩,?_⟩
   rcases yr g x with ⟨v,hv,mx⟩ | ⟨hv,mx⟩
   ·have e1:prs g [x]=[(v,x)]:=by
     show List.filterMap _ [x]=_;simp[zbr,hv]
    rw[hv,e1];refine⟨_,rfl,ifT rfl ⟨_,rfl,_,rfl,d,_,rfl,.inl ⟨_,Sum.inl x,.inl (s1 _ _ hd),rfl,hv.symm⟩,_,rfl,(by show 2<=_;omega),fun T hT=>⟨by omega,s1.trans (ze hT),?_⟩⟩⟩
    exact PrR.snoc (q:=(v,x)) (w1.same (ze hT)) zc
   ·have e1:prs g [x]=[]:=by
     show List.filterMap _ [x]=_;simp[zbr,hv]
    rw[hv,e1,yw];exact⟨_,rfl,ifF rfl ⟨s1,w1⟩⟩
  ·rintro C J ⟨s1,w1⟩
   rw[zo,jS] at w1;have zl:=w1.1;have pl:(prs g c).length<=c.length:=List.length_filterMap_le _ _;refine⟨by omega,fun D N=>?_⟩
   have s2:=s1.trans (ze (o:=.lst C) N);refine⟨D,C,prs g c,rfl,u7 zc,w1.same (ze N),fun e=>?_,fun v ne ev=>?_⟩
   ·refine⟨_,rfl,rfl,_,rfl,ifT (by decide) (k1 _ s2 fun x hx v O=>?_)⟩
    have:=(JI U).mpr ⟨hx,O⟩;rw[e] at this;cases this
   ·have hm:=YU ne
    have eq:(prs g c)[Zu (prs g c)]? =some ((prs g c).getD (Zu (prs g c)) (0,0)):=by rw[jE,qA hm];rfl
    obtain⟨T,e1,e2⟩:=w1.2 _ _ eq;rw[ev] at e1;cases e1;have t:∀q∈prs g c,ltP q ((prs g c).getD (Zu (prs g c)) (0,0))=false:=fun q hq=>by
     obtain⟨j,hj,rfl⟩:=WK hq;have:=zd1 hj;rwa[jE (i:=j),qA hj] at this
    have mem:=qm eq;generalize (prs g c).getD (Zu (prs g c)) (0,0)=q at e2 t mem;obtain⟨v,x⟩:=q;obtain⟨hx,O⟩:=(JI U).mp mem;refine⟨_,rfl,rfl,_,rfl,ifF (by simp) ⟨_,rfl,T,_,_,.int x,rfl,rfl,u8 (ze N _ _ e2),rfl,k2 _ x v s2 hx O fun y u hy hu=>?_⟩⟩
    have:=of_decide_eq_false (t (u,y) ((JI U).mpr ⟨hy,hu⟩));have this:¬(u<v\/u=v/\y<x):=this;omega
structure Pre(as:List (Int×Int))(s:Int)(c:Nat)(rs:List Int)(x:Int):Prop where
 pos:1<=rs.length
 le:rs.length<=c
 head:rs[0]? =some s
 next:∀i,i+1<rs.length->∃a b,rs[i]? =some a/\rs[i+1]? =some b/\(a,b)∈as/\Dist as (c-1-i) b s/\∀b',(a,b')∈as->Dist as (c-1-i) b' s->b<=b'
 last:∃a,rs[rs.length-1]? =some a/\(a,x)∈as/\Dist as (c-rs.length) x s/\∀b',(a,b')∈as->Dist as (c-rs.length) b' s->x<=b'
theorem Pre.done{g:List (Int×Int)}{s:Int}{c:Nat}{l:List Int}(h:Pre g s c l s):RingAt g s c l:=by
 obtain⟨a,_,_,d,_⟩:=h.last;have:=d.uniq (Dist.zero g s);have e:l.length=c:=by have:=h.le;omega
 exact⟨e,h.head,fun i o=>h.next i (by omega)⟩
theorem Pre.more{l:List (Int×Int)}{s:Int}{c:Nat}{g:List Int}{x y:Int}{k:Nat}(h:Pre l s c g x)(M:c-g.length=k+1)(e:(x,y)∈l)(d:Dist l k y s)(m:∀o,(x,o)∈l->Dist l k o s->y<=o):Pre l s c (g++[x]) y:=by
 obtain⟨a,C,D,E,H⟩:=h.last;have L:=h.pos;have t:(g++[x]).length=g.length+1:=by rw[zL];rfl
 refine⟨by omega,by omega,by rw[jV L];exact h.head,fun i J=>?_,⟨x,?_,e,?_,fun o hb=>?_⟩⟩
 ·rw[t] at J
  by_cases z:i+1<g.length
  ·obtain⟨u,v,e1,e2,A⟩:=h.next i z
   exact⟨u,v,by rw[jV (by omega)];exact e1,by rw[jV z];exact e2,A⟩
  ·have B:i=g.length-1:=by omega
   refine⟨a,x,by rw[jV (by omega),B];exact C,by rw[show i+1=g.length by omega,jW (zy _),vR];rfl,D,?_⟩
   rw[show c-1-i=c-g.length by omega]
   exact⟨E,H⟩
 ·rw[t,Nat.add_sub_cancel,jW (zy _),vR];rfl
 ·rw[t,show c-(g.length+1)=k by omega];exact d
 ·rw[t,show c-(g.length+1)=k by omega];exact m o hb
inductive ZJ(K:W.Frag)(A:List V)(H:Hp)(Q:VK):Prop
 | mk (i:Int) (r d:Addr) (t:List (Key×V)) (g s:List (Int×Int)) (n:Nat) (_:A=[.int i,.ref r,.ref d]) (_:n<=60) (_:(∀p∈g,InN n p.1)) (_:H r=some (.dK t)) (_:RowsOk H t g) (_:H d=some (.dK (dkI s))) (_:(s.map (·.1)).Nodup) (_:(∀j v,(j,v)∈s↔∃k:Nat,v=k/\Dist g k j i)) (_:g.length<=1000) (_:(∀o,Same H o->(∀c,¬Cyc g i i c)->Q .non o)) (_:∀o l u c,Same H o->H l=none->o l=some (.lst (u.map V.int))->Cyc g i i c->RingAt g i c u->Q (.ref l) o):ZJ K A H Q
def XX(K:W.Frag):Sp:=fun c H Q _=>ZJ K c H Q
theorem X8:zB ["first","rows","steps","ring","part"] ["first","rows","steps"] (zv (topL 27)):=u4
theorem zaQ{f:Addr}{fd:FuncData}(F:Fun K "ring_by" "ring_by" (topL 27) f fd)(B:Blt I)(g:Dfn P w K I G "nearest_of" 1 ["parts","steps"] (zbH K)):FnOk P w K I G CX0 2 f fd ["first","rows","steps"] (XX K):=by
 have nd:=X8.nd;refine F.ok X8 (fun vs H Q E h=>?_) (fun am A ak s H vs Q E hr h=>?_)
 ·obtain⟨C,r,d,rk,N,ps,n,rfl,_⟩:=h
  rfl
 ·obtain⟨C,r,d,rk,N,ps,n,rfl,hn,ai,hR,ro,hd,nk,O,al,k1,k2⟩:=h
  have sz:sizeLine=16777216:=sizeLine_eq;have af:=yp hr;refine⟨_,(zg (zx (i:=3) nd rfl (Or.inl rfl) (qU (za (pv 0) zb)))
   (zg (zx (i:=4) nd rfl (Or.inl rfl) (zf g hr.m rfl (za (yh af (pv 1) (pv 0) (qU zb) ⟨rfl,rfl,rfl,rfl⟩) (za (pv 2) zb))))
   (zg (qM (zO yI (pv 4) xB (zJ _))
   (zj (zw xB))
   zR)
   (zg (Vd jR (zO Ja (pv 4) (pv 0) (zJ _))
   (zg (xI (yi vB Qg Qf j7 (pv 3) (za (pv 4) zb)))
    (zj (zx (i:=4) nd rfl (Or.inl rfl) (zf g hr.m rfl (za (JE af (pv 1) (pv 4) (fun _ _=>rfl)) (za (pv 2) zb)))))))
   (zj (zw (pv 3))))))),?_⟩
  refine⟨_,rfl,(by show 1<=_;omega),fun l hl=>?_⟩
  have s1:=ze (o:=.lst [V.int C]) hl;have l1:upd H l (.lst [V.int C]) l=some (.lst ([C].map V.int)):=zc;generalize upd H l (.lst [V.int C])=H1 at s1 l1;have sl:∀x,(xz N x).length<=1000:=fun x=>zX (Ye N x) al
  refine⟨_,rfl,r,rfl,.inl ⟨_,.inl (s1 _ _ hR)⟩,_,rfl,(by show 0<=_;omega),fun q hq=>?_⟩
  have sq:=ze (H:=H1) (o:=.lst []) hq;have s2:=s1.trans sq;have l2:=sq _ _ l1;refine⟨_,.inl ⟨rk,Sum.inl C,.inl (s2 _ _ hR),rfl,rfl⟩,?_⟩
  have tt:∃t,(z7 rk (Sum.inl C)).getD (.ref q)=.ref t/\upd H1 q (.lst []) t=some (.lst ((xz N C).map V.int)):=by
   cases z:z7 rk (Sum.inl C) with
   | none=>exact⟨q,rfl,by rw[ro.no C z];exact zc⟩
   | some v=>
    obtain⟨t,rfl,ht⟩:=ro.at_ C v z;exact⟨t,rfl,s2 _ _ ht⟩
  obtain⟨t,ah,ht⟩:=tt;rw[ah];have ae:H l=none:=hl;refine⟨_,rfl,t,d,xz N C,ps,rfl,u7 ht,s2 _ _ hd,nk,sl C,fun H3 s3 no=>?_,fun H3 x v s3 hx hp D=>?_⟩
  ·refine⟨_,rfl,rfl,_,rfl,ifT (by decide) (k1 _ (s2.trans s3) fun c hc=>?_)⟩
   obtain⟨c,rfl⟩:∃j,c=j+1:=⟨c-1,by have:=hc.1;omega⟩
   obtain⟨⟨y,e,U⟩,_⟩:=hc.down;exact no y (ja.mpr e) c ((O y c).mpr ⟨c,rfl,U⟩)
  obtain⟨L,rfl,ab⟩:=(O x v).mp hp;have xe:=ja.mp hx;have a0:Cyc N C C (L+1):=Cyc.of xe ab fun y d' e hy=>by
   have:=D y d' (ja.mpr e) ((O y d').mpr ⟨d',rfl,hy⟩);omega
  have M:Pre N C (L+1) [C] x:=⟨zy _,by show 1<=L+1;omega,rfl,fun i hi=>absurd hi (by show ¬i+1<1;omega),C,rfl,xe,ab,fun b' e hb=>by
   have hb:Dist N L b' C:=hb;have:=D b' L (ja.mpr e) ((O b' L).mpr ⟨L,rfl,hb⟩);omega⟩
  refine⟨_,rfl,rfl,_,rfl,ifF (by simp) ?_⟩
  refine⟨fun m σ Y=>∃(J:List Int) (x:Int),σ=[some (.int C),some (.ref r),some (.ref d),some (.ref l),some (.int x)]/\Same H Y/\Y l=some (.lst (J.map V.int))/\Pre N C (L+1) J x/\m=L+1-J.length,⟨_,[C],x,rfl,s2.trans s3,s3 _ _ l2,M,rfl⟩,?_⟩
  rintro m σ Y ⟨J,x,rfl,s4,l4,M,rfl⟩;refine⟨_,rfl,_,rfl,rfl,_,rfl,?_⟩
  by_cases ex:x=C
  ·subst ex
   refine Eq.mpr (zn (by simp)) ⟨_,rfl,k2 _ l J (L+1) s4 ae l4 a0 M.done⟩
  refine Eq.mpr (zr (by simp[ex])) ?_
  obtain⟨a,_,_,dx,_⟩:=M.last;obtain⟨k,ek⟩:∃k,L+1-J.length=k+1:=by
   rcases WG (L+1-J.length) with z | z
   ·rw[z] at dx;exact absurd dx.1 ex
   ·exact⟨L+1-J.length-1,by omega⟩
  rw[ek] at dx;obtain⟨⟨y0,e0,aa⟩,aj⟩:=dx.down;have rl:J.length<=L+1:=M.le;have ag:J.length<sizeLine:=by
   have:=a0.le ai;omega
  refine⟨_,fun _ _ h=>h,?_⟩
  refine⟨_,rfl,.inl ⟨rfl,_,u7 l4⟩,_,rfl,l,_,_,rfl,rfl,l4,by rw[zo];exact ag,?_⟩
  have s5:Same H (upd Y l (.lst (J.map V.int++[.int x]))):=fun b u e=>by rw[zk (zm e ae)];exact s4 _ _ e
  have l5:upd Y l (.lst (J.map V.int++[.int x])) l=some (.lst ((J++[x]).map V.int)):=by rw[zc,zF];rfl
  generalize upd Y l (.lst (J.map V.int++[.int x]))=H5 at s5 l5;obtain⟨v,hv⟩:∃v,z7 rk (Sum.inl x)=some v:=by
   cases z:z7 rk (Sum.inl x) with
   | none=>
    have:=ja.mpr e0;rw[ro.no x z] at this;cases this
   | some v=>exact⟨v,rfl⟩
  obtain⟨t,rfl,ht⟩:=ro.at_ x v hv;refine⟨_,rfl,_,rfl,r,_,rfl,.inl ⟨_,Sum.inl x,.inl (s5 _ _ hR),rfl,hv.symm⟩,_,rfl,t,d,xz N x,ps,rfl,u7 (s5 _ _ ht),s5 _ _ hd,nk,sl x,fun H6 s6 no=>?_,fun H6 y u s6 hy hp D=>?_⟩
  ·exact absurd ((O y0 k).mpr ⟨k,rfl,aa⟩) (no y0 (ja.mpr e0) k)
  ·obtain⟨U,rfl,ac⟩:=(O y u).mp hp
   have b0:=D y0 k (ja.mpr e0) ((O y0 k).mpr ⟨k,rfl,aa⟩);have lo:=aj y U (ja.mp hy) ac;have e:U=k:=by omega
   subst e;refine⟨L+1-(J++[x]).length,by rw[zL];show L+1-(J.length+1)<_;omega,J++[x],y,rfl,s5.trans s6,s6 _ _ l5,M.more ek (ja.mp hy) ac fun b' e hb=>?_,rfl⟩
   have:=D b' U (ja.mpr e) ((O b' U).mpr ⟨U,rfl,hb⟩);omega
def Told(g:List (Int×Int))(i:Nat)(t H:Hp)(v:V):Prop:=
 (v=.non/\∀s c,InN i s->¬Cyc g s s c)\/∃l s c o,v=.ref l/\t l=none/\H l=some (.lst (o.map V.int))/\Best g i s c/\RingAt g s c o
theorem Told.same{t:List (Int×Int)}{i:Nat}{o H g:Hp}{v:V}(h:Told t i o H v)(s:Same H g):Told t i o g v:=by
 rcases h with h | ⟨l,st,c,D,u,A,B,C⟩
 ·exact .inl h
 ·exact .inr ⟨l,st,c,D,u,A,s _ _ B,C⟩
inductive ZI(K:W.Frag)(i:List V)(H:Hp)(Q:VK):Prop
 | mk (n:Nat) (t:Addr) (l:List V) (c:List (Int×Int)) (_:i=[.int (n:Int),.ref t]) (_:SqL K H t l) (_:Reps K H (c.map prD) l) (_:c.length<=1000) (_:n<=60) (_:(∀p∈c,InN n p.1/\InN n p.2)) (_:∀v g,Same H g->Told c n H g v->Q v g):ZI K i H Q
def yg(K:W.Frag):Sp:=fun c H Q _=>ZI K c H Q
theorem X7:zB ["many","aheads","onward","backward","best","first","ring"] ["many","aheads"] (zv (topL 28)):=u4
def zat(n:Nat)(t:_)(s:_)(o:_)(g:_)(l:_)(H:_):=fun(i:Nat) (σ:St) (c:Hp)=>(Ex3 fun(v:V) (u A:Option V)=>An3 (σ=[some (.int (n:Int)),some (.ref t),some (.ref s),some (.ref o),some v,u,A]) (Same g c) (Told l i H c v):Prop)
theorem zaP{f:Addr}{fd:FuncData}(F:Fun K "ring_in" "ring_in" (topL 28) f fd)(B:Blt I)(L:Dfn P w K I G "turned" 1 ["pairs"] (Jq K))(g:Dfn P w K I G "next_by" 1 ["pairs"] (Ju K))(o:Dfn P w K I G "steps_from" 1 ["start","rows"] (Jr K))(J:Dfn P w K I G "ring_by" 2 ["first","rows","steps"] (XX K)) :
  FnOk P w K I G CX0 3 f fd ["many","aheads"] (yg K):=by
 have nd:=X7.nd;refine F.ok X7 (fun vs H Q E h=>?_) (fun ax A ar s H vs Q E hr h=>?_)
 ·obtain⟨n,t,xs,M,rfl,_⟩:=h
  rfl
 ·obtain⟨n,t,xs,M,rfl,ht,rp,la,ag,af,k⟩:=h
  have sz:sizeLine=16777216:=sizeLine_eq;have a0:(2^62:Int)=4611686018427387904:=by decide
  refine⟨_,(zg (zx (i:=2) nd rfl (Or.inl rfl) (zf g hr.m rfl (za (pv 1) zb)))
   (zg (zx (i:=3) nd rfl (Or.inl rfl) (zf g hr.m rfl (za (zf L hr.m rfl (za (pv 1) zb)) zb)))
   (zg (zx (i:=4) nd rfl (Or.inl rfl) xB)
   (zg (jh jR rfl (qI rfl B.range (za (pv 0) zb)) (zD (i:=5) nd rfl (Or.inl rfl))
   (zg (zx (i:=6) nd rfl (Or.inl rfl) (zf J hr.m rfl (za (pv 5) (za (pv 2) (za (zf o hr.m rfl (za (pv 5) (za (pv 3) zb))) zb)))))
    (zj (qM (PW.pt (zfu (zO zdO (pv 6) xB (zJ _)) (zdH (PW.pt (vw (zO yI (pv 4) xB (zJ _)) (xS (zO zci (zq zu rfl B.len boot_len (za (pv 6) zb)) (zq zu rfl B.len boot_len (za (pv 4) zb)) (zJ _))))))))
    (zj (zx (i:=4) nd rfl (Or.inl rfl) (pv 6)))
    zR))))
   (zj (zw (pv 4))))))),?_⟩
  refine⟨_,rfl,t,xs,M,rfl,.inl ht,rp,la,fun ro ak H1 s1 az ae ah=>?_⟩
  refine⟨_,rfl,t,xs,M,rfl,.inl (s1.seq ht),rp.same s1,la,fun tl ys H2 s2 ao al=>?_⟩
  have em:(M.map fun p=>prD p.swap)=(M.map Prod.swap).map prD:=by rw[jC];rfl
  rw[em] at al;refine⟨tl,ys,M.map Prod.swap,rfl,.inl (u7 ao),al,by rw[zo];exact la,fun rb aj H3 s3 ay ac ai=>?_⟩
  have Y:=s2.trans s3;have av:RowsOk H3 ak M:=(RowsOk.mk (fun i v e=>let ⟨l,a,_,b⟩:=ah.at_ i v e;⟨l,a,b⟩) ah.no).same Y
  have au:RowsOk H3 aj (M.map Prod.swap):=RowsOk.mk (fun i v e=>let ⟨l,a,_,b⟩:=ai.at_ i v e;⟨l,a,b⟩) ai.no
  have h3:=Y _ _ ae;have am:=s1.trans Y;refine⟨_,rfl,_,rfl,by rw[a0];omega,by rw[a0];omega,?_⟩
  rw[jT];refine jv (n:=n) (zat n t ro rb H3 M H) ⟨.non,_,_,rfl,ua _,.inl ⟨rfl,fun s c hs=>absurd hs.2 (by have:=hs.1;omega)⟩⟩ ?_ ?_
  ·rintro i σ H4 hi ⟨v,v5,v6,rfl,s4,D⟩
   have ap:InN n (0+(i:Int)):=⟨by omega,by omega⟩
   refine⟨_,rfl,_,rfl,_,rfl,_,rfl,0+(i:Int),rb,aj,M.map Prod.swap,n,rfl,s4 _ _ ac,au.same s4,ag,ap,fun p hp=>?_,by rw[zo];exact la,fun d ps H5 s5 hd an aq dm=>?_⟩
   ·obtain⟨q,hq,rfl⟩:=zT.mp hp
    exact(af q hq).1
   have u:=s4.trans s5;rw[yU] at dm;refine⟨0+(i:Int),ro,d,ak,M,ps,n,rfl,ag,fun p hp=>(af p hp).1,u _ _ h3,av.same u,an,aq,fun j v=>?_,la,fun H6 s6 no=>?_,fun H6 l rs c s6 hl O N ring=>?_⟩
   ·rw[yU,dm j v]
    exact⟨fun ⟨k,e,h⟩=>⟨k,e,Dist.turn.mp h⟩,fun ⟨k,e,h⟩=>⟨k,e,Dist.turn.mpr h⟩⟩
   ·rw[yU] at no
    have C:=D.same (s5.trans s6);refine⟨_,rfl,rfl,_,rfl,ifF (by simp) ?_⟩
    refine⟨v,_,_,rfl,u.trans s6,?_⟩
    rcases C with ⟨rfl,U⟩ | ⟨l,st,c,rs,h1,h2,h3,h4,h5⟩
    ·exact .inl ⟨rfl,zaV U no⟩
    ·exact .inr ⟨l,st,c,rs,h1,h2,h3,h4.keep fun c' hc=>absurd hc (no c'),h5⟩
   ·rw[yU] at N ring
    have C:=D.same (s5.trans s6);have ab:H l=none:=Same.free (am.trans u) hl;refine⟨_,rfl,rfl,_,rfl,ifT (by simp) ?_⟩
    rcases C with ⟨rfl,U⟩ | ⟨l',st,c',aw,rfl,h2,aa,h4,h5⟩
    ·refine⟨_,rfl,rfl,_,rfl,ifT (by decide) (ifT rfl ⟨_,rfl,_,_,_,rfl,u.trans s6,.inr ⟨l,_,c,rs,rfl,ab,O,Best.first U N,ring⟩⟩)⟩
    ·have r1:=ring.len
     have r2:=h5.len;refine⟨_,rfl,rfl,_,rfl,ifF (by simp) ⟨_,rfl,l,_,rfl,.inl (u7 O),_,rfl,l',_,rfl,.inl (u7 aa),_,_,rfl,rfl,_,rfl,?_⟩⟩
     rw[zo,zo,r1,r2];refine yn (fun c1=>?_) (fun c1=>?_)
     ·have lt:c<c':=by have:=vk c1;omega
      exact⟨_,rfl,_,_,_,rfl,u.trans s6,.inr ⟨l,_,c,rs,rfl,ab,O,h4.less N lt,ring⟩⟩
     ·have le:c'<=c:=by
       rcases yV c c' with z | z
       ·exact absurd (zW (by omega)) c1
       ·exact z
      exact⟨_,_,_,rfl,u.trans s6,.inr ⟨l',st,c',aw,rfl,h2,aa,h4.keep fun d hd=>by rw[<- N.uniq hd];exact le,h5⟩⟩
  ·rintro σ H4 ⟨v,v5,v6,rfl,s4,D⟩
   exact⟨_,rfl,k v H4 (am.trans s4) D⟩
theorem zcS{c g:List (Int×Int)}{s:Int}(h:∀j v,(j,v)∈g↔∃k:Nat,v=k/\Dist c k s j)(j:Int):j∈g.map (·.1)↔∃k,Wk c k s j:=by
 constructor
 ·intro l
  obtain⟨q,hq,rfl⟩:=zT.mp l;obtain⟨k,_,d⟩:=(h q.1 q.2).mp hq;exact⟨k,d.1⟩
 ·rintro⟨k,w⟩
  obtain⟨d,_,i⟩:=w.dist;exact zT.mpr ⟨(j,(d:Int)),(h j d).mpr ⟨d,rfl,i⟩,rfl⟩
theorem zew{g:List (Int×Int)}{n:Nat}(c:∀p∈g,InN n p.2):∀{k:Nat} {i j:Int},InN n i->Wk g k i j->InN n j
 | 0,i,j,l,e=>by cases(show i=j from e);exact l
 | k+1,i,j,l,⟨m,e,w⟩=>zew c (c _ e) w
theorem zbu{c g:List Int}(p:c.Perm g)(l:g.Nodup)(h:c.Pairwise (·<= ·)):c.Pairwise (·< ·):=by
 have i:c.Pairwise (·≠ ·):=p.nodup_iff.mpr l
 exact(h.and i).imp fun ⟨a,b⟩=>by omega
theorem zbv:∀{g i:List Int},g.Pairwise (·< ·)->i.Pairwise (·< ·)->(∀j,j∈g↔j∈i)->g=i
 | [],[],_,_,_=>rfl
 | [],y::i,_,_,h=>absurd ((h y).mpr (by simp)) (by simp)
 | x::g,[],_,_,h=>absurd ((h x).mp (by simp)) (by simp)
 | x::g,y::i,hx,hy,h=>by
  obtain⟨l,s⟩:=Qr.mp hx;obtain⟨o,t⟩:=Qr.mp hy;have e:x=y:=by
   rcases zQ.mp ((h x).mp (by simp)) with a | a
   ·exact a
   ·rcases zQ.mp ((h y).mpr (by simp)) with b | b
    ·exact b.symm
    ·have:=l y b
     have:=o x a;omega
  subst e;rw[zbv s t fun j=>?_]
  constructor
  ·intro c
   rcases zQ.mp ((h j).mp (qw _ c)) with a | a
   ·have:=l j c;omega
   ·exact a
  ·intro c
   rcases zQ.mp ((h j).mpr (qw _ c)) with a | a
   ·have:=o j c;omega
   ·exact a
inductive Yz(K:W.Frag)(t:List V)(H:Hp)(Q:VK):Prop
 | mk (s:Int) (r:Addr) (o:List (Key×V)) (c:List (Int×Int)) (n:Nat) (_:t=[.int s,.ref r]) (_:H r=some (.dK o)) (_:RowsOk H o c) (_:n<=60) (_:InN n s) (_:(∀p∈c,InN n p.2)) (_:c.length<=1000) (_:∀(l:Addr) (i:List Int) g,Same H g->H l=none->g l=some (.lst (i.map V.int))->i.Pairwise (·< ·)->(∀j,j∈i↔j≠s/\∃k,Wk c k s j)->Q (.ref l) g):Yz K t H Q
def zbN(K:W.Frag):Sp:=fun c H Q _=>Yz K c H Q
theorem zeW:zB ["part","rows"] ["part","rows"] (zv (topL 29)):=u4
theorem zfY{f:Addr}{fd:FuncData}(F:Fun K "all_from" "all_from" (topL 29) f fd)(B:Blt I)(g:Dfn P w K I G "steps_from" 1 ["start","rows"] (Jr K)):FnOk P w K I G CX0 2 f fd ["part","rows"] (zbN K):=by
 have nd:=zeW.nd;refine F.ok zeW (fun vs H Q E h=>?_) (fun ac A aa s H vs Q E hr h=>?_)
 ·obtain⟨s,r,rk,as,n,rfl,_⟩:=h
  rfl
 ·obtain⟨s,r,rk,as,n,rfl,hR,ro,a0,ins,C,al,k⟩:=h
  have ab:=bG100000;refine⟨_,(zj (zw (zq xu rfl B.sorted xg (za (jg ["part"] [0] rfl rfl (by kernel_rfl) (zcb (zf g hr.m rfl (za (pv 0) (za (pv 1) zb)))) (fun _ _ _ _=>(ZR (zO Ja (pv 0) (pv 1) (zJ _)))) (fun _ _ _ _=>(pv 0))) zb)))),?_⟩
  refine⟨_,rfl,_,rfl,s,r,rk,as,n,rfl,hR,ro,a0,ins,C,al,fun d t N s1 hd U J D=>?_⟩
  have mem:=zcS D;have lp:t.length<=n:=by
   have:=x6 (n:=n) J fun x hx=>by
    obtain⟨k,w⟩:=(mem x).mp hx;exact zew C ins w
   rwa[zo] at this
  refine⟨d,_,rfl,U,fun o=>zcH (d:=d) (o:=o) (kvs:=dkI t) (fun i M H'=>M=(((t.take i).map (·.1)).filter fun j=>decide (j≠s)).map V.int/\H'=upd N d (.frz o (.dK (dkI t)))) ⟨rfl,rfl⟩ (fun i M H' ⟨_,h⟩=>by rw[h];exact zc) ?_ ?_⟩
  ·rintro i kk v M H2 hx ⟨rfl,rfl⟩
   unfold dkI at hx;rw[zY] at hx;obtain⟨p,ep,e1⟩:=z9.mp hx;cases e1;have et:t.take (i+1)=t.take i++[p]:=by
    obtain⟨h1,h2⟩:=zK.mp ep;rw[<- h2,wL]
   have hi:=(zK.mp ep).1;rw[et,zF,Xk,zF];have Y:=Xr (fun j=>decide (j≠s)) ((t.take i).map (·.1))
   rw[zo,qD] at Y;refine⟨rfl,_,rfl,_,rfl,rfl,_,rfl,?_⟩
   by_cases c:p.1=s
   ·refine ifF (by show(!decide (V.int p.1=V.int s))=false;rw[c];simp) ⟨?_,rfl⟩
    simp[c]
   ·refine ifT (by show(!decide (V.int p.1=V.int s))=true;rw[qP (fun z=>c (V.int.inj z))];rfl) ⟨_,rfl,by rw[zo];omega,?_,rfl⟩
    simp[c,kV]
  ·rintro M H2 ⟨rfl,rfl⟩
   rw[Y4,jS];have Y:=Xr (fun j=>decide (j≠s)) (t.map (·.1))
   rw[zo] at Y;refine⟨by rw[zo];omega,fun l L=>⟨l,(t.map (·.1)).filter fun j=>decide (j≠s),rfl,u7 zc,by omega,fun l2 ms u pm pw=>?_⟩⟩
   have ld:l≠d:=fun z=>by rw[z,zc] at L;cases L
   have O:N l=none:=by rw[zk ld] at L;exact L
   have s3:Same H (upd (upd N d (.frz o (.dK (dkI t)))) l (.lst (((t.map (·.1)).filter fun j=>decide (j≠s)).map V.int))):=fun c o z=>by
    rw[zk (zm (s1 _ _ z) O),zk (zm z hd)];exact s1 _ _ z
   refine k l2 ms _ (s3.trans (ze u)) ?_ zc (zbu pm (J.filter _) pw) fun j=>?_
   ·cases z:H l2 with
    | none=>rfl
    | some o=>rw[s3 _ _ z] at u;cases u
   ·rw[pm.mem_iff,wm,mem j]
    constructor
    ·rintro⟨a,b⟩;exact⟨vk b,a⟩
    ·rintro⟨a,b⟩;exact⟨b,zW a⟩
def asI(J:Job):List (Int×Int):=J.as.map fun p=>((p.1:Int),(p.2:Int))
theorem JZ(J:Job):(asI J).map prD=J.as.map jY:=by
 unfold asI;rw[jC];rfl
theorem vt(J:Job):(asI J).length=J.as.length:=zo _
inductive ZL(K:W.Frag)(i:List V)(H:Hp)(Q:VK):Prop
 | mk (s:Int) (p:Addr) (J:Job) (_:i=[.ref p,.int s]) (_:Rep K H (wC J) (.ref p)) (_:J.ps.length<=60) (_:InN J.ps.length s) (_:(∀q∈asI J,InN J.ps.length q.1/\InN J.ps.length q.2)) (_:J.as.length<=300) (_:∀(l:Addr) (g:List Int) c,Same H c->H l=none->c l=some (.lst (g.map V.int))->g.Pairwise (·< ·)->(∀j,j∈g↔j≠s/\∃k,Wk (asI J) k s j)->Q (.ref l) c):ZL K i H Q
def X5(K:W.Frag):Sp:=fun c H Q _=>ZL K c H Q
inductive Q5(K:W.Frag)(i:List V)(H:Hp)(Q:VK):Prop
 | mk (s:Int) (p:Addr) (J:Job) (_:i=[.ref p,.int s]) (_:Rep K H (wC J) (.ref p)) (_:J.ps.length<=60) (_:InN J.ps.length s) (_:(∀q∈asI J,InN J.ps.length q.1/\InN J.ps.length q.2)) (_:J.as.length<=300) (_:∀(l:Addr) (g:List Int) c,Same H c->H l=none->c l=some (.lst (g.map V.int))->g.Pairwise (·< ·)->(∀j,j∈g↔j≠s/\∃k,Wk (asI J) k j s)->Q (.ref l) c):Q5 K i H Q
def Jv(K:W.Frag):Sp:=fun c H Q _=>Q5 K c H Q
theorem Va:zB ["job","part"] ["job","part"] (zv (topL 31)):=u4
theorem Z7{J:Job}{H:Hp}{p:Addr}(h:Rep K H (wC J) (.ref p)):∃(t:Addr) (g i l o:V) (c:List V),SqT K H p [g,i,l,o,.ref t]/\SqT K H t c/\Reps K H ((asI J).map prD) c:=by
 obtain⟨a,c,e,u,g,_,rfl,_,i,_,rfl,_,l,_,rfl,_,o,_,rfl,_,E,D,rfl,s,rfl⟩:=h;cases e;obtain⟨t,C,rfl,A,B⟩:=s;exact⟨t,_,_,_,_,C,u,A,by rw[JZ];exact B⟩
theorem zaS{f:Addr}{O:FuncData}(F:Fun K "behind_of" "behind_of" (topL 31) f O)(B:Blt I)(g:Dfn P w K I G "next_by" 1 ["pairs"] (Ju K))(c:Dfn P w K I G "all_from" 2 ["part","rows"] (zbN K)):FnOk P w K I G CX0 3 f O ["job","part"] (X5 K):=by
 have nd:=Va.nd;refine F.ok Va (fun vs H Q E h=>?_) (fun a0 A N s H vs Q E hr h=>?_)
 ·obtain⟨s,p,J,rfl,_⟩:=h
  rfl
 ·obtain⟨s,p,J,rfl,rp,M,ins,D,al,k⟩:=h
  have U:=bG100000;refine⟨_,(zj (zw (zf c hr.m rfl (za (pv 1) (za (zf g hr.m rfl (za (zH qH (pv 0) zi (fun _ _=>rfl)) zb)) zb))))),?_⟩
  obtain⟨t,x0,x1,x2,x3,xs,qa,qt,rx⟩:=Z7 rp;refine⟨_,rfl,_,rfl,p,_,_,_,rfl,rfl,qa,rfl,t,xs,asI J,rfl,.inr qt,rx,by rw[vt];omega,fun d L H1 s1 hd u nb=>?_⟩
  ·refine⟨s,d,L,asI J,J.ps.length,rfl,u,⟨fun i v hv=>let ⟨l,a,_,b⟩:=nb.at_ i v hv;⟨l,a,b⟩,nb.no⟩,M,ins,fun q hq=>(D q hq).2,by rw[vt];omega,fun l ms H2 s2 Y C pw mem=>?_⟩
   refine k l ms H2 (s1.trans s2) ?_ C pw mem
   cases z:H l with
   | none=>rfl
   | some o=>rw[s1 _ _ z] at Y;cases Y
theorem YI:zB ["job","part"] ["job","part"] (zv (topL 30)):=u4
theorem zct{f:Addr}{fd:FuncData}(F:Fun K "ahead_of" "ahead_of" (topL 30) f fd)(B:Blt I)(u:Dfn P w K I G "turned" 1 ["pairs"] (Jq K))(g:Dfn P w K I G "next_by" 1 ["pairs"] (Ju K))(c:Dfn P w K I G "all_from" 2 ["part","rows"] (zbN K)):FnOk P w K I G CX0 3 f fd ["job","part"] (Jv K):=by
 have nd:=YI.nd;refine F.ok YI (fun vs H Q E h=>?_) (fun ab A a0 s H vs Q E N h=>?_)
 ·obtain⟨s,p,J,rfl,_⟩:=h
  rfl
 ·obtain⟨s,p,J,rfl,rp,Y,ins,O,al,k⟩:=h
  have aa:=bG100000;refine⟨_,(zj (zw (zf c N.m rfl (za (pv 1) (za (zf g N.m rfl (za (zf u N.m rfl (za (zH qH (pv 0) zi (fun _ _=>rfl)) zb)) zb)) zb))))),?_⟩
  obtain⟨t,x0,x1,x2,x3,xs,qa,qt,rx⟩:=Z7 rp;refine⟨_,rfl,_,rfl,p,_,_,_,rfl,rfl,qa,rfl,t,xs,asI J,rfl,.inr qt,rx,by rw[vt];omega,fun l0 ys H0 s0 D ry=>?_⟩
  have em:((asI J).map Prod.swap).map prD=(asI J).map fun p=>prD p.swap:=by rw[jC];rfl
  refine⟨l0,ys,(asI J).map Prod.swap,rfl,.inl (u7 D),by rw[em];exact ry,by rw[zo,vt];omega,fun d U H1 s1 hd C nb=>?_⟩
  refine⟨s,d,U,(asI J).map Prod.swap,J.ps.length,rfl,C,⟨fun i v hv=>let ⟨l,a,_,b⟩:=nb.at_ i v hv;⟨l,a,b⟩,nb.no⟩,Y,ins,fun q hq=>?_,by rw[zo,vt];omega,fun l ms H2 s2 hl L pw mem=>?_⟩
  ·obtain⟨q',M,rfl⟩:=zT.mp hq
   exact(O q' M).1
  refine k l ms H2 (s0.trans (s1.trans s2)) ?_ L pw fun j=>?_
  ·cases z:H l with
   | none=>rfl
   | some o=>rw[s1 _ _ (s0 _ _ z)] at hl;cases hl
  ·rw[mem j]
   refine⟨fun ⟨a,k,b⟩=>⟨a,k,?_⟩,fun ⟨a,k,b⟩=>⟨a,k,b.back⟩⟩
   have:=b.back;rwa[wD] at this
def zhk(c:List Str)(f:jA):Bool:=decide ((c.count f.k:Int)<=f.m)
inductive QX(K:W.Frag)(i:List V)(H:Hp)(Q:VK):Prop
 | mk (g:Addr) (J:Job) (_:i=[.ref g]) (_:Rep K H (wC J) (.ref g)) (_:J.ps.length<=60) (_:J.fs.length<=100) (_:∀c,Same H c->Q (.bl (ZG J)) c):QX K i H Q
def Yk(K:W.Frag):Sp:=fun c H Q _=>QX K c H Q
theorem YC:zB ["job","counts"] ["job"] (zv (topL 34)):=u4
theorem zeb(J:Job):(J.fs.map (zhk (zV J))).all id=ZG J:=by rw[Qj];rfl
theorem zcn{f:Addr}{fd:FuncData}(F:Fun K "is_stocked" "is_stocked" (topL 34) f fd)(B:Blt I)(c:Dfn P w K I G "wanted_of" 1 ["job"] (VX K)):FnOk P w K I G CX0 2 f fd ["job"] (Yk K):=by
 have nd:=YC.nd;refine F.ok YC (fun vs H Q E h=>?_) (fun ac A a0 s H vs Q E O h=>?_)
 ·obtain⟨Y,J,rfl,_⟩:=h
  rfl
 ·obtain⟨Y,J,rfl,rj,pl,fl,k⟩:=h
  have U:=yp O;have ab:=bG100000;refine⟨_,(zg (zx (i:=1) nd rfl (Or.inr rfl) (qe (Wo O.hd) rfl B.dict zbh (za (zf c O.m rfl (za (pv 0) zb)) zb)))
   (zj (zw (zq (jL rfl) rfl B.all boot_all (za (zfF ["counts"] [1] rfl rfl (by kernel_rfl) (xj (zH qH (pv 0) zi (fun _ _=>rfl))) (fun _ _ _ _=>qT) (fun _ _ _ _=>(qR ze4 (pv 2) (yh U (pv 3) (pv 0) zi ⟨rfl,rfl,rfl,rfl⟩) (zJ _)))) zb))))),?_⟩
  refine⟨_,rfl,Y,J,rfl,rj,pl,fun l t C H1 hl s1 L1 up mm mn ml wt=>⟨l,C,dkC (zV J) t,rfl,L1,wt.prs,fun d hd=>?_⟩⟩
  have em:jJ [] (dkC (zV J) t)=dkC (zV J) t:=Jg (zV J) t [] mn;rw[em];have s2:=s1.trans (ze (o:=.dK (dkC (zV J) t)) hd);have N:upd H1 d (.dK (dkC (zV J) t)) d=some (.dK (dkC (zV J) t)):=zc;generalize upd H1 d (.dK (dkC (zV J) t))=H2 at s2 N;obtain⟨g,fs,ps,as,fv,ae,qj,_,qf,rf,qp,rp,_⟩:=jc (rj.same s2);have lf:=rf.len;rw[zo] at lf;refine⟨_,rfl,Y,_,_,_,rfl,rfl,qj,rfl,fs,rfl,⟨_,qf⟩,xX (K:=K) (a:=fs) (xs:=fv) (fun i C M=>C=((J.fs.take i).map (zhk (zV J))).map V.bl/\Same H2 M) ⟨rfl,ua _⟩ (fun i C M ⟨_,u⟩=>u.sqT qf) ?_ ?_⟩
  ·rintro i x C M hx ⟨rfl,u⟩
   obtain⟨dd,e1,r1⟩:=(rf.same u).get hx;rw[zY] at e1;obtain⟨fe,L,rfl⟩:=z9.mp e1;have hi:=(zK.mp L).1;obtain⟨fa,fc,rfl,aa,_⟩:=vc r1;refine⟨fa,_,rfl,aa,rfl,_,_,rfl,_,_,rfl,_,_,rfl,rfl,rfl,?_⟩
   refine⟨_,rfl,_,rfl,d,rfl,.inl ⟨_,.inl (u _ _ N)⟩,_,rfl,_,DGet.k (k:=Sum.inr fe.k) (u _ _ N),?_⟩
   rw[Y6 fun z=>(mm _).mpr z]
   refine⟨_,_,rfl,rfl,?_,?_,u⟩
   ·rw[zo,zo,qD];omega
   ·rw[ju L,zF,zF]
    rfl
  ·rintro C M ⟨rfl,u⟩
   rw[lf,jS];refine⟨by rw[zo,zo];omega,fun D hD=>⟨D,_,rfl,u7 zc,?_⟩⟩
   rw[zeb];exact k _ (s2.trans (u.trans (ze hD)))
inductive Yw(K:W.Frag)(o:List V)(H:Hp)(Q:VK):Prop
 | mk (g:Addr) (J:Job) (i:Str) (_:o=[.ref g,.str i]) (_:Rep K H (wC J) (.ref g)) (_:J.fs.length<=100) (_:∀(l:Addr) c,H l=none->Same H c->c l=some (.lst (qZ (atK J.fs i J.fs.length)))->Q (.ref l) c):Yw K o H Q
def zeG(K:W.Frag):Sp:=fun c H Q _=>Yw K c H Q
theorem zeT:zB ["job","kind"] ["job","kind"] (zv (topL 32)):=u4
theorem zfV{f:Addr}{O:FuncData}(F:Fun K "feeders_for" "feeders_for" (topL 32) f O)(B:Blt I):FnOk P w K I G CX0 1 f O ["job","kind"] (zeG K):=by
 have nd:=zeT.nd;refine F.ok zeT (fun vs H Q E h=>?_) (fun aa A M s H vs Q E hr h=>?_)
 ·obtain⟨jp,J,D,rfl,_⟩:=h
  rfl
 ·obtain⟨jp,J,D,rfl,rj,fl,k⟩:=h
  have a0:=bG100000;obtain⟨g,U,ps,as,fv,ab,qj,_,qf,rf,qp,rp,_⟩:=jc rj;have lf:=rf.len;rw[zo] at lf;refine⟨_,(zj (zw (Wb ["kind"] [1] rfl rfl (by kernel_rfl) (zca rfl B.enumerate (za (zH qH (pv 0) zi (fun _ _=>rfl)) zb)) (fun _ _ _ _=>(ZR (zO yj (zH (xL (K:=K) rfl) (pv 1) zi (fun _ _=>rfl)) (pv 2) (zJ _)))) (fun _ _ _ _=>(pv 0))))),?_⟩
  refine⟨_,rfl,jp,_,_,_,rfl,rfl,qj,rfl,U,rfl,⟨_,qf⟩,zcG (K:=K) (a:=U) (xs:=fv) (fun i L C=>L=qZ (atK J.fs D i)/\Same H C) ⟨rfl,ua _⟩ (fun i L C ⟨_,u⟩=>u.sqT qf) ?_ ?_⟩
  ·rintro i x L C T hx ⟨rfl,u⟩ Y
   obtain⟨d,e1,r1⟩:=(rf.same u).get hx;rw[zY] at e1;obtain⟨fe,t,rfl⟩:=z9.mp e1;have hi:=(zK.mp t).1;have sT:=u.trans (ze (o:=.tup [.int (i:Int),x]) Y);obtain⟨fa,fc,rfl,N,_⟩:=vc (r1.same (ze (o:=.tup [.int (i:Int),x]) Y));have le:=JX J.fs D i;refine⟨T,_,rfl,u8 zc,rfl,_,_,rfl,_,_,rfl,rfl,rfl,?_⟩
   refine⟨_,rfl,fa,_,_,_,rfl,rfl,N,rfl,_,rfl,rfl,_,rfl,yn (fun c=>⟨_,rfl,?_,?_,sT⟩) (fun c=>⟨?_,sT⟩)⟩
   ·rw[qL];omega
   ·rw[zep t (V.str.inj (vk c)),yL]
   ·rw[zeq t fun z=>c (zW (by rw[z]))]
  ·rintro L C ⟨rfl,u⟩
   rw[lf];have le:=JX J.fs D J.fs.length;exact⟨by rw[qL];omega,fun l hl=>k l _ (u.none hl) (u.trans (ze hl)) zc⟩
def VH(c:List (Int×Int)):Prop:=∀s k,¬Wk c (k+1) s s
theorem Wk.rank{c:List (Int×Int)}{rk:Int->Nat}(h:∀q∈c,rk q.1<rk q.2):∀{k:Nat} {a b:Int},Wk c k a b->rk a+k<=rk b
 | 0,a,b,e=>by cases(show a=b from e);exact zy _
 | k+1,a,b,⟨m,e,w⟩=>by
  have:=Wk.rank h w;have:rk a<rk m:=h (a,m) e;omega
def vp(p:Nat×Nat):Int×Int:=(p.1,p.2)
theorem ByOrd.at_{c:List Nat}{i:List (Nat×Nat)}{n:Nat}(g:c.Perm (List.range n))(u:ByOrd c i):∀p∈i,p.1<n/\p.2<n/\c.idxOf p.1<c.idxOf p.2:=fun p C=>by
 obtain⟨k,l,D,e1,e2⟩:=u p C;have t:=g.nodup_iff.mpr Qn;obtain⟨A,o⟩:=zK.mp e1;obtain⟨B,s⟩:=zK.mp e2;refine⟨qC.mp (g.mem_iff.mp (o▸vy A)),qC.mp (g.mem_iff.mp (s▸vy B)),?_⟩
 rw[<- o,<- s,t.idxOf_getElem,t.idxOf_getElem];exact D
theorem ByOrd.free{c:List Nat}{g:List (Nat×Nat)}{n:Nat}(t:c.Perm (List.range n))(l:ByOrd c g):VH (g.map vp):=fun s k w=>by
 have:=w.rank (rk:=fun i=>c.idxOf i.toNat) fun q hq=>by
  obtain⟨p,o,rfl⟩:=zT.mp hq;exact(l.at_ t p o).2.2
 omega
structure zdp(J:Job):Prop where
 gate:inP J.gx J.gy
 hd0:1<=J.hd
 hd1:J.hd<=4
 fl:J.fs.length<=20
 fa:∀f∈J.fs,okF f
 pl:J.ps.length<=60
 pa:∀p∈J.ps,inP p.x p.y/\∃f∈J.fs,f.k=p.k
 pd:(J.ps.map fun p=>(p.x,p.y)).Nodup
 al:J.as.length<=200
 ab:∀p∈J.as,p.1<J.ps.length/\p.2<J.ps.length/\p.1≠p.2
theorem JobOk.rt{J:Job}{l:List Nat}(g:JobOk J l):zdp J:=⟨g.gate,g.hd0,g.hd1,g.fl,g.fa,g.pl,fun p i=>(g.pa p i).2,g.pd,zX g.al (by decide),fun p i=>by
 obtain⟨a,b,c⟩:=g.bo.at_ g.op p i;exact⟨a,b,fun z=>by rw[z] at c;exact xh _ c⟩⟩
inductive Yu(K:W.Frag)(l:List V)(H:Hp)(Q:VK):Prop
 | mk (i:Addr) (J:Job) (_:l=[.ref i]) (_:Rep K H (wC J) (.ref i)) (_:zdp J) (_:∀(c:Bool) g,Same H g->(c=true↔VH (J.as.map vp))->Q (.bl c) g):Yu K l H Q
def zbI(K:W.Frag):Sp:=fun c H Q _=>Yu K c H Q
theorem xZ{g:List (Int×Int)}{n:Nat}{o H:Hp}{v:V}(i:∀p∈g,InN n p.1/\InN n p.2)(h:Told g n o H v):decide (v=.non)=true↔VH g:=by
 rw[vX];rcases h with ⟨rfl,u⟩ | ⟨l,s,c,A,rfl,_,_,b,_⟩
 ·refine⟨fun _ s k w=>?_,fun _=>rfl⟩
  obtain⟨m,e,_⟩:=id w;obtain⟨d,_,t⟩:=Wk.cyc (by omega:1<=k+1) w
  exact u s d (i _ e).1 t
 ·refine⟨(fun z=>nomatch z),fun f=>?_⟩
  obtain⟨_,⟨c1,w,_⟩,_⟩:=b;obtain⟨k,rfl⟩:∃k,c=k+1:=⟨c-1,by omega⟩
  exact absurd w (f s k)
theorem zeR:zB ["thing","gate","heads","feeders","parts","aheads"] ["thing"] (zv (topL 22)):=u4
theorem zfT{f:Addr}{fd:FuncData}{tf:Tok}(F:Fun K "is_job" "is_job" (topL 22) f fd)(B:Blt I)(u:Dfn P w K I G "is_tuple_of" 1 ["thing","many"] (XU K))(M:Dfn P w K I G "is_place" 3 ["thing"] (Jt K))(c:Dfn P w K I G "is_number_within" 2 ["thing","least","most"] ZH)
  (t:Dfn P w K I G "are_feeders" 5 ["thing"] (zeF K)) (L:Dfn P w K I G "are_parts" 5 ["thing","feeders"] (zeB K)) (D:Dfn P w K I G "are_aheads" 4 ["thing","many"] (zeI K)) (O:Dfn P w K I G "ring_in" 3 ["many","aheads"] (yg K)) (C:I "MOST_HEADS" = some (.int 4 tf)):FnOk P w K I G CX0 6 f fd ["thing"] (zbI K):=by
 have nd:=zeR.nd;refine F.ok zeR (fun vs H Q E h=>?_) (fun ac A aa s H vs Q E U h=>?_)
 ·obtain⟨jp,J,rfl,_⟩:=h
  rfl
 ·obtain⟨jp,J,rfl,rj,N,k⟩:=h
  obtain⟨g,fs,ps,as,fv,ab,qj,rg,qf,rf,qp,rp,ra⟩:=jc rj;have lp:=rp.len;rw[zo] at lp;refine⟨_,(zg (qM (qX (qS (zf u U.m rfl (za (pv 0) (za zi zb)))))
   (zj (zw ji))
   zR)
   (zg (wQ (pv 0) (xA rfl (zE (zD (i:=1) nd rfl (Or.inl rfl)) (zE (zD (i:=2) nd rfl (Or.inl rfl)) (zE (zD (i:=3) nd rfl (Or.inl rfl)) (zE (zD (i:=4) nd rfl (Or.inl rfl)) (zE (zD (i:=5) nd rfl (Or.inl rfl)) jM)))))))
   (zg (qM (PW.pt (vw (qX (qS (zf M U.m rfl (za (pv 1) zb)))) (xS (qX (qS (zf c U.m rfl (za (pv 2) (za zi (za (xJ (v:=.int 4) rfl C ⟨_,rfl⟩) zb)))))))))
   (zj (zw ji))
   zR)
   (zg (qM (PW.pt (vw (qX (qS (zf t U.m rfl (za (pv 3) zb)))) (xS (qX (qS (zf L U.m rfl (za (pv 4) (za (pv 3) zb))))))))
   (zj (zw ji))
   zR)
   (zg (qM (qX (qS (zf D U.m rfl (za (pv 5) (za (zq zu rfl B.len boot_len (za (pv 4) zb)) zb)))))
   (zj (zw ji))
   zR)
   (zj (zw (qR yI (zf O U.m rfl (za (zq zu rfl B.len boot_len (za (pv 4) zb)) (za (qe jQ rfl B.list qV (za (pv 5) zb)) zb))) xB (zJ _))))))))),?_⟩
  refine⟨_,rfl,jp,_,5,rfl,qj,rfl,_,rfl,ifF rfl ⟨_,rfl,jp,_,rfl,qj,rfl,_,_,rfl,_,_,rfl,_,_,rfl,_,_,rfl,_,_,rfl,rfl,?_⟩⟩
  refine⟨_,rfl,.ref g,J.gx,J.gy,rfl,rg,N.gate,fun H1 s1=>⟨_,rfl,ifF rfl ?_⟩⟩
  refine⟨_,rfl,J.hd,1,4,rfl,N.hd0,N.hd1,_,rfl,ifF rfl ?_⟩
  refine⟨_,rfl,fs,fv,J.fs,rfl,s1.sqT qf,rf.same s1,N.fl,N.fa,fun H2 s2=>⟨_,rfl,ifF rfl ?_⟩⟩
  have s2:=s1.trans s2;refine⟨_,rfl,_,rfl,ps,fs,ab,fv,J.ps,J.fs,rfl,s2.sqT qp,rp.same s2,s2.sqT qf,rf.same s2,zX N.fl (by decide),N.pl,N.pa,N.pd,fun H3 s3=>⟨_,rfl,ifF rfl ?_⟩⟩
  have s3:=s2.trans s3;refine⟨_,rfl,_,rfl,ps,_,rfl,.inr (s3.sqT qp),as,J.ps.length,J.as,(by rw[lp];rfl),ra.same s3,N.al,N.ab,fun H4 s4=>⟨_,rfl,ifF rfl ?_⟩⟩
  have s4:=s3.trans s4;obtain⟨a',av,ea,qa,a0⟩:=ra.same s4;cases ea;have la:=a0.len;rw[zo] at la;refine⟨_,rfl,ps,_,rfl,.inr (s4.sqT qp),_,rfl,as,av,rfl,.inr qa,fun l hl=>?_⟩
  have s5:=s4.trans (ze (o:=.lst av) hl);have Y:∀p∈J.as.map vp,InN J.ps.length p.1/\InN J.ps.length p.2:=fun p hp=>by
   obtain⟨q,hq,rfl⟩:=zT.mp hp;obtain⟨h1,h2,_⟩:=N.ab q hq;exact⟨⟨wJ _,vQ.mpr h1⟩,wJ _,vQ.mpr h2⟩
  refine⟨J.ps.length,l,av,J.as.map vp,(by rw[lp];rfl),u7 zc,?_,by rw[zo];exact zX N.al (by decide),N.pl,Y,fun v H6 s6 tv=>?_⟩
  ·rw[jC]
   exact a0.same (ze hl)
  ·exact⟨rfl,k _ _ (s5.trans s6) (xZ Y tv)⟩
def atP(c:List w9)(k:Nat):w9:=(c[k]?).getD ⟨"",0,0⟩
def atF(c:List jA)(k:Nat):jA:=(c[k]?).getD ⟨"",0,0,0⟩
theorem zc4{c:List w9}{k:Nat}(h:k<c.length):c[k]? =some (atP c k):=by unfold atP;simp[h]
theorem Wr{c:List jA}{k:Nat}(h:k<c.length):c[k]? =some (atF c k):=by unfold atF;simp[h]
def qh(J:Job)(c g:List Nat):Job:=⟨J.gx,J.gy,J.hd,g.map (atF J.fs),c.map (atP J.ps),J.as.map fun p=>(c.idxOf p.1,c.idxOf p.2)⟩
theorem ZV{os:List Nat}{i:Nat}{x:V}(h:(qZ os)[i]? =some x):∃k:Nat,os[i]? =some k/\x=.int (k:Int):=by
 unfold qZ at h;rw[zY] at h;obtain⟨k,e,rfl⟩:=z9.mp h;exact⟨k,e,rfl⟩
theorem JA{α:Type}{H:Hp}{l:List α}{f:α->Dat}{c:List V}(r:Reps K H (l.map f) c){k:Nat}{p:α}(e:l[k]? =some p):∃y,c[k]? =some y/\Rep K H (f p) y:=by
 have h:=(zK.mp e).1;have g:k<c.length:=by rw[r.len,zo];exact h
 obtain⟨d,e1,e2⟩:=r.get (qA g);rw[zY,e] at e1;cases e1;exact⟨_,qA g,e2⟩
theorem yo(os:List Nat)(k:Nat):(os.map fun n:Nat=>(n:Int)).idxOf (k:Int)=os.idxOf k:=by
 induction os with
 | nil=>rfl
 | cons a l c=>
  rw[jn,List.idxOf_cons,List.idxOf_cons,c];by_cases e:a=k
  ·subst e;simp
  ·have:((a:Int)==(k:Int))=false:=beq_eq_false_iff_ne.mpr fun z=>e (by omega)
   rw[this,beq_eq_false_iff_ne.mpr e]
theorem yk(os:List Nat):qZ os=(os.map fun n:Nat=>(n:Int)).map V.int:=by unfold qZ;rw[jC];rfl
inductive QW(K:W.Frag)(t:List V)(H:Hp)(Q:VK):Prop
 | mk (o l s:Addr) (J:Job) (c g:List Nat) (_:t=[.ref o,.ref l,.ref s]) (_:Rep K H (wC J) (.ref o)) (_:H l=some (.lst (qZ c))) (_:H s=some (.lst (qZ g))) (_:(∀k∈c,k<J.ps.length)) (_:(∀k∈g,k<J.fs.length)) (_:(∀p∈J.as,p.1∈c/\p.2∈c)) (_:c.length<=1000) (_:g.length<=1000) (_:J.as.length<=1000) (_:∀p i,Same H i->Rep K i (wC (qh J c g)) (.ref p)->Q (.ref p) i):QW K t H Q
def Yg(K:W.Frag):Sp:=fun c H Q _=>QW K c H Q
theorem YB:zB ["_law_job_here","_law_order","_law_row","_law_parts","_law_feeders_here","_law_aheads_here"] ["_law_job_here","_law_order","_law_row"] (zv (topL 48)):=u4
theorem zcm{f:Addr}{fd:FuncData}(F:Fun K "_law_turned" "_law_turned" (topL 48) f fd)(B:Blt I):FnOk P w K I G CX0 1 f fd ["_law_job_here","_law_order","_law_row"] (Yg K):=by
 have nd:=YB.nd;refine F.ok YB (fun vs H Q E h=>?_) (fun ao A am s H vs Q E hr h=>?_)
 ·obtain⟨jp,jo,jr,J,l,O,rfl,_⟩:=h
  rfl
 ·obtain⟨jp,jo,jr,J,l,O,rfl,rj,ho,hw,bo,bw,ba,lo,lw,la,k⟩:=h
  have an:=bG1000000;obtain⟨g,fs,ps,as,fv,ap,qj,rg,qf,rf,qp,rp,ra⟩:=jc rj;have lf:=rf.len;have lp:=rp.len;rw[zo] at lf lp;refine⟨_,(zg (zx (i:=3) nd rfl (Or.inl rfl) (qe jf rfl B.tuple qY (za (jg ["_law_job_here"] [0] rfl rfl (by kernel_rfl) (jG (pv 1)) (fun _ _ _ _=>qT) (fun _ _ _ _=>(zH (xL (K:=K) rfl) (zH (xL (K:=K) rfl) (pv 1) zi (fun _ _=>rfl)) (pv 0) (fun _ _=>rfl)))) zb)))
   (zg (zx (i:=4) nd rfl (Or.inl rfl) (qe jf rfl B.tuple qY (za (jg ["_law_job_here"] [0] rfl rfl (by kernel_rfl) (jG (pv 2)) (fun _ _ _ _=>qT) (fun _ _ _ _=>(zH (xL (K:=K) rfl) (zH (xL (K:=K) rfl) (pv 1) zi (fun _ _=>rfl)) (pv 0) (fun _ _=>rfl)))) zb)))
   (zg (zx (i:=5) nd rfl (Or.inl rfl) (qe jf rfl B.tuple qY (za (Wb ["_law_order"] [1] rfl rfl (by kernel_rfl) (xj (zH qH (pv 0) zi (fun _ _=>rfl))) (fun _ _ _ _=>qT) (fun _ _ _ _=>(jH (za (JF (K:=K) rfl vB XB XA wx (pv 2) (za (pv 0) zb)) (za (JF (K:=K) rfl vB XB XA wx (pv 2) (za (pv 1) zb)) zb))))) zb)))
   (zj (zw (jH (pa5 (zH qH (pv 0) zi (fun _ _=>rfl)) (zH qH (pv 0) zi (fun _ _=>rfl)) (pv 4) (pv 3) (pv 5)))))))),?_⟩
  refine⟨_,rfl,jo,rfl,⟨_,u7 ho⟩,xt (K:=K) (a:=jo) (xs:=qZ l) (fun i t c=>Reps K c (((l.take i).map (atP J.ps)).map jX) t/\Same H c) ⟨rfl,ua _⟩ (fun i t c ⟨_,s⟩=>u7 (s _ _ ho)) ?_ ?_⟩
  ·rintro i x t c hx ⟨C,s1⟩
   obtain⟨kk,hk,rfl⟩:=ZV hx;obtain⟨y,ey,ry⟩:=JA (rp.same s1) (zc4 (bo kk (qm hk)));have hi:=(zK.mp hk).1;refine⟨rfl,⟨_,rfl,jp,_,_,_,rfl,rfl,s1.sqT qj,rfl,_,rfl,ps,_,_,_,rfl,rfl,s1.sqT qp,j9 ey,?_,?_,s1⟩⟩
   ·rw[C.len,zo,zo,qD];omega
   ·rw[ju hk,zF,zF]
    exact ud ry C
  rintro t c ⟨C,s1⟩;rw[qL,jS] at C;refine⟨by rw[C.len,zo,zo];omega,fun D hD=>⟨D,t,rfl,.inl ⟨u7 zc,fun pt ae=>?_⟩⟩⟩
  have L:=(ze (o:=.lst t) hD).trans (ze (o:=.tup t) ae);have s2:=s1.trans L;have P2:SqT K (upd (upd c D (.lst t)) pt (.tup t)) pt t:=u8 zc;have aa:=C.same L;generalize upd (upd c D (.lst t)) pt (.tup t)=H2 at s2 P2 aa;clear L ae hD C s1;refine⟨_,rfl,jr,rfl,⟨_,u7 (s2 _ _ hw)⟩,xt (K:=K) (a:=jr) (xs:=qZ O) (fun i t c=>Reps K c (((O.take i).map (atF J.fs)).map xM) t/\Same H2 c) ⟨rfl,ua _⟩ (fun i t c ⟨_,s⟩=>u7 (s _ _ (s2 _ _ hw))) ?_ ?_⟩
  ·rintro i x t c hx ⟨C,s1⟩
   have ab:=s2.trans s1;obtain⟨kk,hk,rfl⟩:=ZV hx;obtain⟨y,ey,ry⟩:=JA (rf.same ab) (Wr (bw kk (qm hk)));have hi:=(zK.mp hk).1;refine⟨rfl,⟨_,rfl,jp,_,_,_,rfl,rfl,ab.sqT qj,rfl,_,rfl,fs,_,_,_,rfl,rfl,ab.sqT qf,j9 ey,?_,?_,s1⟩⟩
   ·rw[C.len,zo,zo,qD];omega
   ·rw[ju hk,zF,zF]
    exact ud ry C
  rintro Y c ⟨U,s1⟩;rw[qL,jS] at U;refine⟨by rw[U.len,zo,zo];omega,fun D hD=>⟨D,Y,rfl,.inl ⟨u7 zc,fun ft ac=>?_⟩⟩⟩
  have L:=(ze (o:=.lst Y) hD).trans (ze (o:=.tup Y) ac);have s3:=s2.trans (s1.trans L);have F3:SqT K (upd (upd c D (.lst Y)) ft (.tup Y)) ft Y:=u8 zc;have ah:=U.same L;have P3:=(s1.trans L).sqT P2;have aj:=aa.same (s1.trans L);generalize upd (upd c D (.lst Y)) ft (.tup Y)=H3 at s3 F3 ah P3 aj;clear L ac hD U s1 P2 aa s2;obtain⟨a0,av,ea,qa,ag⟩:=ra.same s3;cases ea;have af:=ag.len;rw[zo] at af;have N:∀{H'},Same H3 H'->H' jo=some (.lst ((l.map fun n:Nat=>(n:Int)).map V.int)):=fun s=>by rw[<- yk];exact s _ _ (s3 _ _ ho)
  refine⟨_,rfl,jp,_,_,_,rfl,rfl,s3.sqT qj,rfl,as,rfl,⟨_,qa⟩,xX (K:=K) (a:=as) (xs:=av) (fun i t c=>Reps K c ((J.as.take i).map fun p=>jY (l.idxOf p.1,l.idxOf p.2)) t/\Same H3 c) ⟨rfl,ua _⟩ (fun i t c ⟨_,s⟩=>s.sqT qa) ?_ ?_⟩
  ·rintro i x t c hx ⟨C,s1⟩
   obtain⟨d,e1,r1⟩:=(ag.same s1).get hx;rw[zY] at e1;obtain⟨p,ep,rfl⟩:=z9.mp e1;have hi:=(zK.mp ep).1;obtain⟨a,cs,rfl,qc,x1,aq,rfl,e2,x2,ar,rfl,e3,e4⟩:=r1;cases e2;cases e3;cases e4;obtain⟨m1,m2⟩:=ba p (qm ep);have cl:(l.map fun n:Nat=>(n:Int)).length<=1000000:=by rw[zo];omega
   refine⟨a,_,rfl,qc,rfl,_,_,rfl,_,_,rfl,rfl,rfl,?_⟩
   refine⟨_,rfl,.inl ⟨rfl,_,u7 (N s1)⟩,_,rfl,jo,_,_,rfl,rfl,N s1,zT.mpr ⟨_,m1,rfl⟩,cl,?_⟩
   refine⟨_,rfl,.inl ⟨rfl,_,u7 (N s1)⟩,_,rfl,jo,_,_,rfl,rfl,N s1,zT.mpr ⟨_,m2,rfl⟩,cl,?_⟩
   rw[yo,yo];refine⟨le2,fun q hq=>⟨?_,?_,s1.trans (ze hq)⟩⟩
   ·have:=C.len
    rw[zo,qD] at this;omega
   ·rw[ju ep,zF]
    exact ud (d:=jY (l.idxOf p.1,l.idxOf p.2)) ⟨q,_,rfl,u8 zc,_,_,rfl,rfl,_,_,rfl,rfl,rfl⟩ (C.same (ze hq))
  rintro ys c ⟨ry,s1⟩;rw[af,jS] at ry;refine⟨by rw[ry.len,zo];omega,fun D hD=>⟨D,ys,rfl,.inl ⟨u7 zc,fun M al=>?_⟩⟩⟩
  have L:=(ze (o:=.lst ys) hD).trans (ze (o:=.tup ys) al);have u2:=s1.trans L;have s4:=s3.trans u2;have A4:Rep K (upd (upd c D (.lst ys)) M (.tup ys)) (wB (qh J l O).as) (.ref M):=⟨M,ys,rfl,u8 zc,by
   unfold qh;rw[jC];exact ry.same L⟩
  have P4:=u2.sqT P3;have F4:=u2.sqT F3;have ak:=aj.same u2;have ai:=ah.same u2;generalize upd (upd c D (.lst ys)) M (.tup ys)=H4 at s4 A4 P4 F4 ak ai;refine⟨_,rfl,jp,_,_,_,rfl,rfl,s4.sqT qj,rfl,_,rfl,jp,_,_,_,rfl,rfl,s4.sqT qj,rfl,_,rfl,_,rfl,_,rfl,leN (by show 5<=1000;decide),fun p hp=>?_⟩
  have u:=ze (o:=.tup [.ref g,.int J.hd,.ref ft,.ref pt,.ref M]) hp;refine k p _ (s4.trans u) ⟨p,_,rfl,u8 zc,_,_,rfl,(rg.same s4).same u,_,_,rfl,rfl,_,_,rfl,⟨ft,Y,rfl,u.sqT F4,ai.same u⟩,_,_,rfl,⟨pt,t,rfl,u.sqT P4,ak.same u⟩,_,_,rfl,A4.same u,rfl⟩
end
theorem VJ{c:List (Int×Int)}(f:Int->Int):∀{k:Nat} {i j:Int},Wk c k i j->Wk (c.map fun p=>(f p.1,f p.2)) k (f i) (f j)
 | 0,i,j,h=>by cases(show i=j from h);exact rfl
 | k+1,i,j,⟨m,e,w⟩=>⟨f m,zT.mpr ⟨(i,m),e,rfl⟩,VJ f w⟩
def ixI(c:List Nat)(i:Int):Int:=((c.idxOf i.toNat:Nat):Int)
def ogI(c:List Nat)(i:Int):Int:=((c.getD i.toNat 0:Nat):Int)
section
variable{ord:List Nat}{n:Nat}
theorem Jc(p:ord.Perm (List.range n)){i:Int}(h:InN n i):ogI ord (ixI ord i)=i:=by
 have m:i.toNat∈ord:=p.mem_iff.mpr (qC.mpr (by have:=h.1;have:=h.2;omega))
 have l:=Qh m;unfold ogI ixI;rw[jT,jE,qA l,WF l];have:=h.1;show((i.toNat:Nat):Int)=i;omega
theorem Zc(p:ord.Perm (List.range n)){i:Int}(h:InN n i):ixI ord (ogI ord i)=i:=by
 have ln:ord.length=n:=by rw[p.length_eq,qQ]
 have l:i.toNat<ord.length:=by have:=h.1;have:=h.2;omega
 have c:=p.nodup_iff.mpr Qn;unfold ogI ixI;rw[jT,jE,qA l];show((ord.idxOf ord[i.toNat]:Nat):Int)=i;rw[c.idxOf_getElem];have:=h.1;omega
theorem zcu(p:ord.Perm (List.range n)){i:Int}(h:InN n i):InN n (ogI ord i):=by
 have ln:ord.length=n:=by rw[p.length_eq,qQ]
 have l:i.toNat<ord.length:=by have:=h.1;have:=h.2;omega
 unfold ogI;rw[jE,qA l];have:=qC.mp (p.mem_iff.mp (vy l));exact⟨wJ _,vQ.mpr this⟩
theorem zcI(p:ord.Perm (List.range n)){i:Int}(h:InN n i):InN n (ixI ord i):=by
 have ln:ord.length=n:=by rw[p.length_eq,qQ]
 have m:i.toNat∈ord:=p.mem_iff.mpr (qC.mpr (by have:=h.1;have:=h.2;omega))
 have l:=Qh m;exact⟨wJ _,by unfold ixI;omega⟩
def ixP(ord:List Nat)(c:List (Int×Int)):List (Int×Int):=c.map fun p=>(ixI ord p.1,ixI ord p.2)
theorem wR(p:ord.Perm (List.range n)){g:List (Int×Int)}(c:∀q∈g,InN n q.1/\InN n q.2):∀q∈ixP ord g,InN n q.1/\InN n q.2:=fun q hq=>by
 obtain⟨a,i,rfl⟩:=zT.mp hq;exact⟨zcI p (c a i).1,zcI p (c a i).2⟩
theorem zcJ(p:ord.Perm (List.range n)){g:List (Int×Int)}(c:∀q∈g,InN n q.1/\InN n q.2):(ixP ord g).map (fun q=>(ogI ord q.1,ogI ord q.2))=g:=by
 unfold ixP;rw[jC];refine(Qu fun q hq=>?_).trans (List.map_id g)
 show(ogI ord (ixI ord q.1),ogI ord (ixI ord q.2))=q;rw[Jc p (c q hq).1,Jc p (c q hq).2]
theorem W9{c:List (Int×Int)}{k:Nat}{i j:Int}(w:Wk c k i j):Wk (ixP ord c) k (ixI ord i) (ixI ord j):=VJ (ixI ord) w
theorem W7(p:ord.Perm (List.range n)){c:List (Int×Int)}(g:∀q∈c,InN n q.1/\InN n q.2){k:Nat}{i j:Int}(w:Wk (ixP ord c) k i j):Wk c k (ogI ord i) (ogI ord j):=by
 have:=VJ (ogI ord) w;rwa[zcJ p g] at this
theorem zee(p:ord.Perm (List.range n)){c:List (Int×Int)}(g:∀q∈c,InN n q.1/\InN n q.2)(f:VH c):VH (ixP ord c):=fun s k w=>f _ k (W7 p g w)
theorem zeo(p:ord.Perm (List.range n)){i:List (Int×Int)}(l:∀q∈i,InN n q.1/\InN n q.2){s u:Int}{c o:Nat}(b:Best i n s c)(g:Best (ixP ord i) n u o):c=o:=by
 obtain⟨d,w,t⟩:=Wk.cyc b.2.1.1 (W9 (ord:=ord) b.2.1.2.1);have A:=(g.2.2 _ d (zcI p b.1) t).1;obtain⟨e,e1,e2⟩:=Wk.cyc g.2.1.1 (W7 p l g.2.1.2.1);have B:=(b.2.2 _ e (zcu p g.1) e2).1;omega
end
theorem vd(J:Job)(c g:List Nat):asI (qh J c g)=ixP c (asI J):=by
 unfold asI qh ixP;rw[jC,jC];refine Qu fun p _=>?_
 show(((c.idxOf p.1:Nat):Int),((c.idxOf p.2:Nat):Int))=(ixI c (p.1:Int),ixI c (p.2:Int));unfold ixI;rw[jT,jT]
theorem J2{J:Job}(h:∀p∈J.as,p.1<J.ps.length/\p.2<J.ps.length/\p.1≠p.2):∀q∈asI J,InN J.ps.length q.1/\InN J.ps.length q.2:=fun q hq=>by
 obtain⟨p,c,rfl⟩:=zT.mp hq;obtain⟨a,b,_⟩:=h p c;exact⟨⟨wJ _,vQ.mpr a⟩,wJ _,vQ.mpr b⟩
theorem YN{c:List w9}{g:List Nat}(p:g.Perm (List.range c.length)):(g.map (atP c)).Perm c:=by
 have:=p.map (atP c);have e:(List.range c.length).map (atP c)=c:=by
  refine Xh fun i=>?_
  rw[zY];by_cases h:i<c.length
  ·rw[WJ h]
   exact(zc4 h).symm
  ·rw[Zj (by rw[qQ];omega),Zj (by omega)];rfl
 rwa[e] at this
theorem JO{c:List jA}{g:List Nat}(p:g.Perm (List.range c.length)):(g.map (atF c)).Perm c:=by
 have:=p.map (atF c);have e:(List.range c.length).map (atF c)=c:=by
  refine Xh fun i=>?_
  rw[zY];by_cases h:i<c.length
  ·rw[WJ h]
   exact(Wr h).symm
  ·rw[Zj (by rw[qQ];omega),Zj (by omega)];rfl
 rwa[e] at this
section
variable{J:Job}{ord row:List Nat}
theorem VP(g:zdp J)(i:ord.Perm (List.range J.ps.length))(D:row.Perm (List.range J.fs.length)):zdp (qh J ord row):=by
 have o:=YN i;have s:=JO D;have lo:ord.length=J.ps.length:=by rw[i.length_eq,qQ]
 refine⟨g.gate,g.hd0,g.hd1,?_,fun f C=>g.fa f (s.mem_iff.mp C),?_,fun p l=>?_,?_,?_,fun q hq=>?_⟩
 ·show(row.map (atF J.fs)).length<=20
  rw[s.length_eq];exact g.fl
 ·show(ord.map (atP J.ps)).length<=60
  rw[o.length_eq];exact g.pl
 ·obtain⟨w,f,A,B⟩:=g.pa p (o.mem_iff.mp l)
  exact⟨w,f,s.mem_iff.mpr A,B⟩
 ·exact(o.map _).nodup_iff.mpr g.pd
 ·show(J.as.map _).length<=200
  rw[zo];exact g.al
 ·obtain⟨p,l,rfl⟩:=zT.mp hq
  obtain⟨a,b,c⟩:=g.ab p l;have t:=i.mem_iff.mpr (qC.mpr a);have u:=i.mem_iff.mpr (qC.mpr b);show ord.idxOf p.1<(ord.map (atP J.ps)).length/\ord.idxOf p.2<(ord.map (atP J.ps)).length/\ord.idxOf p.1≠ord.idxOf p.2;rw[zo];refine⟨Qh t,Qh u,fun e=>c ?_⟩
  have e1:=WF (Qh t);have e2:=WF (Qh u);rw[<- e1,<- e2];congr 1
theorem wO(c:ord.Perm (List.range J.ps.length)):(zV (qh J ord row)).Perm (zV J):=(YN c).map _
theorem VO(l:ord.Perm (List.range J.ps.length))(i:row.Perm (List.range J.fs.length)):ZG (qh J ord row)=ZG J:=by
 have c:∀k,(zV (qh J ord row)).count k=(zV J).count k:=fun k=>(wO l).count_eq k
 unfold ZG;rw[vU,j3,j3];constructor
 ·intro h f g
  have:=h f ((JO i).mem_iff.mpr g);rwa[c] at this
 ·intro h f g
  rw[c];exact h f ((JO i).mem_iff.mp g)
theorem zdw(s:row.Perm (List.range J.fs.length))(c:Str):((atK (qh J ord row).fs c (qh J ord row).fs.length).map fun k=>row.getD k 0).Perm (atK J.fs c J.fs.length):=by
 have w:row.length=J.fs.length:=by rw[s.length_eq,qQ]
 have e:(atK (row.map (atF J.fs)) c (row.map (atF J.fs)).length).map (fun k=>row.getD k 0)=row.filter fun i=>decide (J.fs[i]?.map jA.k=some c):=by
  have o:∀l:List Nat,(∀k∈l,k<J.fs.length)->((List.range l.length).filter fun i=>decide ((l.map (atF J.fs))[i]?.map jA.k=some c)).map (fun k=>l.getD k 0)=l.filter fun i=>decide (J.fs[i]?.map jA.k=some c):=fun l u=>by
   have t:l=(List.range l.length).map fun k=>l.getD k 0:=by
    refine Xh fun i=>?_
    rw[zY];by_cases h:i<l.length
    ·rw[WJ h,wH,jE,qA h];rfl
    ·rw[Zj (by omega),Zj (by rw[qQ];omega)];rfl
   conv=>rhs;rw[t,List.filter_map]
   refine congrArg (List.map _) (List.filter_congr fun i g=>?_)
   have g:=qC.mp g;show _=decide (J.fs[l.getD i 0]?.map jA.k=some c);have e1:l.getD i 0=l[i]:=by rw[jE,qA g];rfl
   rw[e1,zY,qA g,wH,Wr (u _ (vy g))]
  unfold atK;rw[zo];exact o row fun k hk=>qC.mp (s.mem_iff.mp hk)
 show((atK (row.map (atF J.fs)) c (row.map (atF J.fs)).length).map fun k=>row.getD k 0).Perm _
 rw[e];exact s.filter _
end
theorem VY{c:List Int}{l a:List Nat}(o:c.Perm (l.map fun k:Nat=>(k:Int)))(s:c.Pairwise (·<= ·))(p:l.Perm a)(h:a.Pairwise (·< ·)):c=a.map fun k:Nat=>(k:Int):=by
 have g:(a.map fun k:Nat=>(k:Int)).Pairwise (·< ·):=Zh.mpr (h.imp fun z=>vQ.mpr z)
 have i:=o.trans (p.map _);exact zbv (zbu i (g.imp fun z=>Int.ne_of_lt z) s) g fun j=>i.mem_iff
theorem zgk(c:List jA)(g:Str)(n:Nat):(atK c g n).Pairwise (·< ·):=WU.filter _
theorem Jo{g:List (Int×Int)}{n:Nat}(c:∀q∈g,InN n q.1/\InN n q.2):∀{k:Nat} {i j:Int},Wk g k i j->i≠j->InN n i
 | 0,_,_,w,h=>absurd w h
 | _+1,_,_,⟨_,e,_⟩,_=>(c _ e).1
theorem VL{g:List (Int×Int)}{n:Nat}(c:∀q∈g,InN n q.1/\InN n q.2):∀{k:Nat} {i j:Int},Wk g k i j->i≠j->InN n j
 | 0,_,_,w,h=>absurd w h
 | _+1,_,_,w,_=>let ⟨_,_,e⟩:=w.unsnoc;(c _ e).2
theorem Q6{c:List Nat}{n:Nat}(p:c.Perm (List.range n)){g l i:List Int}(o:∀j∈g,InN n j)(w:g.Pairwise (·< ·))(s:l.Perm (g.map (ogI c)))(B:l.Pairwise (·<= ·))(A:i.Pairwise (·< ·))(h:∀x,x∈i↔∃j∈g,x=ogI c j):l=i:=by
 have u:(g.map (ogI c)).Nodup:=Zh.mpr (List.Pairwise.imp_of_mem (fun {a b} t hb C e=>by
  have:=Zc p (o a t);rw[e,Zc p (o b hb)] at this;omega) w)
 exact zbv (zbu s u B) A fun x=>by
  rw[s.mem_iff,h,zT];exact⟨fun ⟨j,a,b⟩=>⟨j,a,b.symm⟩,fun ⟨j,a,b⟩=>⟨j,a,b.symm⟩⟩
theorem VT{ord:List Nat}{n:Nat}(p:ord.Perm (List.range n)){l:List (Int×Int)}(c:∀q∈l,InN n q.1/\InN n q.2){s:Int}(u:InN n s){i C:List Int}(o:∀j,j∈i↔j≠s/\∃k,Wk (ixP ord l) k j s)(t:∀j,j∈C↔j≠ogI ord s/\∃k,Wk l k j (ogI ord s)):(∀j∈i,InN n j)/\∀x,x∈C↔∃j∈i,x=ogI ord j:=by
 have A:∀j∈i,InN n j:=fun j g=>by
  obtain⟨a,k,w⟩:=(o j).mp g;exact Jo (wR p c) w a
 refine⟨A,fun x=>⟨fun hx=>?_,fun ⟨j,g,e⟩=>?_⟩⟩
 ·obtain⟨a,k,w⟩:=(t x).mp hx
  have B:=Jo c w a;refine⟨ixI ord x,(o _).mpr ⟨fun e=>a (by rw[<- e,Jc p B]),k,?_⟩,(Jc p B).symm⟩
  have:=W9 (ord:=ord) w;rwa[Zc p u] at this
 ·obtain⟨a,k,w⟩:=(o j).mp g
  rw[e];refine(t _).mpr ⟨fun z=>a ?_,k,W7 p c w⟩
  rw[<- Zc p (A j g),z,Zc p u]
theorem XR{ord:List Nat}{n:Nat}(p:ord.Perm (List.range n)){l:List (Int×Int)}(c:∀q∈l,InN n q.1/\InN n q.2){s:Int}(u:InN n s){i C:List Int}(o:∀j,j∈i↔j≠s/\∃k,Wk (ixP ord l) k s j)(t:∀j,j∈C↔j≠ogI ord s/\∃k,Wk l k (ogI ord s) j):(∀j∈i,InN n j)/\∀x,x∈C↔∃j∈i,x=ogI ord j:=by
 have A:∀j∈i,InN n j:=fun j g=>by
  obtain⟨a,k,w⟩:=(o j).mp g;exact VL (wR p c) w fun e=>a e.symm
 refine⟨A,fun x=>⟨fun hx=>?_,fun ⟨j,g,e⟩=>?_⟩⟩
 ·obtain⟨a,k,w⟩:=(t x).mp hx
  have B:=VL c w fun e=>a e.symm
  refine⟨ixI ord x,(o _).mpr ⟨fun e=>a (by rw[<- e,Jc p B]),k,?_⟩,(Jc p B).symm⟩
  have:=W9 (ord:=ord) w;rwa[Zc p u] at this
 ·obtain⟨a,k,w⟩:=(o j).mp g
  rw[e];refine(t _).mpr ⟨fun z=>a ?_,k,W7 p c w⟩
  rw[<- Zc p (A j g),z,Zc p u]
section
variable{P:Program}{w:World}{K:W.Frag}{t:Str->Option Value}{c:Heap}
theorem zaf{H:Hp}{g i l:List Str}{o:List V}(p:g.Perm i)(h:Wtd H g l o):Wtd H i l o:=⟨h.1,fun j k e=>let ⟨T,a,b⟩:=h.2 j k e;⟨T,a,by rw[b,p.count_eq k]⟩⟩
theorem XI(i:List Str):∀g:List Str,PyData.depthAll (Dat.pys (g.map (wtD i)))<=10
 | []=>by simp[Dat.pys,PyData.depthAll]
 | m::g=>by
  have l:=XI i g;show max _ (PyData.depthAll (Dat.pys (g.map (wtD i))))<=10;exact Nat.max_le.mpr ⟨by show _<=10;simp[wtD,Dat.py,Dat.pys,PyData.depth,PyData.depthAll],l⟩
theorem YT{g:List Nat}{n:Nat}(p:g.length=n){i:Int}(h:InN n i):atI (qZ g) i=some (.int (ogI g i)):=by
 have l:i.toNat<g.length:=by have:=h.1;have:=h.2;omega
 have e:i=((i.toNat:Nat):Int):=by have:=h.1;omega
 rw[e];refine j9 ?_
 unfold qZ ogI;rw[zY,qA l,jE,jT,qA l];rfl
theorem VM{g:List Int}{n:Nat}(h:∀j∈g,InN n j)(i:g.Pairwise (·< ·)):g.length<=n:=x6 (i.imp fun z=>Int.ne_of_lt z) h
inductive zbF(K:W.Frag)(B:List V)(H:Hp)(Q:VK):Prop
 | mk (s A o u:Addr) (J:Job) (C g i:List Nat) (_:B=[.ref s,.ref A,.ref o,.ref u]) (_:Rep K H (wC J) (.ref s)) (_:Rep K H (wC (qh J g i)) (.ref A)) (_:JobOk J C) (_:g.Perm (List.range J.ps.length)) (_:i.Perm (List.range J.fs.length)) (_:H o=some (.lst (qZ g))) (_:H u=some (.lst (qZ i))) (_:∀l,Same H l->Q (.bl true) l):zbF K B H Q
def zgy(K:W.Frag):Sp:=fun g H Q _=>zbF K g H Q
theorem zgG:zB ["_law_job_here","_law_other","_law_order","_law_row","_law_kind","_law_place_here","_law_many","_law_k"] ["_law_job_here","_law_other","_law_order","_law_row"] (zv (topL 49)):=u4
def zas(o:_)(u:_)(l:_)(s:_)(H:_):=fun(i:Nat) (σ:St) (g:Hp)=>(Ex4 fun(A B C D:Option V)=>An2 (σ=[some (.ref o),some (.ref u),some (.ref l),some (.ref s),A,B,C,D]) (Same H g):Prop)
def zar(o:_)(u:_)(l:_)(s:_)(H:_):=fun(i:Nat) (σ:St) (g:Hp)=>(Ex4 fun(A B C D:Option V)=>An2 (σ=[some (.ref o),some (.ref u),some (.ref l),some (.ref s),A,B,C,D]) (Same H g):Prop)
theorem zg0{f:Addr}{fd:FuncData}(F:Fun K "_law_turned_right" "_law_turned_right" (topL 49) f fd)(B:Blt t)(af:Dfn P w K t c "is_job" 6 ["thing"] (zbI K))(Y:Dfn P w K t c "wanted_of" 1 ["job"] (VX K))(M:Dfn P w K t c "is_stocked" 2 ["job"] (Yk K))(L:Dfn P w K t c "feeders_for" 1 ["job","kind"] (zeG K))(aa:Dfn P w K t c "ahead_of" 3 ["job","part"] (Jv K))(U:Dfn P w K t c "behind_of" 3 ["job","part"] (X5 K))(ac:Dfn P w K t c "ring_in" 3 ["many","aheads"] (yg K)):FnOk P w K t c CX0 7 f fd ["_law_job_here","_law_other","_law_order","_law_row"] (zgy K):=by
 have nd:=zgG.nd;refine F.ok zgG (fun vs H Q E h=>?_) (fun c4 A bj s H vs Q E hr h=>?_)
 ·obtain⟨jp,kp,jo,jw,J,od,C,G,rfl,_⟩:=h
  rfl
 ·obtain⟨jp,kp,jo,jw,J,od,C,G,rfl,rj,rk,jk,po,pw,ho,hw,k⟩:=h
  have hu:=hr.units0;have c8:=yp hr;have aq:=hr.units;have hg:=hr.gd;have bx:=bG1000000;have ap:=bGe;refine⟨_,(zg (qM (PW.pt (vw (zO JG (zf af hr.m rfl (za (pv 0) zb)) ji (zJ _)) (vw (zO JG (zf af hr.m rfl (za (pv 1) zb)) ji (zJ _)) (xS (zO (zfK aq) (zf Y hr.m rfl (za (pv 0) zb)) (zf Y hr.m rfl (za (pv 1) zb)) (zJ _))))))
   (zj (zw ji))
   zR)
   (zg (qM (zO Ja (zf M hr.m rfl (za (pv 0) zb)) (zf M hr.m rfl (za (pv 1) zb)) (zJ _))
   (zj (zw ji))
   zR)
   (zg (jh jR rfl (xj (zH qH (pv 0) zi (fun _ _=>rfl))) (xA rfl (zE (zD (i:=4) nd rfl (Or.inl rfl)) (zE (zD (i:=5) nd rfl (Or.inl rfl)) (zE (zD (i:=6) nd rfl (Or.inl rfl)) jM))))
   (zj (qM (zO (Wd hu) (zq xu rfl B.sorted xg (za (jg ["_law_row"] [3] rfl rfl (by kernel_rfl) (jG (zf L hr.m rfl (za (pv 1) (za (pv 4) zb)))) (fun _ _ _ _=>qT) (fun _ _ _ _=>(zH (vM (K:=K) rfl) (pv 1) (pv 0) (fun _ _=>rfl)))) zb)) (zf L hr.m rfl (za (pv 0) (za (pv 4) zb))) (zJ _))
    (zj (zw ji))
    zR)))
   (zg (jh jR rfl (qI rfl B.range (za (zq zu rfl B.len boot_len (za (pv 2) zb)) zb)) (zD (i:=7) nd rfl (Or.inl rfl))
   (zg (qM (zO (Wd hu) (zq xu rfl B.sorted xg (za (jg ["_law_order"] [2] rfl rfl (by kernel_rfl) (jG (zf aa hr.m rfl (za (pv 1) (za (pv 7) zb)))) (fun _ _ _ _=>qT) (fun _ _ _ _=>(zH (vM (K:=K) rfl) (pv 1) (pv 0) (fun _ _=>rfl)))) zb)) (zf aa hr.m rfl (za (pv 0) (za (zH qo (pv 2) (pv 7) (fun _ _=>rfl)) zb))) (zJ _))
    (zj (zw ji))
    zR)
    (zj (qM (zO (Wd hu) (zq xu rfl B.sorted xg (za (jg ["_law_order"] [2] rfl rfl (by kernel_rfl) (jG (zf U hr.m rfl (za (pv 1) (za (pv 7) zb)))) (fun _ _ _ _=>qT) (fun _ _ _ _=>(zH (vM (K:=K) rfl) (pv 1) (pv 0) (fun _ _=>rfl)))) zb)) (zf U hr.m rfl (za (pv 0) (za (zH qo (pv 2) (pv 7) (fun _ _=>rfl)) zb))) (zJ _))
    (zj (zw ji))
    zR))))
   (zj (zw (xC (qR yI (zf ac hr.m rfl (za (zq zu rfl B.len boot_len (za (pv 2) zb)) (za (qe jQ rfl B.list qV (za (zH qH (pv 0) zi (fun _ _=>rfl)) zb)) zb))) xB (zJ _)) (xU (qR yI (zf ac hr.m rfl (za (zq zu rfl B.len boot_len (za (pv 2) zb)) (za (qe jQ rfl B.list qV (za (zH qH (pv 1) zi (fun _ _=>rfl)) zb)) zb))) xB (zJ _)))))))))),?_⟩
  have lo:C.length=J.ps.length:=by rw[po.length_eq,qQ]
  have lw:G.length=J.fs.length:=by rw[pw.length_eq,qQ]
  have jr:=jk.rt;have kr:=VP (row:=G) jr po pw;have fr:VH (J.as.map vp):=jk.bo.free jk.op;have ab:=J2 jr.ab;have gr:VH ((qh J C G).as.map vp):=by
   have:=zee po ab fr;rw[<- vd J C G] at this;exact this
  refine⟨_,rfl,jp,J,rfl,rj,jr,fun c1 H1 s1 h1=>?_⟩
  cases h1.mpr fr;refine⟨_,_,rfl,rfl,_,rfl,ifF rfl ?_⟩
  refine⟨_,rfl,kp,_,rfl,rk.same s1,kr,fun c2 H2 s2 h2=>?_⟩
  cases h2.mpr gr;refine⟨_,_,rfl,rfl,_,rfl,ifF rfl ?_⟩
  have s2:=s1.trans s2;refine⟨_,rfl,jp,J,rfl,rj.same s2,jr.pl,fun l1 ay bv H3 _ s3 L1 bn au c9 bz bt=>?_⟩
  have s3:=s2.trans s3;refine⟨_,rfl,kp,_,rfl,rk.same s3,kr.pl,fun l2 bh bw H4 _ s4 L2 bo ax ca c0 bu=>?_⟩
  have em:ay=bh:=zbw bn bo fun j=>by rw[au,ax];exact(wO po).mem_iff.symm
  subst em;refine⟨l1,l2,ay.map (wtD (zV J)),rfl,rfl,⟨l1,bv,rfl,u7 (s4 _ _ L1),(bt.same s4).reps⟩,⟨l2,bw,rfl,u7 L2,(zaf (wO po) bu).reps⟩,zX (XI _ _) (by decide),_,rfl,ifF rfl ?_⟩
  have s4:=s3.trans s4;refine⟨_,rfl,jp,J,rfl,rj.same s4,jr.pl,zX jr.fl (by decide),fun H5 s5=>?_⟩
  have s5:=s4.trans s5;refine⟨_,rfl,kp,_,rfl,rk.same s5,kr.pl,zX kr.fl (by decide),fun H6 s6=>⟨rfl,_,rfl,ifF (by rw[VO po pw];simp) ?_⟩⟩
  have s6:=s5.trans s6;obtain⟨g,fs,ps,as,fv,cd,qj,rg,qf,rf,qp,rp,ra⟩:=jc rj;have lf:=rf.len;rw[zo] at lf;refine⟨_,rfl,jp,_,_,_,rfl,rfl,s6.sqT qj,rfl,fs,rfl,⟨_,s6.sqT qf⟩,JQ (K:=K) (a:=fs) (xs:=fv) (zas jp kp jo jw H) ⟨_,_,_,_,rfl,s6⟩ (fun i σ H' _ ⟨_,_,_,_,_,s⟩=>s.sqT qf) ?_ ?_⟩
  ·rintro i x σ H7 hx ⟨v4,v5,v6,v7,rfl,s7⟩
   obtain⟨d,e1,r1⟩:=(rf.same s7).get hx;rw[zY] at e1;obtain⟨fe,c5,rfl⟩:=z9.mp e1;obtain⟨fa,fc,rfl,bp,_⟩:=vc r1;refine⟨fa,_,rfl,bp,rfl,_,_,rfl,_,_,rfl,_,_,rfl,rfl,?_⟩
   refine⟨_,rfl,_,rfl,kp,_,fe.k,rfl,rk.same s7,zX kr.fl (by decide),fun l7 H8 _ s8 L8=>⟨l7,rfl,⟨_,u7 L8⟩,xt (K:=K) (a:=l7) (xs:=qZ (atK (qh J C G).fs fe.k (qh J C G).fs.length)) (fun i zs H'=>An2 (zs=qZ (((atK (qh J C G).fs fe.k (qh J C G).fs.length).take i).map fun k=>G.getD k 0)) (Same H8 H')) ⟨rfl,ua _⟩ (fun i zs H' ⟨_,s⟩=>u7 (s _ _ L8)) ?_ ?_⟩⟩
   ·rintro i x zs H9 hx ⟨rfl,s9⟩
    obtain⟨kk,hk,rfl⟩:=ZV hx;have hi:=(zK.mp hk).1;have bd:kk<G.length:=by
     have:=(wm.mp (qm hk)).1;have:=qC.mp this;rw[show(qh J C G).fs.length=G.length from zo _] at this
     exact this
    have er:(qZ G)[kk]? =some (.int ((G.getD kk 0:Nat):Int)):=by
     unfold qZ;rw[zY,jE,qA bd];rfl
    refine⟨rfl,⟨_,rfl,_,rfl,jw,_,_,_,rfl,rfl,u7 (s9 _ _ (s8 _ _ (s7 _ _ hw))),j9 er,?_,?_,s9⟩⟩
    ·rw[qL,zo,qD]
     have:=JX (qh J C G).fs fe.k (qh J C G).fs.length;have:=kr.fl;omega
    ·rw[ju hk,zF,List.map_singleton,yL]
   rintro zs H9 ⟨rfl,s9⟩;have et:(atK (qh J C G).fs fe.k (qh J C G).fs.length).take (qZ (atK (qh J C G).fs fe.k (qh J C G).fs.length)).length=atK (qh J C G).fs fe.k (qh J C G).fs.length:=by rw[qL,jS]
   rw[et];have la:=JX (qh J C G).fs fe.k (qh J C G).fs.length;have lb:=kr.fl;refine⟨by rw[qL,zo];omega,fun D hD=>⟨D,_,rfl,u7 (by rw[zc,yk]),by rw[zo,zo];omega,fun l9 ms ae pm bm=>?_⟩⟩
   have es:=VY pm bm (zdw (ord:=C) pw fe.k) (zgk _ _ _);subst es;have u:=s8.trans (s9.trans (ze (o:=.lst (qZ ((atK (qh J C G).fs fe.k (qh J C G).fs.length).map fun k=>G.getD k 0))) hD))
   generalize upd H9 D (.lst (qZ ((atK (qh J C G).fs fe.k (qh J C G).fs.length).map fun k=>G.getD k 0)))=ag at u ae
   have ao:upd ag l9 (.lst (((atK J.fs fe.k J.fs.length).map fun k:Nat=>(k:Int)).map V.int)) l9=some (.lst (qZ (atK J.fs fe.k J.fs.length))):=by rw[zc,yk]
   have an:=s7.trans (u.trans (ze (o:=.lst (((atK J.fs fe.k J.fs.length).map fun k:Nat=>(k:Int)).map V.int)) ae))
   generalize upd ag l9 (.lst (((atK J.fs fe.k J.fs.length).map fun k:Nat=>(k:Int)).map V.int))=ai at an ao
   refine⟨_,rfl,_,rfl,jp,J,fe.k,rfl,rj.same an,zX jr.fl (by decide),fun bf am _ N ah=>?_⟩
   refine⟨l9,bf,_,rfl,rfl,u7 (N _ _ ao),u7 ah,?_,?_,_,rfl,ifF rfl ⟨_,_,_,_,rfl,an.trans N⟩⟩
   ·unfold qZ
    rw[Qj];exact j3.mpr fun _ _=>rfl
   ·intro v hv
    obtain⟨z,_,rfl⟩:=zT.mp hv;show((z:Int)==(z:Int))=true;simp
  rintro σ H7 ⟨v4,v5,v6,v7,rfl,s7⟩;have aj:(qZ C).length=J.ps.length:=by rw[qL,lo]
  refine⟨_,rfl,jo,_,rfl,.inl (u7 (s7 _ _ ho)),_,rfl,(by rw[ap,aj];have:=jr.pl;omega),(by rw[ap,aj];have:=jr.pl;omega),?_⟩
  refine jv (zar jp kp jo jw H) ⟨_,_,_,_,rfl,s7⟩ ?_ ?_
  ·rintro i σ H8 hi ⟨v4,v5,v6,v7,rfl,s8⟩
   rw[aj,jT] at hi;have ins:InN J.ps.length ((0:Int)+(i:Int)):=⟨by omega,by omega⟩
   have al:InN (qh J C G).ps.length ((0:Int)+(i:Int)):=by
    rw[show(qh J C G).ps.length=J.ps.length from(zo _).trans lo];exact ins
   refine⟨_,rfl,_,rfl,_,kp,_,rfl,rk.same s8,kr.pl,al,J2 kr.ab,zX kr.al (by decide),fun la I H9 s9 _ La pa ma=>⟨la,rfl,⟨_,u7 La⟩,?_⟩⟩
   have tI:∀j∈I,InN J.ps.length j:=fun j hj=>by
    obtain⟨a,kk,w⟩:=(ma j).mp hj;rw[vd J C G] at w;exact Jo (wR po ab) w a
   have lA:=VM tI pa;have bg:=jr.pl
   ·refine xt (K:=K) (a:=la) (xs:=I.map V.int) (fun i' zs H'=>zs=((I.take i').map (ogI C)).map V.int/\Same H9 H') ⟨rfl,ua _⟩ (fun i' zs H' ⟨_,s⟩=>u7 (s _ _ La)) ?_ ?_
    ·rintro i' x zs ag hx ⟨rfl,O⟩
     rw[zY] at hx;obtain⟨z,hz,rfl⟩:=z9.mp hx;have bc:=(zK.mp hz).1;have iz:=tI z (qm hz);refine⟨rfl,⟨_,rfl,_,rfl,jo,_,_,_,rfl,rfl,u7 (O _ _ (s9 _ _ (s8 _ _ ho))),YT lo iz,?_,?_,O⟩⟩
     ·rw[zo,zo,qD];omega
     ·rw[ju hz,zF,zF];rfl
    rintro zs ag ⟨rfl,O⟩;have et:I.take (I.map V.int).length=I:=by rw[zo,jS]
    rw[et];refine⟨by rw[zo,zo];omega,fun D hD=>⟨D,_,rfl,u7 zc,by rw[zo];omega,fun l9 us ae pu su=>?_⟩⟩
    have u:=s9.trans (O.trans (ze (o:=.lst ((I.map (ogI C)).map V.int)) hD));generalize upd ag D (.lst ((I.map (ogI C)).map V.int))=ai at u ae;have ah:upd ai l9 (.lst (us.map V.int)) l9=some (.lst (us.map V.int)):=zc;have N:=s8.trans (u.trans (ze (o:=.lst (us.map V.int)) ae));generalize upd ai l9 (.lst (us.map V.int))=am at N ah;refine⟨_,rfl,_,rfl,_,rfl,jo,_,_,_,rfl,rfl,u7 (N _ _ ho),YT lo ins,_,jp,J,rfl,rj.same N,jr.pl,zcu po ins,ab,zX jr.al (by decide),fun lb bi ba ak _ Lb pb mb=>?_⟩
    have tB:=(VT (ord:=C) po ab ins (by rw[<- vd J C G];exact ma) mb).2
    cases Q6 po tI pa pu su pb tB;refine⟨l9,lb,us.map V.int,rfl,rfl,u7 (ak _ _ ah),u7 Lb,?_,?_,_,rfl,ifF rfl ?_⟩
    ·rw[Qj]
     exact j3.mpr fun _ _=>rfl
    ·intro v hv
     obtain⟨z,_,rfl⟩:=zT.mp hv;show(z==z)=true;simp
    have s8:=N.trans ak;clear La Lb ah ae hD ma mb pa pb tB pu tI lA;refine⟨_,rfl,_,rfl,_,kp,_,rfl,rk.same s8,kr.pl,al,J2 kr.ab,zX kr.al (by decide),fun la I H9 s9 _ La pa ma=>⟨la,rfl,⟨_,u7 La⟩,?_⟩⟩
    have tI:∀j∈I,InN J.ps.length j:=fun j hj=>by
     obtain⟨a,kk,w⟩:=(ma j).mp hj;rw[vd J C G] at w;exact VL (wR po ab) w fun e=>a e.symm
    have lA:=VM tI pa;have bg:=jr.pl
    ·refine xt (K:=K) (a:=la) (xs:=I.map V.int) (fun i' zs H'=>zs=((I.take i').map (ogI C)).map V.int/\Same H9 H') ⟨rfl,ua _⟩ (fun i' zs H' ⟨_,s⟩=>u7 (s _ _ La)) ?_ ?_
     ·rintro i' x zs ag hx ⟨rfl,O⟩
      rw[zY] at hx;obtain⟨z,hz,rfl⟩:=z9.mp hx;have bc:=(zK.mp hz).1;have iz:=tI z (qm hz);refine⟨rfl,⟨_,rfl,_,rfl,jo,_,_,_,rfl,rfl,u7 (O _ _ (s9 _ _ (s8 _ _ ho))),YT lo iz,?_,?_,O⟩⟩
      ·rw[zo,zo,qD];omega
      ·rw[ju hz,zF,zF];rfl
     rintro zs ag ⟨rfl,O⟩;have et:I.take (I.map V.int).length=I:=by rw[zo,jS]
     rw[et];refine⟨by rw[zo,zo];omega,fun D hD=>⟨D,_,rfl,u7 zc,by rw[zo];omega,fun l9 us ae pu su=>?_⟩⟩
     have u:=s9.trans (O.trans (ze (o:=.lst ((I.map (ogI C)).map V.int)) hD));generalize upd ag D (.lst ((I.map (ogI C)).map V.int))=ai at u ae;have ah:upd ai l9 (.lst (us.map V.int)) l9=some (.lst (us.map V.int)):=zc;have N:=s8.trans (u.trans (ze (o:=.lst (us.map V.int)) ae));generalize upd ai l9 (.lst (us.map V.int))=am at N ah;refine⟨_,rfl,_,rfl,_,rfl,jo,_,_,_,rfl,rfl,u7 (N _ _ ho),YT lo ins,_,jp,J,rfl,rj.same N,jr.pl,zcu po ins,ab,zX jr.al (by decide),fun lb bi ba ak _ Lb pb mb=>?_⟩
     have tB:=(XR (ord:=C) po ab ins (by rw[<- vd J C G];exact ma) mb).2
     cases Q6 po tI pa pu su pb tB;refine⟨l9,lb,us.map V.int,rfl,rfl,u7 (ak _ _ ah),u7 Lb,?_,?_,_,rfl,ifF rfl ?_⟩
     ·rw[Qj]
      exact j3.mpr fun _ _=>rfl
     ·intro v hv
      obtain⟨z,_,rfl⟩:=zT.mp hv;show(z==z)=true;simp
     exact⟨_,_,_,_,rfl,N.trans ak⟩
  rintro σ H8 ⟨v4,v5,v6,v7,rfl,s8⟩;obtain⟨a0,av,ea,qa,az⟩:=ra.same s8;cases ea;have la:=az.len;rw[zo] at la;refine⟨_,rfl,jo,_,rfl,.inl (u7 (s8 _ _ ho)),_,rfl,jp,_,_,_,rfl,rfl,s8.sqT qj,rfl,as,av,rfl,.inr qa,fun l hl=>?_⟩
  have u9:=ze (o:=.lst av) hl;refine⟨J.ps.length,l,av,asI J,by rw[aj];rfl,u7 zc,by rw[JZ];exact az.same u9,by rw[vt];exact zX jr.al (by decide),jr.pl,ab,fun v H9 s9 tv=>⟨rfl,_,rfl,ifT ((xZ ab tv).mpr fr) ?_⟩⟩
  have O:=s8.trans (u9.trans s9);obtain⟨g',c6,cb,bb,c7,c3,qk,_,_,_,_,_,br⟩:=jc (rk.same O);obtain⟨a1,aw,ea,qb,bq⟩:=br;cases ea;refine⟨_,rfl,jo,_,rfl,.inl (u7 (O _ _ ho)),_,rfl,kp,_,_,_,rfl,rfl,qk,rfl,bb,aw,rfl,.inr qb,fun l2 be=>?_⟩
  have b0:=ze (o:=.lst aw) be;have ar:∀q∈asI (qh J C G),InN J.ps.length q.1/\InN J.ps.length q.2:=by rw[vd J C G];exact wR po ab
  refine⟨J.ps.length,l2,aw,asI (qh J C G),by rw[aj];rfl,u7 zc,by rw[JZ];exact bq.same b0,by rw[vt];exact zX kr.al (by decide),jr.pl,ar,fun v2 am N bs=>⟨rfl,?_⟩⟩
  rw[(xZ ar bs).mpr gr];exact k _ (O.trans (b0.trans N))
end
section
variable{X:Cx}
inductive zgN(K:W.Frag)(x:V)(lo:Option Int)(i:Option Int)(H:Hp)(Q:VK):Prop
 | mk (a:Addr) (l:List V) (_:x=.ref a) (_:SqT K H a l) (_:∀c g,Same H g->SqT K g c (jd l lo i)->Q (.ref c) g):zgN K x lo i H Q
theorem Jx{K:W.Frag}(h:X.K=K):SlR X (zgN K):=by
 rw[<- h];intro i s σ H x v L M lo w G Q I D A B C g;obtain⟨a,N,rfl,t,q⟩:=g;have E:Same H (WX [] H):=fun c o e=>by
  unfold WX;rw[zn (fun z=>nomatch z)]
  exact e
 exact zhL i s σ H _ v L M lo w G Q I D A B C ⟨true,a,N,[],rfl,(fun e u=>nomatch u),E.sqT t,fun c l J e=>q c l J (WX.le.sqT e)⟩
inductive ze1(K:W.Frag)(x y:V)(H:Hp)(Q:VK):Prop
 | mk (a b:Addr) (g i:List V) (_:x=.ref a) (_:y=.ref b) (_:SqT K H a g) (_:SqT K H b i) (_:g.length+i.length<=sizeLine) (_:∀p c,Same H c->SqT K c p (g++i)->Q (.ref p) c):ze1 K x y H Q
theorem JH{X:Cx}:OpR X (binaryOp .Add) (ze1 X.K):=by
 intro c s σ H x y v u Q I i l h;obtain⟨a,b,o,t,rfl,rfl,g,hb,w,q⟩:=h;by_cases e:o=[]
 ·subst e
  exact zck c s σ H v u Q I i l ⟨a,b,t,rfl,rfl,g,hb,q b H (ua _) hb⟩
 ·refine zdQ c s σ H _ _ v u Q I i l ⟨a,b,o,t,rfl,rfl,g,hb,e,w,fun z=>?_,fun z p A=>q p _ (ze A) (u8 zc)⟩
  exact q a H (ua _) (by rw[z,yw];exact g)
inductive zeZ(K:W.Frag)(x:V)(y:V)(H:Hp)(Q:VK):Prop
 | mk (a p:Addr) (q:Int×Int) (g:List V) (c:List (Int×Int)) (_:x=.ref a) (_:y=.ref p) (_:SqT K H a [.int q.1,.int q.2]) (_:SqT K H p g) (_:zdo K H g c) (_:Q (.bl (decide (q∈c))) H):zeZ K x y H Q
theorem zdP{K:W.Frag}(hk:X.K=K)(hu:X.A.units+64<cLine):OpR X (compareOp .In) (zeZ K):=by
 subst hk;intro c s σ H x y v u Q I B C h;obtain⟨a,p,q,G,E,rfl,rfl,l,o,hx,k⟩:=h;cases B;cases C;obtain⟨t,r,w,D⟩:=I.tuple o;obtain⟨g,i⟩:=J4 I l hx r (A:=X.A.in1) (by show X.A.units+1<cLine;omega)
 refine SeqAt.in_tupleAt _ w g ⟨.bl _,H,I,rfl,?_⟩
 rw[i];exact k
end
theorem W8{c g:List (Int×Int)}(h:∀q∈c,q∈g):∀{k:Nat} {i j:Int},Wk c k i j->Wk g k i j
 | 0,_,_,w=>w
 | _+1,_,_,⟨m,e,w⟩=>⟨m,h _ e,W8 h w⟩
section
variable{g:List (Int×Int)}{s:Int}{c:Nat}{r:List Int}
theorem Q8(o:RingAt g s c r)(w:Cyc g s s c){i:Nat}{a:Int}(h:r[i]? =some a):∃b,(r.drop 1++r.take 1)[i]? =some b/\(a,b)∈g:=by
 have E:i<c:=by have:=(zK.mp h).1;rw[o.len] at this;exact this
 have D:(r.drop 1).length=c-1:=by rw[vh,o.len]
 by_cases l:i+1<c
 ·obtain⟨u,b,e1,e2,A,_,_⟩:=o.next i l
  rw[h] at e1;cases e1;refine⟨b,?_,A⟩
  rw[jV (by omega),Xm,Nat.add_comm]
  exact e2
 ·have e:i=c-1:=by omega
  refine⟨s,?_,?_⟩
  ·rw[jW (by omega),D,e,vR]
   rw[List.getElem?_take]
   simpa using o.head
  ·by_cases c1:c=1
   ·subst c1
    have:i=0:=by omega
    subst this;rw[o.head] at h;cases h;obtain⟨_,⟨m,e1,e2⟩,_⟩:=w;cases(show m=s from e2)
    exact e1
   ·obtain⟨u,b,e1,e2,_,t,_⟩:=o.next (c-2) (by omega)
    rw[show c-2+1=c-1 by omega,<- e,h] at e2
    cases e2;rw[show c-1-(c-2)=1 by omega] at t
    obtain⟨⟨m,B,C⟩,_⟩:=t;cases(show m=s from C)
    exact B
theorem V4(o:RingAt g s c r):r.Nodup:=by
 have l:∀i,i<c->i≠0->∃a,r[i]? =some a/\Dist g (c-i) a s:=fun i w u=>by
  obtain⟨a,b,e1,e2,_,A,_⟩:=o.next (i-1) (by omega)
  rw[show i-1+1=i by omega] at e2
  rw[show c-1-(i-1)=c-i by omega] at A
  exact⟨b,e2,A⟩
 refine XD.mpr fun i j w G I e=>?_
 rw[o.len] at w G;obtain⟨b,B,t⟩:=l j G (by omega)
 have H:r[j]? =some r[j]:=qA _;rw[H] at B;cases B;by_cases u:i=0
 ·subst u
  have E:=o.head;rw[qA (by rw[o.len];omega)] at E
  rw[<- e,jq E] at t;have:=t.uniq (Dist.zero g _);omega
 ·obtain⟨a,C,D⟩:=l i w u
  rw[qA (by rw[o.len];omega)] at C
  cases C;rw[e] at D;have:=D.uniq t;omega
theorem zaH{o:List (Int×Int)}(l:RingAt g s c r)(h:∀(i:Nat) (a b:Int),r[i]? =some a->(r.drop 1++r.take 1)[i]? =some b->(a,b)∈o):Wk o c s s:=by
 have w:(r.drop 1).length=c-1:=by rw[vh,l.len]
 have all:∀d,d<=c->∀a,(if d=0 then a=s else r[c-d]? =some a)->Wk o d a s:=fun d=>by
  induction d with
  | zero=>intro _ a e;exact e
  | succ d B=>
   intro A a e;rw[zn (by omega)] at e
   by_cases z:d=0
   ·subst z
    have:=h (c-1) a s e (by
     rw[jW (by omega),w,vR,List.getElem?_take]
     simpa using l.head)
    exact⟨s,this,rfl⟩
   ·have t:c-d<r.length:=by rw[l.len];omega
    have u:(r.drop 1++r.take 1)[c-(d+1)]? =some r[c-d]:=by
     rw[jV (by omega),Xm,show 1+(c-(d+1))=c-d by omega]
     exact qA t
    exact⟨r[c-d],h _ a _ e u,B (by omega) _ (by rw[zn z];exact qA t)⟩
 by_cases z:c=0
 ·subst z;exact rfl
 ·exact all c (zy _) s (by rw[zn z,vR];exact l.head)
end
theorem wz(c:List V)(n:Nat)(h:n<=c.length):jd c none (some (n:Int))=c.take n:=by
 unfold jd;rw[HT.sIx_nat,HT.sIx_none];have:min n c.length=n:=by omega
 rw[this];simp
theorem yQ(c:List V)(n:Nat)(h:n<=c.length):jd c (some (n:Int)) none=c.drop n:=by
 unfold jd;rw[HT.sIx_nat,HT.sIx_none];have:min n c.length=n:=by omega
 rw[this];apply Qv
 rw[vh];omega
theorem ZD{K:Type}[DecidableEq K]:∀{c ks:List K},(ks++c).Nodup->Zt ks c=ks++c
 | [],ks,_=>by simp[Zt]
 | j::c,ks,h=>by
  have g:j∉ks:=fun z=>by
   rw[Zi] at h;exact h.2.2 j z j (by simp) rfl
  have e:Zt ks (j::c)=Zt (ks++[j]) c:=by
   show c.foldl yA (yA ks j)=c.foldl yA (ks++[j]);unfold yA;rw[zn g]
  rw[e,ZD (by simpa using h)]
  simp
def xH(c:List (Nat×Nat))(a:Nat)(q:Nat×Nat):List (Nat×Nat):=c.take a++[q]++c.drop a
theorem zer(n:Nat):(List.replicate n true).all id=true:=by
 rw[j3];intro x hx;rw[(List.mem_replicate.mp hx).2];rfl
theorem vJ{c:List (Nat×Nat)}{a:Nat}{q p:Nat×Nat}:p∈xH c a q↔p∈c\/p=q:=by
 unfold xH;rw[qO,qO,zP];constructor
 ·rintro((h | h) | h)
  ·exact .inl (WO h)
  ·exact .inr h
  ·exact .inl (List.mem_of_mem_drop h)
 ·rintro(h | h)
  ·rw[<- List.take_append_drop a c] at h
   rcases qO.mp h with h | h
   ·exact .inl (.inl h)
   ·exact .inr h
  ·exact .inl (.inr h)
theorem zcx{c:List (Nat×Nat)}{a:Nat}{q:Nat×Nat}:(xH c a q).length=c.length+1:=by
 unfold xH;rw[zL,zL,Xv,qD,vh];omega
section
variable{P:Program}{w:World}{K:W.Frag}{C:Str->Option Value}{t:Heap}
theorem Reps.dropR{H:Hp}:∀(n:Nat) {c:List Dat} {g:List V},Reps K H c g->Reps K H (c.drop n) (g.drop n)
 | 0,_,_,h=>h
 | n+1,[],_,h=>by rw[show _=_ from h];exact rfl
 | n+1,d::c,_,h=>by
  obtain⟨x,r,e,l,i⟩:=h;subst e;exact Reps.dropR n i
theorem zfx{H:Hp}:∀{l:List (Nat×Nat)} {c:List V},Reps K H (l.map jY) c->zdo K H c (l.map vp):=fun {l c} r=>by
 have ln:=r.len;rw[zo] at ln;refine⟨by rw[ln,zo],fun i q e=>?_⟩
 rw[zY] at e;obtain⟨p,s,rfl⟩:=z9.mp e;obtain⟨y,u,a,E,rfl,A,G,B,rfl,e2,I,D,rfl,g,o⟩:=JA r s;cases e2;cases g;cases o;exact⟨a,u,A⟩
inductive zbM(K:W.Frag)(o:List V)(H:Hp)(Q:VK):Prop
 | mk (b l g:Addr) (J:Job) (s c:List Nat) (n:Int) (_:o=[.ref b,.ref l,.ref g]) (_:BoxAt H b n) (_:n<500000) (_:Rep K H (wC J) (.ref l)) (_:JobOk J s) (_:c.Perm (List.range J.ps.length)) (_:H g=some (.lst (qZ c))) (_:g≠b) (_:∀i,SameB b H i->Q (.bl true) i):zbM K o H Q
def zgA(K:W.Frag):Sp:=fun c H Q _=>zbM K c H Q
theorem zgJ:zB ["_law_box_here","_law_job_here","_law_order","_law_late","_law_part","_law_some","_law_pair","_law_at","_law_pairs","_law_found","_law_steps","_law_new","_law_again"] ["_law_box_here","_law_job_here","_law_order"] (zv (topL 50)):=u4
def zaq(J:_)(H:_):=fun(i:Nat) (l:List V) (g:Hp)=>(Ex1 fun(c:List Nat)=>An4 (l=qZ c) (c.length<=i) ((∀k∈c,k<J.ps.length/\∃j:Int,j≠(k:Int)/\∃m,Wk (asI J) m j k)) (Same H g):Prop)
theorem zg5{f:Addr}{fd:FuncData}(F:Fun K "_law_back_right" "_law_back_right" (topL 50) f fd)(B:Blt C)(N:Dfn P w K C t "ahead_of" 3 ["job","part"] (Jv K))(aa:Dfn P w K C t "_law_take" 1 ["_law_box_here","_law_size"] vm)(U:Dfn P w K C t "ring_in" 3 ["many","aheads"] (yg K))(ah:Dfn P w K C t "is_job" 6 ["thing"] (zbI K)):FnOk P w K C t CX0 7 f fd ["_law_box_here","_law_job_here","_law_order"] (zgA K):=by
 have nd:=zgJ.nd;refine F.ok zgJ (fun vs H Q E h=>?_) (fun f9 A ed s H vs Q E hr h=>?_)
 ·obtain⟨b,jp,jo,J,od,G,n,rfl,_⟩:=h
  rfl
 ·obtain⟨b,jp,jo,J,od,G,n,rfl,B0,hn,rj,jk,po,ho,cu,k⟩:=h
  have hu:=hr.units0;have fc:=yp hr;have aq:=hr.units;have hg:=hr.gd;have ey:=bG1000000;have cg:=bGe;refine⟨_,(zg (zfw ["_law_job_here"] [1] rfl rfl (by kernel_rfl) (qI rfl B.range (za (zq zu rfl B.len boot_len (za (zH qH (pv 1) zi (fun _ _=>rfl)) zb)) zb)) (fun _ _ _ _=>(ZR (zO (zaN (K:=K) rfl hu) (zf N hr.m rfl (za (pv 1) (za (pv 0) zb))) (qU zb) (zJ _)))) (fun _ _ _ _=>(pv 0)) (zD (i:=3) nd rfl (Or.inl rfl)))
   (zg (qM (zO (zcj hu) (pv 3) (qU zb) (zJ _))
   (zj (zw ji))
   zR)
   (zg (zx (i:=4) nd rfl (Or.inl rfl) (zH qo (pv 3) (zf aa hr.m rfl (za (pv 0) (za (zq zu rfl B.len boot_len (za (pv 3) zb)) zb))) (fun _ _=>rfl)))
   (zg (zx (i:=5) nd rfl (Or.inl rfl) (zf N hr.m rfl (za (pv 1) (za (pv 4) zb))))
   (zg (zx (i:=6) nd rfl (Or.inl rfl) (jH (za (pv 4) (za (zH qo (pv 5) (zf aa hr.m rfl (za (pv 0) (za (zq zu rfl B.len boot_len (za (pv 5) zb)) zb))) (fun _ _=>rfl)) zb))))
   (zg (zx (i:=7) nd rfl (Or.inl rfl) (zf aa hr.m rfl (za (pv 0) (za (zC qr (zq zu rfl B.len boot_len (za (zH qH (pv 1) zi (fun _ _=>rfl)) zb)) zi) zb))))
   (zg (zx (i:=8) nd rfl (Or.inr rfl) (zC JH (zC JH (xa (Jx (K:=K) rfl) (zH qH (pv 1) zi (fun _ _=>rfl)) vn (xr (pv 7))) (jH (za (pv 6) zb))) (xa (Jx (K:=K) rfl) (zH qH (pv 1) zi (fun _ _=>rfl)) (xr (pv 7)) vn)))
   (zg (zx (i:=9) nd rfl (Or.inl rfl) (zf U hr.m rfl (za (zq zu rfl B.len boot_len (za (zH qH (pv 1) zi (fun _ _=>rfl)) zb)) (za (qe jQ rfl B.list qV (za (pv 8) zb)) zb))))
   (zg (qM (PW.pt (vw (zO JG (zf ah hr.m rfl (za (zC JH (xa (Jx (K:=K) rfl) (pv 1) vn (xr zi)) (jH (za (pv 8) zb))) zb)) ji (zJ _)) (xS (qX (qS (zq xf rfl B.isinstance boot_isinstance (za (pv 9) (za (xK (v:=.ty "list") rfl B.list qV rfl) zb))))))))
   (zj (zw ji))
   zR)
   (zg (zx (i:=10) nd rfl (Or.inl rfl) (Wa rfl rfl B.list rfl B.zip qV (za (pv 9) (za (zC We (xa ww (pv 9) (xr zi) vn) (xa ww (pv 9) vn (xr zi))) zb))))
   (zg (qM (PW.pt (vw (zO Ja (zq zbf rfl B.len boot_len (za (qe (zbc hr.hd) rfl B.set zcZ (za (pv 9) zb)) zb)) (zq zu rfl B.len boot_len (za (pv 9) zb)) (zJ _)) (vw (qX (qS (zq (jL rfl) rfl B.all boot_all (za (jg ["_law_pairs"] [8] rfl rfl (by kernel_rfl) (jG (pv 10)) (fun _ _ _ _=>qT) (fun _ _ _ _=>(qR (zdP (K:=K) rfl aq) (pv 0) (pv 1) (by with_unfolding_all rfl)))) zb)))) (xS (zO (zaM (K:=K) rfl aq) (pv 6) (pv 10) (by with_unfolding_all rfl))))))
   (zj (zw ji))
   zR)
   (zg (zfv ["_law_order"] [2] rfl rfl (by kernel_rfl) (xj (pv 8)) (fun _ _ _ _=>qT) (fun _ _ _ _=>(jH (za (JF (K:=K) rfl vB XB XA wx (pv 2) (za (pv 0) zb)) (za (JF (K:=K) rfl vB XB XA wx (pv 2) (za (pv 1) zb)) zb)))) (zD (i:=11) nd rfl (Or.inl rfl)))
   (zg (zx (i:=12) nd rfl (Or.inl rfl) (zf U hr.m rfl (za (zq zu rfl B.len boot_len (za (pv 2) zb)) (za (pv 11) zb))))
   (zj (zw (xC (zq xf rfl B.isinstance boot_isinstance (za (pv 12) (za (xK (v:=.ty "list") rfl B.list qV rfl) zb))) (xU (qR yj (zq zu rfl B.len boot_len (za (pv 12) zb)) (zq zu rfl B.len boot_len (za (pv 9) zb)) (zJ _))))))))))))))))))),?_⟩
  have jr:=jk.rt;have ao:=J2 jr.ab;have aj:=jr.pl;have lo:G.length=J.ps.length:=by rw[po.length_eq,qQ]
  obtain⟨g,fs,ps,as,fv,fg,qj,rg,qf,rf,qp,rp,ra⟩:=jc rj;have lp:=rp.len;rw[zo] at lp;refine⟨_,rfl,jp,_,_,_,rfl,rfl,qj,rfl,ps,_,rfl,.inr qp,_,rfl,(by rw[cg,lp];omega),(by rw[cg,lp];omega),?_⟩
  refine ZX (zaq J H) ⟨[],rfl,zy _,(fun k h=>nomatch h),ua _⟩ ?_ ?_
  ·rintro i zs H1 hi ⟨ks,rfl,lk,hk,s1⟩
   rw[lp,jT] at hi;rw[yU];refine⟨rfl,_,rfl,_,rfl,(i:Int),jp,J,rfl,rj.same s1,aj,⟨wJ _,vQ.mpr hi⟩,ao,zX jr.al (by decide),fun la ms H2 s2 _ La pa ma=>⟨le0,fun e he=>?_⟩⟩
   have s3:=s1.trans (s2.trans (ze (o:=.lst []) he));refine⟨la,e,_,rfl,rfl,u7 ((ze he) _ _ La),u7 zc,_,rfl,yn (fun c=>⟨_,rfl,?_,ks++[i],?_,?_,fun k e0=>?_,s3⟩) (fun c=>⟨ks,rfl,by omega,hk,s3⟩)⟩
   ·rw[qL];omega
   ·rw[yL]
   ·rw[zL];exact Nat.succ_le_succ lk
   ·rcases qO.mp e0 with z | z
    ·exact hk k z
    ·cases zP.mp z
     cases ms with
     | nil=>cases c
     | cons j ms=>
      obtain⟨a1,a2⟩:=(ma j).mp (jU ..);exact⟨hi,j,a1,a2⟩
  rintro zs H1 ⟨ks,rfl,lk,hk,s1⟩;rw[lp,jT] at lk;refine⟨by rw[qL];omega,fun D hD=>?_⟩
  have S2:=s1.trans (ze (o:=.lst (qZ ks)) hD);have Db:=B0.nne (b:=b) (by
   cases e:H D with
   | none=>rfl
   | some o=>rw[s1 _ _ e] at hD;cases hD)
  have D2:upd H1 D (.lst (qZ ks)) D=some (.lst (qZ ks)):=zc;generalize upd H1 D (.lst (qZ ks))=H2 at S2 D2;refine⟨_,rfl,le0,fun e he=>⟨D,e,_,rfl,rfl,u7 ((ze he) _ _ D2),u7 zc,_,rfl,yn (fun c=>?_) (fun c=>?_)⟩⟩
  ·exact k _ (uf (S2.trans (ze he)))
  have S3:=S2.trans (ze (o:=.lst []) he);have D3:=(ze (o:=.lst []) he) _ _ D2;generalize upd H2 e (.lst [])=H3 at S3 D3;have kl:0<ks.length:=by
   cases ks with
   | nil=>exact absurd rfl c
   | cons a l=>exact wa _
  have B3:=B0.same S3;refine⟨_,rfl,_,rfl,_,rfl,D,_,rfl,.inl (u7 D3),b,_,n,rfl,B3,by omega,by rw[qL];omega,by rw[qL];omega,fun r1 H4 a0 a1 B4 S4=>?_⟩
  rw[qL] at a1;obtain⟨I,bc⟩:∃I,ks[r1.toNat]? =some I:=⟨_,qA (by omega)⟩
  have ch:atI (qZ ks) r1=some (.int (I:Int)):=by
   have e1:r1=((r1.toNat:Nat):Int):=by omega
   rw[e1];exact j9 (by unfold qZ;rw[zY,bc];rfl)
  obtain⟨cy,jj,e9,mm,wj⟩:=hk I (qm bc);have cr:InN J.ps.length (I:Int):=⟨wJ _,vQ.mpr cy⟩;have T4:=(SameT.of S3).trans (ub B3 S4);have cd:SameB b H H4:=(uf S3).trans S4;refine⟨D,_,_,_,rfl,rfl,u7 (S4 _ _ D3 Db),ch,?_⟩
  refine⟨_,rfl,_,rfl,(I:Int),jp,J,rfl,rj.keep T4 (vL J),aj,cr,ao,zX jr.al (by decide),fun la ms H5 s5 cj La pa ma=>?_⟩
  have cx:la≠b:=B4.nne cj;have ce:=cd.trans (uf (b:=b) s5);have B5:=B4.same s5;have mj:=(ma jj).mpr ⟨e9,mm,wj⟩;have fe:0<ms.length:=Xw mj;have cq:∀j∈ms,InN J.ps.length j:=fun j hj=>by
   obtain⟨a,kk,w⟩:=(ma j).mp hj;exact Jo ao w a
  have lm:=VM cq pa;have dw:(ms.map V.int).length=ms.length:=zo ..;refine⟨_,rfl,_,rfl,_,rfl,_,rfl,la,_,rfl,.inl (u7 La),b,_,_,rfl,B5,by omega,by omega,by omega,fun r2 H6 c0 c1 B6 S6=>?_⟩
  rw[dw] at c1;obtain⟨x,ex⟩:∃x,ms[r2.toNat]? =some x:=⟨_,qA (by omega)⟩
  have ci:atI (ms.map V.int) r2=some (.int x):=by
   have e1:r2=((r2.toNat:Nat):Int):=by omega
   rw[e1];exact j9 (by rw[zY,ex];rfl)
  have bf:=cq x (qm ex);obtain⟨ew,xk,xw⟩:=(ma x).mp (qm ex);refine⟨la,_,_,_,rfl,rfl,u7 (S6 _ _ La cx),ci,le2,fun pr bd=>?_⟩
  have ef:=B6.nne bd;have P7:upd H6 pr (.tup [.int (I:Int),.int x]) pr=some (.tup [.int (I:Int),.int x]):=zc;have S7:=(ce.trans S6).new (o:=.tup [.int (I:Int),.int x]) bd;have B7:=B6.new (o:=.tup [.int (I:Int),.int x]) bd;generalize upd H6 pr (.tup [.int (I:Int),.int x])=H7 at P7 S7 B7;clear cd ce S6 B5 B6 La cj ci bc ch B4 S4 T4 s5 D3 S2 D2;have bq:=rj.keep (ub B0 S7) (vL J);obtain⟨g7,fa,ff,ba,fb,ez,bj,er,eh,en,ei,es,ej⟩:=jc bq;obtain⟨a7,av,ea,bh,bo⟩:=ej;cases ea;have bg:=bo.len;rw[zo] at bg;have du:=jk.al;refine⟨_,rfl,_,rfl,jp,_,_,_,rfl,rfl,bj,rfl,ba,_,rfl,.inr bh,_,_,rfl,rfl,b,_,_,rfl,B7,by omega,by rw[bg];omega,by rw[bg];omega,fun f8 H8 d0 d1 B8 S8=>?_⟩
  have t8:=ub B7 S8;have P8:=S8 pr _ P7 ef;have cf:=S7.trans S8;obtain⟨L,rfl⟩:=Int.eq_ofNat_of_zero_le d0;obtain⟨O,rfl⟩:=Int.eq_ofNat_of_zero_le bf.1;have d5:=bq.keep t8 (vL J);have bn:=bj.keep t8;have bi:=bh.keep t8;have aw:=Reps.keep t8 (j5 J.as) bo;have al:L<=av.length:=by omega
  clear P7 S7 B7 bo bh bj t8 S8 er eh en ei es bq;refine⟨_,rfl,jp,_,_,_,rfl,rfl,bn,rfl,_,rfl,_,rfl,ba,av,rfl,bi,fun c1 H9 s9 C1=>⟨_,rfl,le1,fun t1 ck=>?_⟩⟩
  have d8:=s9.trans (ze (o:=.tup [.ref pr]) ck);refine⟨c1,t1,_,_,rfl,rfl,(ze ck).sqT C1,u8 zc,?_,fun p1 f4 d9 c7=>?_⟩
  ·have:=xN av none (some (L:Int))
   show _+1<=sizeLine;omega
  have ap:=d8.trans d9;refine⟨_,rfl,jp,_,_,_,rfl,rfl,ap.sqT bn,rfl,_,rfl,_,rfl,ba,av,rfl,ap.sqT bi,fun c2 f5 br C2=>⟨p1,c2,_,_,rfl,rfl,br.sqT c7,C2,?_,fun pp bs da PP=>?_⟩⟩
  ·rw[wz av L al,yQ av L al,zL,qD,vh]
   show _+1+_<=sizeLine;omega
  have M:=ap.trans (br.trans da);rw[wz av L al,yQ av L al] at PP;have RA:Reps K bs ((xH J.as L (I,O)).map jY) (av.take L++[.ref pr]++av.drop L):=by
   have r:=aw.same M;unfold xH;rw[zF,zF,J9,List.map_drop];refine Reps.app (ud (d:=jY (I,O)) ⟨pr,_,rfl,u8 (M _ _ P8),_,_,rfl,rfl,_,_,rfl,rfl,rfl⟩ (Reps.take L r)) (Reps.dropR L r)
  have b0:=cf.trans (uf (b:=b) M);have f0:=B8.same M;have d4:=d5.same M;have dr:=M _ _ P8;clear C1 C2 c7 s9 d8 d9 ap br da M aw d5 P8 cf B8 bn bi;obtain⟨g1,ag,ae,am,dy,cz,d2,eo,eg,em,d3,d7,_⟩:=jc d4;have cw:=d7.len;rw[zo] at cw;have ac:∀q∈(xH J.as L (I,O)).map vp,InN J.ps.length q.1/\InN J.ps.length q.2:=fun q hq=>by
   obtain⟨p,hp,rfl⟩:=zT.mp hq;rcases vJ.mp hp with h | h
   ·exact ao _ (zT.mpr ⟨p,h,rfl⟩)
   ·rw[h];exact⟨cr,bf⟩
  have bm:((I:Int),(O:Int))∈(xH J.as L (I,O)).map vp:=zT.mpr ⟨(I,O),vJ.mpr (.inr rfl),rfl⟩;have nf:¬VH ((xH J.as L (I,O)).map vp):=fun f=>f _ xk ⟨_,bm,W8 (fun q hq=>by
   obtain⟨p,hp,rfl⟩:=zT.mp hq;exact zT.mpr ⟨p,vJ.mpr (.inl hp),rfl⟩) xw⟩
  have lA:(xH J.as L (I,O)).length<=151:=by rw[zcx];omega
  refine⟨_,rfl,jp,_,_,_,rfl,rfl,d2,rfl,ae,_,rfl,.inr d3,_,rfl,pp,_,rfl,.inr PP,fun l0 e6=>?_⟩
  have u0:=ze (o:=.lst (av.take L++[.ref pr]++av.drop L)) e6;refine⟨J.ps.length,l0,_,(xH J.as L (I,O)).map vp,by rw[cw];rfl,u7 zc,by rw[jC];exact RA.same u0,by rw[zo];omega,aj,ac,fun v dk M tv=>?_⟩
  have M:=u0.trans M;obtain⟨rl,st,rc,u,rfl,_,Lr,Y,ring⟩:∃l s c u,v=.ref l/\True/\dk l=some (.lst (u.map V.int))/\Best ((xH J.as L (I,O)).map vp) J.ps.length s c/\RingAt ((xH J.as L (I,O)).map vp) s c u:=by
   have tf:=xZ ac tv;rcases tv with ⟨rfl,no⟩ | ⟨l,s,c,u,h1,_,h3,h4,h5⟩
   ·exact absurd (tf.mp rfl) nf
   ·exact⟨l,s,c,u,h1,trivial,h3,h4,h5⟩
  refine⟨_,rfl,_,rfl,jp,_,rfl,M.sqT d2,fun c3 f6 db C3=>⟨_,rfl,le1,fun t2 be=>?_⟩⟩
  have eu:=M.trans (db.trans (ze (o:=.tup [.ref pp]) be));refine⟨c3,t2,_,_,rfl,rfl,(ze be).sqT C3,u8 zc,?_,fun jb dm dc JB=>?_⟩
  ·have:=xN [V.ref g1,.int J.hd,.ref ag,.ref ae,.ref am] none (some 4)
   show _+1<=sizeLine;have e5:[V.ref g1,.int J.hd,.ref ag,.ref ae,.ref am].length=5:=rfl;omega
  have ab:=eu.trans dc;have e4:jd [V.ref g1,.int J.hd,.ref ag,.ref ae,.ref am] none (some 4)=[V.ref g1,.int J.hd,.ref ag,.ref ae]:=wz [V.ref g1,.int J.hd,.ref ag,.ref ae,.ref am] 4 (by show 4<=5;decide)
  rw[e4] at JB;have RJ:Rep K dm (wC ⟨J.gx,J.gy,J.hd,J.fs,J.ps,xH J.as L (I,O)⟩) (.ref jb):=⟨jb,_,rfl,JB,_,_,rfl,eo.same ab,_,_,rfl,rfl,_,_,rfl,⟨ag,dy,rfl,ab.sqT eg,em.same ab⟩,_,_,rfl,⟨ae,cz,rfl,ab.sqT d3,d7.same ab⟩,_,_,rfl,⟨pp,_,rfl,ab.sqT PP,RA.same ab⟩,rfl⟩;have JR:zdp ⟨J.gx,J.gy,J.hd,J.fs,J.ps,xH J.as L (I,O)⟩:=⟨jr.gate,jr.hd0,jr.hd1,jr.fl,jr.fa,jr.pl,jr.pa,jr.pd,zX lA (by decide),fun p hp=>by
   rcases vJ.mp hp with h | h
   ·exact jr.ab p h
   ·rw[h]
    exact⟨cy,vQ.mp bf.2,fun z=>ew (by rw[show I=O from z])⟩⟩
  refine⟨jb,_,rfl,RJ,JR,fun cc bt dd hc=>?_⟩
  cases cc with
  | true=>exact absurd (hc.mp rfl) nf
  | false=>
   have ev:=ab.trans dd;have SL:=db.trans ((ze (o:=.tup [.ref pp]) be).trans (dc.trans dd));have ai:=SL _ _ Lr;refine⟨_,_,rfl,rfl,_,rfl,ifF rfl ?_⟩
   refine⟨_,rfl,.ref rl, "list", "list",rfl,(.inl ⟨rfl,_,u7 ai⟩),(by decide),_,rfl,ifF (by decide) ?_⟩
   have c1:=Y.2.1.1;have fl:u.length=rc:=ring.len;have fk:rc<=60:=zX (Y.2.1.le (fun q hq=>(ac q hq).1)) aj
   refine⟨_,rfl,_,rfl,_,rfl,rl,_,rfl,u7 ai,fun z1 cm=>?_⟩
   have u1:=ze (o:=.lst (jd (u.map V.int) (some 1) none)) cm;have Z1:upd bt z1 (.lst (jd (u.map V.int) (some 1) none)) z1=some (.lst ((u.drop 1).map V.int)):=by
    rw[zc,show(1:Int)=((1:Nat):Int) from rfl,yQ (u.map V.int) 1 (by rw[zo];omega),List.map_drop]
   generalize upd bt z1 (.lst (jd (u.map V.int) (some 1) none))=bu at u1 Z1;refine⟨_,rfl,_,rfl,rl,_,rfl,u7 (u1 _ _ ai),fun z2 cn=>?_⟩
   have u2:=ze (o:=.lst (jd (u.map V.int) none (some 1))) cn;have Z2:upd bu z2 (.lst (jd (u.map V.int) none (some 1))) z2=some (.lst ((u.take 1).map V.int)):=by
    rw[zc,show(1:Int)=((1:Nat):Int) from rfl,wz (u.map V.int) 1 (by rw[zo];omega),J9]
   generalize upd bu z2 (.lst (jd (u.map V.int) none (some 1)))=bv at u2 Z2;refine⟨z1,z2,_,_,rfl,rfl,u2 _ _ Z1,Z2,?_,fun z3 co=>?_⟩
   ·rw[zo,zo,vh,qD];omega
   have u3:=ze (o:=.lst ((u.drop 1).map V.int++(u.take 1).map V.int)) co;have Z3:upd bv z3 (.lst ((u.drop 1).map V.int++(u.take 1).map V.int)) z3=some (.lst ((u.drop 1++u.take 1).map V.int)):=by rw[zc,zF]
   generalize upd bv z3 (.lst ((u.drop 1).map V.int++(u.take 1).map V.int))=f7 at u3 Z3;have ax:=u1.trans (u2.trans u3);have az:=ax _ _ ai;have au:(u.drop 1++u.take 1).length=u.length:=by rw[zL,vh,qD];omega
   have ar:min (u.map V.int).length ((u.drop 1++u.take 1).map V.int).length=u.length:=by rw[zo,zo,au];omega
   refine⟨true,true,rl,z3,_,_,rfl,u7 az,u7 Z3,by rw[ar];omega,fun D2 Ts bw de _ dj lT tup=>?_⟩
   rw[ar] at lT;have ds:=ev.trans (ax.trans de);have c4:=de _ _ az;clear u1 u2 u3 Z1 Z2 Z3 cm cn co az ai;refine⟨_,rfl,rl,u.map Sum.inl,rfl,by rw[c4,jC];rfl,by rw[zo];omega,fun p hp=>?_⟩
   have dx:Zt [] (u.map (Sum.inl:Int->Key))=u.map Sum.inl:=ZD (ks:=[]) (by
    rw[Wu];exact Zh.mpr ((V4 ring).imp fun h e=>h (vf e)))
   refine⟨p,_,rfl,zc,?_⟩
   rw[dx,zo];have u5:=ze (o:=V1 P w p (u.map (Sum.inl:Int->Key))) hp;have c5:=u5 _ _ c4;refine⟨_,rfl,rl,_,rfl,.inl (u7 c5),rfl,_,rfl,ifF (by rw[zo];simp) ?_⟩
   have ay:=u5 _ _ dj;have dh:=tup.same u5;have c9:=ds.trans u5;have PA:=zfx RA;have step:∀(i:Nat) (T:Addr),Ts[i]? =some T->∃a b,u[i]? =some a/\(u.drop 1++u.take 1)[i]? =some b/\upd bw p (V1 P w p (u.map (Sum.inl:Int->Key))) T=some (.tup [.int a,.int b])/\(a,b)∈(xH J.as L (I,O)).map vp:=fun i T eT=>by
    obtain⟨x',y',e1,e2,e3⟩:=dh i T eT;rw[zY] at e1 e2;obtain⟨a,ea,rfl⟩:=z9.mp e1;obtain⟨b',eb,rfl⟩:=z9.mp e2;obtain⟨b2,f1,f2⟩:=Q8 ring Y.2.1 ea;rw[eb] at f1;cases f1;exact⟨a,b',ea,eb,e3,f2⟩
   refine⟨_,rfl,D2,rfl,⟨_,u7 ay⟩,xt (K:=K) (a:=D2) (xs:=Ts.map V.ref) (fun i zs H'=>zs=List.replicate i (V.bl true)/\Same (upd bw p (V1 P w p (u.map (Sum.inl:Int->Key)))) H') ⟨rfl,ua _⟩ (fun i zs H' ⟨_,s⟩=>u7 (s _ _ ay)) ?_ ?_⟩
   ·rintro i x' zs bx hx ⟨rfl,ak⟩
    rw[zY] at hx;obtain⟨T,eT,rfl⟩:=z9.mp hx;obtain⟨a,b',e1,e2,e3,e5⟩:=step i T eT;have hi:=(zK.mp eT).1;have ca:=c9.trans ak;refine⟨rfl,_,rfl,_,rfl,T,pp,(a,b'),_,_,rfl,rfl,u8 (ak _ _ e3),ca.sqT PP,⟨PA.1,fun i r e=>let ⟨c,h1,h2⟩:=PA.2 i r e;⟨c,h1,ca.sqT h2⟩⟩,?_,?_,ak⟩
    ·rw[xQ];omega
    ·rw[zW e5,y9]
   rintro zs bx ⟨rfl,ak⟩;refine⟨by rw[xQ,zo];omega,fun D3 dz=>⟨D3,List.replicate Ts.length true,rfl,u7 (by rw[zc,List.map_replicate,zo]),?_⟩⟩
   have u6:=ak.trans (ze (o:=.lst (List.replicate (Ts.map V.ref).length (V.bl true))) dz);generalize upd bx D3 (.lst (List.replicate (Ts.map V.ref).length (V.bl true)))=bz at u6;have ee:((I:Int),(O:Int))∈u.zip (u.drop 1++u.take 1):=by
    refine Decidable.byContradiction fun no=>?_
    obtain⟨kk,ek⟩:∃kk,rc=kk+1:=⟨rc-1,by omega⟩
    have wk:Wk (asI J) rc st st:=zaH ring fun i a b' e1 e2=>by
     obtain⟨b2,f1,f2⟩:=Q8 ring Y.2.1 e1;rw[e2] at f1;cases f1;obtain⟨p',e8,e'⟩:=zT.mp f2;rcases vJ.mp e8 with h | h
     ·rw[<- e'];exact zT.mpr ⟨p',h,rfl⟩
     ·refine absurd (Xt.mpr ⟨i,?_⟩) no
      rw[h] at e';rw[W2 (z:=(a,b')) |>.mpr ⟨e1,e2⟩]
      exact congrArg some e'.symm
    rw[ek] at wk;exact jk.bo.free jk.op st kk wk
   refine⟨true,congrArg V.bl (zer _),ifF rfl ?_⟩
   have af:=c9.trans u6;have zl:(u.zip (u.drop 1++u.take 1)).length=u.length:=by rw[List.length_zip,au];omega
   refine⟨_,rfl,_,rfl,pr,D2,(I,O),_,u.zip (u.drop 1++u.take 1),rfl,rfl,u8 (af _ _ dr),u7 (u6 _ _ ay),⟨by rw[zo,zl,lT],fun i r e=>?_⟩,_,rfl,ifF (by rw[zr rfl,zW ee];rfl) ?_⟩
   ·obtain⟨e1,e2⟩:=W2.mp e
    have hi:=(zK.mp e1).1;obtain⟨T,eT⟩:∃T,Ts[i]? =some T:=⟨_,qA (by omega)⟩
    obtain⟨a,b',f1,f2,f3,_⟩:=step i T eT;rw[e1] at f1;rw[e2] at f2;cases f1;cases f2;exact⟨T,by rw[zY,eT];rfl,u8 (u6 _ _ f3)⟩
   have an:∀{H'},Same bz H'->H' jo=some (.lst ((G.map fun n:Nat=>(n:Int)).map V.int)):=fun s=>by rw[<- yk];exact s _ _ (af _ _ (b0 _ _ ho cu))
   have cl:(G.map fun n:Nat=>(n:Int)).length<=1000000:=by rw[zo];omega
   have cv:=RA.len;have c8:SqT K bs pp (av.take L++[.ref pr]++av.drop L):=PP;rw[zo] at cv;refine⟨_,rfl,pp,rfl,⟨_,af.sqT c8⟩,xX (K:=K) (a:=pp) (xs:=av.take L++[.ref pr]++av.drop L) (fun i zs H'=>An2 (Reps K H' (((xH J.as L (I,O)).take i).map fun p=>jY (G.idxOf p.1,G.idxOf p.2)) zs) (Same bz H')) ⟨rfl,ua _⟩ (fun i zs H' ⟨_,s⟩=>(af.trans s).sqT c8) ?_ ?_⟩
   ·rintro i x' zs dn hx ⟨rz,s1⟩
    obtain⟨d,e1,r1⟩:=(RA.same (af.trans s1)).get hx;rw[zY] at e1;obtain⟨p',ep,rfl⟩:=z9.mp e1;have hi:=(zK.mp ep).1;obtain⟨a,cs,rfl,qc,x1,fh,rfl,e2,x2,fi,rfl,e3,e4⟩:=r1;cases e2;cases e3;cases e4;have cp:=ac (vp p') (zT.mpr ⟨p',qm ep,rfl⟩);have m1:p'.1∈G:=po.mem_iff.mpr (qC.mpr (vQ.mp cp.1.2));have m2:p'.2∈G:=po.mem_iff.mpr (qC.mpr (vQ.mp cp.2.2));refine⟨a,_,rfl,qc,rfl,_,_,rfl,_,_,rfl,rfl,rfl,?_⟩
    refine⟨_,rfl,.inl ⟨rfl,_,u7 (an s1)⟩,_,rfl,jo,_,_,rfl,rfl,an s1,zT.mpr ⟨_,m1,rfl⟩,cl,?_⟩
    refine⟨_,rfl,.inl ⟨rfl,_,u7 (an s1)⟩,_,rfl,jo,_,_,rfl,rfl,an s1,zT.mpr ⟨_,m2,rfl⟩,cl,?_⟩
    rw[yo,yo];refine⟨le2,fun q hq=>⟨?_,?_,s1.trans (ze hq)⟩⟩
    ·have:=rz.len
     rw[zo,qD] at this;omega
    ·rw[ju ep,zF]
     exact ud (d:=jY (G.idxOf p'.1,G.idxOf p'.2)) ⟨q,_,rfl,u8 zc,_,_,rfl,rfl,_,_,rfl,rfl,rfl⟩ (rz.same (ze hq))
   rintro ys dn ⟨ry,df⟩;rw[cv,jS] at ry;refine⟨by rw[ry.len,zo];omega,fun nl e7=>?_⟩
   have u9:=ze (o:=.lst ys) e7;have dv:((xH J.as L (I,O)).map fun p=>jY (G.idxOf p.1,G.idxOf p.2))=(ixP G ((xH J.as L (I,O)).map vp)).map prD:=by
    unfold ixP;rw[jC,jC];refine Qu fun p' _=>?_
    show jY (G.idxOf p'.1,G.idxOf p'.2)=prD (ixI G (p'.1:Int),ixI G (p'.2:Int));unfold ixI;rw[jT,jT];rfl
   rw[dv] at ry;have cb:=af.trans (df.trans u9);refine⟨_,rfl,jo,_,rfl,.inl (u7 (cb _ _ (b0 _ _ ho cu))),_,rfl,J.ps.length,nl,ys,ixP G ((xH J.as L (I,O)).map vp),by rw[qL,lo];rfl,u7 zc,ry.same u9,by unfold ixP;rw[zo,zo];omega,aj,wR po ac,fun v2 dp dg di=>?_⟩
   obtain⟨d6,fn,fj,et,rfl,c6,bb,bp⟩:∃l s c u,v2=.ref l/\dp l=some (.lst (u.map V.int))/\Best (ixP G ((xH J.as L (I,O)).map vp)) J.ps.length s c/\RingAt (ixP G ((xH J.as L (I,O)).map vp)) s c u:=by
    have tf:=xZ (wR po ac) di;rcases di with ⟨rfl,no⟩ | ⟨l,s,c,u,h1,_,h3,h4,h5⟩
    ·obtain⟨kk,ek⟩:∃kk,rc=kk+1:=⟨rc-1,by omega⟩
     have w2:=Y.2.1.2.1;rw[ek] at w2;exact absurd (W9 (ord:=G) w2) (tf.mp rfl _ kk)
    ·exact⟨l,s,c,u,h1,h3,h4,h5⟩
   have ec:=zeo po ac Y bb;have dt:=cb.trans dg;have dq:=dg _ _ (u9 _ _ (df _ _ (u6 _ _ c5)));refine⟨_,rfl,.ref d6, "list", "list",rfl,(.inl ⟨rfl,_,u7 c6⟩),(by decide),_,rfl,ifT (by decide) ?_⟩
   refine⟨_,rfl,d6,_,rfl,.inl (u7 c6),_,rfl,rl,_,rfl,.inl (u7 dq),rfl,?_⟩
   have el:decide (V.int ((et.map V.int).length:Int)=V.int ((u.map V.int).length:Int))=true:=zW (by rw[zo,zo,bp.len,ring.len,ec])
   rw[el];exact k _ (b0.trans (uf dt))
inductive Q0(g:List V)(H:Hp)(Q:VK):Prop
 | mk (b:Addr) (n:Int) (_:g=[.ref b]) (_:BoxAt H b n) (_:n<1000) (_:∀c,SameB b H c->Q (.bl true) c):Q0  g H Q
def Ym:Sp:=fun c H Q _=>Q0  c H Q
theorem YF:zB ["_law_box_here","_law_job_here","_law_order","_law_row"] ["_law_box_here"] (zv (topL 51)):=u4
theorem zcq{f:Addr}{fd:FuncData}(F:Fun K "_law_right" "_law_right" (topL 51) f fd)(B:Blt C)(G:Dfn P w K C t "_law_take" 1 ["_law_box_here","_law_size"] vm)(N:Dfn P w K C t "_law_job" 4 ["_law_box_here","_law_few","_law_most","_law_plenty"] (zeE K))(c:Dfn P w K C t "_law_shuffled" 2 ["_law_box_here","_law_some"] (Js K))(l:Dfn P w K C t "_law_turned_right" 7 ["_law_job_here","_law_other","_law_order","_law_row"] (zgy K))(u:Dfn P w K C t "_law_turned" 1 ["_law_job_here","_law_order","_law_row"] (Yg K))(o:Dfn P w K C t "_law_back_right" 7 ["_law_box_here","_law_job_here","_law_order"] (zgA K)):FnOk P w K C t CX0 8 f fd ["_law_box_here"] Ym:=by
 have nd:=YF.nd;refine F.ok YF (fun vs H Q E h=>?_) (fun aw A al s H vs Q E Y h=>?_)
 ·obtain⟨b,n,rfl,_⟩:=h
  rfl
 ·obtain⟨b,n,rfl,B0,hn,k⟩:=h
  have ar:=bG1000000;have ax:=bGe;refine⟨_,(zg (zx (i:=1) nd rfl (Or.inl rfl) (zf N Y.m rfl (za (pv 0) (za zi (za zi (za (qR yj (zf G Y.m rfl (za (pv 0) (za zi zb))) zi (zJ _)) zb))))))
   (zg (V6 (i:=2) (j:=3) rfl nd rfl rfl (by decide) rfl rfl (za (zf c Y.m rfl (za (pv 0) (za (vo rfl rfl B.list rfl B.range qV (za (zq zu rfl B.len boot_len (za (zH qH (pv 1) zi (fun _ _=>rfl)) zb)) zb)) zb))) (za (zf c Y.m rfl (za (pv 0) (za (vo rfl rfl B.list rfl B.range qV (za (zq zu rfl B.len boot_len (za (zH qH (pv 1) zi (fun _ _=>rfl)) zb)) zb)) zb))) zb)) (by rfl))
   (zg (qM (qX (qS (zf l Y.m rfl (za (pv 1) (za (zf u Y.m rfl (za (pv 1) (za (pv 2) (za (pv 3) zb)))) (za (pv 2) (za (pv 3) zb)))))))
   (zj (zw ji))
   zR)
   (zj (zw (zf o Y.m rfl (za (pv 0) (za (pv 1) (za (pv 2) zb))))))))),?_⟩
  refine⟨_,rfl,_,rfl,b,2,n,rfl,B0,by omega,by decide,by decide,fun r H1 r0 r1 B1 S1=>⟨rfl,?_⟩⟩
  refine⟨b,7,30,_,_,rfl,B1,by omega,by decide,by decide,by decide,by decide,fun jp J od H2 S2 B2 rj jk=>?_⟩
  have jr:=jk.rt;obtain⟨g,fs,ps,as,fv,an,qj,rg,qf,rf,qp,rp,ra⟩:=jc rj;have lf:=rf.len;have lp:=rp.len;rw[zo] at lf lp;have ay:=jr.fl;have b0:=jr.pl;refine⟨_,rfl,_,rfl,jp,_,_,_,rfl,rfl,qj,rfl,ps,_,rfl,.inr qp,_,rfl,wJ _,by rw[lp];omega,fun l0 h0=>?_⟩
  have ai:((an.length:Int)).toNat=J.ps.length:=by rw[lp,jT]
  rw[ai];have L:((List.range J.ps.length).map fun i:Nat=>V.int (i:Int)).length=J.ps.length:=by rw[zo,qQ]
  refine⟨b,l0,_,_,rfl,B2.new h0,by omega,B2.nne h0,zc,by rw[L];omega,fun jo ys H3 S3 B3 af jN ho pm=>?_⟩
  obtain⟨D,op,rfl⟩:=jO pm rfl;rw[L] at B3;have ac:=((uc b H2).new h0).trans S3;have ag:=rj.keep (ub B2 ac) (vL J);obtain⟨g',aj,ba,av,ak,au,ap,bd,ao,aq,bb,be,bc⟩:=jc ag;have a0:=aq.len;rw[zo] at a0;refine⟨_,rfl,_,rfl,jp,_,_,_,rfl,rfl,ap,rfl,aj,_,rfl,.inr ao,_,rfl,wJ _,by rw[a0];omega,fun l1 h1=>?_⟩
  have ah:((ak.length:Int)).toNat=J.fs.length:=by rw[a0,jT]
  rw[ah];have M:((List.range J.fs.length).map fun i:Nat=>V.int (i:Int)).length=J.fs.length:=by rw[zo,qQ]
  refine⟨b,l1,_,_,rfl,B3.new h1,by omega,B3.nne h1,zc,by rw[M];omega,fun jw ws H4 S4 B4 az wN hw am=>⟨_,_,rfl,?_⟩⟩
  obtain⟨ab,pw,rfl⟩:=jO am rfl;have O:=((uc b H3).new h1).trans S4;have aa:=ag.keep (ub B3 O) (vL J);have U:H4 jo=some (.lst (qZ D)):=O _ _ ho af;have ae:H4 jw=some (.lst (qZ ab)):=hw;have SA:=((S1.trans S2).trans ac).trans O;have mo:∀kk,kk<J.ps.length->kk∈D:=fun kk h=>op.mem_iff.mpr (qC.mpr h)
  refine⟨_,rfl,_,rfl,_,rfl,_,rfl,jp,jo,jw,J,D,ab,rfl,aa,U,ae,fun kk h=>qC.mp (op.mem_iff.mp h),fun kk h=>qC.mp (pw.mem_iff.mp h),fun p hp=>⟨mo _ (jr.ab p hp).1,mo _ (jr.ab p hp).2.1⟩,?_,?_,zX jr.al (by decide),fun kp H5 s5 rk=>?_⟩
  ·rw[op.length_eq,qQ];omega
  ·rw[pw.length_eq,qQ];omega
  refine⟨_,rfl,_,rfl,jp,kp,jo,jw,J,od,D,ab,rfl,aa.same s5,rk,jk,op,pw,s5 _ _ U,s5 _ _ ae,fun H6 s6=>⟨true,rfl,ifF rfl ?_⟩⟩
  have I:=s5.trans s6;refine⟨_,rfl,_,rfl,_,rfl,b,jp,jo,J,od,D,_,rfl,B4.same I,by rw[M];omega,aa.same I,jk,op,I _ _ U,af,fun H7 S7=>?_⟩
  exact k _ ((SA.trans (uf I)).trans S7)
inductive Ys(K:W.Frag)(g:List V)(H:Hp)(Q:VK):Prop
 | mk (a:Addr) (c:List Int) (_:g=[.ref a]) (_:SqL K H a (c.map V.int)) (_:c.length<=63) (_:∀i,Q (.bl true) i):Ys K g H Q
def spLaw(K:W.Frag):Sp:=fun c H Q _=>Ys K c H Q
theorem zeP:zB ["_law_script","_law_cells"] ["_law_script"] (zv (topL 52)):=u4
theorem zfQ{f:Addr}{fd:FuncData}(F:Fun K "law" "law" (topL 52) f fd)(B:Blt C)(g:Dfn P w K C t "_law_folded" 1 ["_law_script","_law_size"] (zbJ K))(I:Dfn P w K C t "_law_box" 1 ["_law_script","_law_k"] (zeH K))
  (l:Dfn P w K C t "_law_right" 8 ["_law_box_here"] Ym):FnOk P w K C t CX0 9 f fd ["_law_script"] (spLaw K):=by
 have nd:=zeP.nd;refine F.ok zeP (fun vs H Q E h=>?_) (fun aa A U s H vs Q E O h=>?_)
 ·obtain⟨a,ns,rfl,_⟩:=h
  rfl
 ·obtain⟨a,ns,rfl,hS,L,k⟩:=h
  refine⟨_,(zg (zx (i:=1) nd rfl (Or.inr rfl) (zf g O.m rfl (za (pv 0) (za zi zb))))
   (zj (zw (zq (jL rfl) rfl B.all boot_all (za (jg ["_law_cells"] [1] rfl rfl (by kernel_rfl) (qI rfl B.range (za (zq (zbe rfl) rfl B.max zc1 (za zi (za (zq zu rfl B.len boot_len (za (pv 1) zb)) zb))) zb)) (fun _ _ _ _=>qT) (fun _ _ _ _=>(zf l O.m rfl (za (zf I O.m rfl (za (pv 1) (za (pv 0) zb))) zb)))) zb))))),?_⟩
  refine⟨_,rfl,a,ns,6,rfl,hS,L,by decide,by decide,fun p G H1 s1 hp hm=>?_⟩
  have J:=bGe;have hl:(G.map V.int).length<=6:=by rw[zo];exact hm
  refine⟨_,rfl,p,_,rfl,.inl hp,_,_,rfl,_,rfl,(by rw[J];split<;>omega),(by rw[J];split<;>omega),?_⟩
  have hN:(if((G.map V.int).length:Int)>2 then((G.map V.int).length:Int) else 2).toNat<=8:=by split<;>omega
  have a0:=bG100;refine ZX (fun i Y M=>Y=List.replicate i (V.bl true)/\Same H1 M) ⟨rfl,ua _⟩ ?_ ?_
  ·rintro i Y M hi ⟨rfl,N⟩
   rw[yU];refine⟨rfl,?_⟩
   refine⟨_,rfl,_,rfl,p,G,i,rfl,N.seq hp,by omega,fun q o hq Bq=>⟨q,0,rfl,Bq,by decide,fun H3 s3=>⟨?_,?_,fun c u e=>?_⟩⟩⟩
   ·rw[xQ];omega
   ·rw[y9]
   ·exact s3 c u ((ze hq) c u (N c u e)) (zm (N c u e) hq)
  ·rintro Y M ⟨rfl,N⟩
   refine⟨by rw[xQ];omega,fun D hD=>⟨D,List.replicate (if((G.map V.int).length:Int)>2 then((G.map V.int).length:Int) else 2).toNat true,rfl,?_,?_⟩⟩
   ·refine u7 ?_
    rw[zc,List.map_replicate]
   ·have:=k (upd M D (.lst (List.replicate (if((G.map V.int).length:Int)>2 then((G.map V.int).length:Int) else 2).toNat (V.bl true))))
    simpa using this
end
theorem all_mk{l:PySem.W.OpenLaw}{w:World}{K:W.Frag}{h:Heap}{mg:Str->Option Value}{fa:Addr}(X:K.In h)(e:zaU Wn zbj zaw zel K=za5 Wn zbj zaw zel)(G:h.Ns mainGlobals mg)(be:mg "law" = some (.ref fa)) :
  ∃fd:FuncData,(∀(s:Shared) (v:Value),BindsTo s fd ⟨[v],[]⟩ [("_law_script",v)])/\∀ax:Heap,K.In ax->ax.Ns mainGlobals mg->FnOk l.prog w K mg ax CX0 9 fa fd ["_law_script"] (spLaw K):=by
 have Z0:Tp l.prog w K mg h h Wn zbj zaw:=⟨X,G,congrArg Prod.fst e⟩;have B:Blt mg:=⟨Z0.bl 0 rfl,Z0.bl 1 rfl,Z0.bl 2 rfl,Z0.bl 3 rfl,Z0.bl 4 rfl,Z0.bl 5 rfl,Z0.bl 6 rfl,Z0.bl 7 rfl,Z0.bl 8 rfl,Z0.bl 9 rfl,Z0.bl 10 rfl,Z0.bl 11 rfl,Z0.bl 12 rfl,Z0.bl 13 rfl,Z0.bl 14 rfl,Z0.bl 15 rfl,Z0.bl 16 rfl,Z0.bl 17 rfl,Z0.bl 18 rfl,Z0.bl 19 rfl,Z0.bl 20 rfl⟩;obtain⟨f,fd,a,F⟩:=Z0.fd 41 rfl;cases be.symm.trans (Qk X G a);refine⟨fd,?_,fun ax _ _=>?_⟩
 ·obtain⟨_,_,_,_,_,_,_,_,_,rfl,_,_⟩:=F.ex
  exact fun s v=>.of_eq rfl
 have Z:Tp l.prog w K mg ax h Wn zbj zaw:=⟨X,G,congrArg Prod.fst e⟩;obtain⟨_,bd⟩:=cnS X G e 0 rfl;obtain⟨_,O⟩:=cnI X G e 1 rfl;obtain⟨_,ay⟩:=cnI X G e 2 rfl;obtain⟨_,ak⟩:=cnI X G e 3 rfl;obtain⟨_,Q⟩:=cnI X G e 4 rfl;obtain⟨_,L⟩:=cnI X G e 5 rfl;obtain⟨_,al⟩:=cnI X G e 6 rfl;obtain⟨_,ab⟩:=cnI X G e 7 rfl;have an:=Z.dfn 13 rfl fun _ _ F _ _=>zcl F B
 have E:=Z.dfn 14 rfl fun _ _ F _ _=>zdV F B
 have D:=Z.dfn 15 rfl fun _ _ F _ _=>zco F B
 have aj:=Z.dfn 16 rfl fun _ _ F _ _=>zdW F B
 have bc:=Z.dfn 17 rfl fun _ _ F _ _=>zaQ F B aj
 have H:=Z.dfn 18 rfl fun _ _ F _ _=>zaP F B an E D bc
 have ar:=Z.dfn 0 rfl fun _ _ F _ _=>zfS F B
 have c:=Z.dfn 1 rfl fun _ _ F _ _=>zfM F B ar
 have az:=Z.dfn 2 rfl fun _ _ F _ _=>zg3 F B bd O
 have A:=Z.dfn 3 rfl fun _ _ F _ _=>zfO F B c ay
 have i:=Z.dfn 4 rfl fun _ _ F _ _=>zg1 F B
 have o:=Z.dfn 5 rfl fun _ _ F _ _=>zgZ F B
 have aq:=Z.dfn 6 rfl fun _ _ F _ _=>zg4 F B i az A c L
 have U:=Z.dfn 7 rfl fun _ _ F _ _=>zfU F B o aq Q
 have b0:=Z.dfn 8 rfl fun _ _ F _ _=>zg2 F B i A
 have ao:=Z.dfn 9 rfl fun _ _ F _ _=>zfN F B o b0 al
 have av:=Z.dfn 10 rfl fun _ _ F _ _=>zg6 F B i c
 have ac:=Z.dfn 11 rfl fun _ _ F _ _=>zfX F B o av ab
 have am:=Z.dfn 12 rfl fun _ _ F _ _=>zfT F B i A c U ao ac H ak
 have N:=Z.dfn 19 rfl fun _ _ F _ _=>zfY F B D
 have M:=Z.dfn 20 rfl fun _ _ F _ _=>zct F B an E N
 have ap:=Z.dfn 21 rfl fun _ _ F _ _=>zaS F B E N
 have Y:=Z.dfn 22 rfl fun _ _ F _ _=>zfV F B
 have J:=Z.dfn 23 rfl fun _ _ F _ _=>zdS F B
 have ae:=Z.dfn 24 rfl fun _ _ F _ _=>zcn F B J
 have ba:=Z.dfn 25 rfl fun _ _ F _ _=>zfW F B
 have g:=Z.dfn 26 rfl fun _ _ F _ _=>zdT F B
 have ag:=Z.dfn 27 rfl fun _ _ F _ _=>zdX F B
 have aa:=Z.dfn 28 rfl fun _ _ F _ _=>zcp F B
 have aw:=Z.dfn 29 rfl fun _ _ F _ _=>zfP F B g aa
 have as:=Z.dfn 30 rfl fun _ _ F _ _=>zcs F B aw
 have u:=Z.dfn 31 rfl fun _ _ F _ _=>zcr F B g
 have ah:=Z.dfn 32 rfl fun _ _ F _ _=>zaR F B u
 have t:=Z.dfn 33 rfl fun _ _ F _ _=>zdU F B g
 have a0:=Z.dfn 34 rfl fun _ _ F _ _=>zdY F B g t u
 have af:=Z.dfn 35 rfl fun _ _ F _ _=>zaT F B g t
 have bb:=Z.dfn 36 rfl fun _ _ F _ _=>zfR F B g as u ah a0 af
 have ai:=Z.dfn 37 rfl fun _ _ F _ _=>zcm F B
 have C:=Z.dfn 38 rfl fun _ _ F _ _=>zg0 F B am J ae Y M ap H
 have I:=Z.dfn 39 rfl fun _ _ F _ _=>zg5 F B M g H am
 have au:=Z.dfn 40 rfl fun _ _ F _ _=>zcq F B g bb t C ai I
 exact zfQ F B ag ba au
end L2
open PySem PySem.W PyProof.Rows
set_option maxRecDepth 100000 in
set_option maxHeartbeats 0 in
theorem PySem.Challenge.cw_pickboard_k08_whole_parts_numbered_other_holds : PySem.Challenge.rw_pickboard_k08_whole_parts_numbered_other.Holds := by
 refine L2.ownHead (d:=L2.defRec "law" (L2.topL 52)) 9999 L2.head1 L2.head2 (by kernel_rfl) (by kernel_rfl) (by kernel_rfl) L2.head3 ⟨rfl,rfl,rfl,rfl,rfl,by decide +kernel⟩ (by w_witness2) ?_
 exact L2.walkS (n:=63) (k:=9) (x:= "_law_script") (sp:=L2.spLaw) rfl (by decide) (by kernel_rfl) ⟨rfl,by decide,by decide,rfl⟩ (fun _ _ _ _ _ X e G m=>L2.all_mk X e G m) fun _ _ a ns hl _ hS=>⟨a,ns,rfl,hS,hl,fun _=>rfl⟩
