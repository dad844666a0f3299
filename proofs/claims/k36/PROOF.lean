import PyProof.Rows.All
import Wide.All
import OpenK.AllK
import Wide.FinOn
import Lean
import PyProof.EqAt
import PyProof.EqKinds
import PyProof.TupleCall
import PyProof.NeKinds
import PyProof.ReprRoads
import PyProof.ReprBulk
import PyProof.SumWalk
import PyProof.FString5
import PyProof.StrBlock2
import PyProof.StrBlockI
import PyProof.StrBlockH
import PyProof.StrWalks
import PyProof.StrLawsIn
import PyProof.AutoListH
import PyProof.CompUse
import PyProof.ListRange
import PyProof.CallFns
import PyProof.ListTruth
import PyProof.Rows.Range3
import PyProof.SeqI3
import KE.KRevSl
import PyProof.DictIter
import PyProof.DictWalks
import PyProof.DictCompW
import PyProof.Cells
import OpenK.KOwn
import PyProof.ExcClass3
import PyProof.ExcInit
import PyProof.ExcBaseAll.ValueError
import PyProof.ExcArgsOwn
import PyProof.ExcAttrAll.ValueError
import PyProof.Rows.SortWalk
import PyProof.Rows.SortStr
import PyProof.MeetsDict
import PyProof.DictUpdate
import PyProof.FactsAll.dict_3
import KE.KDictList
import PyProof.FactsAll.dict_4
import KE.KDictSum
import PyProof.IsiH_list
import PyProof.Rows.Exc
import KE.KDictOf
import PyProof.SetKind
import PyProof.Rows.SetFrom
import PyProof.FactsAll.set_1
import PyProof.FactsAll.set_2
import KE.KSortTup
import KE.KItemsList
import PyProof.Rows.SortRev
import PyProof.Rows.StrCase
import PyProof.Rows.StrLen
import KE.KPairComp
import KE.KMinKey
import PyProof.CallStr
import PyProof.StrCalls2
import PyProof.StrLawsTight
import PyProof.FString
import PyProof.StrBlock
import PyProof.Conv_int
import KE.KUnpack
import PyProof.Rows.TupMore
import PyProof.DictItems
import PySem.Challenge.RW_pickboard_k36_jobs_placed
set_option Elab.async false
set_option linter.all false
set_option maxRecDepth 100000
def zf:=@PySem.wpAny_bind
def zv:=@List.length_map
def zN:=@PySem.Heap.get?_push_of_some
def zU:=@List.getElem?_eq_some_iff
def zx:=@PySem.wpAny_pure
def qg:=@List.getElem?_eq_getElem
def zW:=@List.mem_singleton
def zD:=@Nat.le_refl
def qI:=@List.getD_eq_getElem?_getD
def zY:=@List.getElem?_map
def zL:=@PySem.Heap.get?_push_size
def zC:=@List.mem_cons
def zk:=@if_neg
def zH:=@PySem.Heap.lt_size
def zQ:=@List.map_append
def z9:=@List.mem_cons_of_mem
def zV:=@List.length_range
def zu:=@if_pos
def zZ:=@List.size_toArray
def qw:=@List.mem_of_getElem?
def zP:=@Nat.ne_of_lt
def zT:=@decide_eq_true
def qH:=@Option.map_eq_some_iff
def qG:=@List.mem_append_right
def qz:=@List.length_append
def qK:=@Array.length_toList
def qt:=@List.mem_range
def zG:=@Ne.symm
def qU:=@Bool.false_ne_true
def qr:=@List.mem_map
def qJ:=@PySem.Heap.size_push
def xh:=@Array.getElem?_eq_getElem
def jw:=@Bool.false_eq_true
def jz:=@Nat.lt_of_lt_of_le
def qT:=@Option.some.inj
def jg:=@List.lookup_cons
def jy:=@of_decide_eq_true
def jK:=@List.mem_cons_self
def jb:=@decide_eq_false
def ja:=@List.mem_append
def jv:=@List.length_take
def qB:=@Nat.zero_le
def ju:=@PySem.PassesOwn.never
def jJ:=@List.length_cons
def jI:=@Bool.and_eq_true
def vm:=@Array.getD_eq_getD_getElem?
def jY:=@PySem.wpAny_newObj_type
def vh:=@List.getElem?_append_right
def xF:=@List.length_replicate
def xE:=@PySem.Heap.get?_update_self
def jX:=@List.take_length
def x6:=@PySem.Heap.get?_update_other
def jD:=@PySem.wpAny_holding
def jO:=@PySem.wpAny_seqItems
def xt:=@Nat.lt_succ_of_lt
def xg:=@Nat.lt_succ_self
def wv:=@List.getElem?_append_left
def jH:=@Nat.ne_of_gt
def xB:=@List.getElem_mem
def vg:=@List.mem_append_left
def jW:=@Nat.lt_irrefl
def jV:=@List.map_cons
def jt:=@PySem.wpAny_mono
def xD:=@PySem.wpAny_call_entry
def jG:=@PySem.wpAny_field
def xA:=@List.nodup_cons
def wS:=@PySem.F.plainAttrs_list
def vI:=@PySem.mem_of_lookup
def vH:=@List.getElem?_range
def xa:=@Nat.le_trans
def j9:=@List.map_map
def x5:=@List.not_mem_nil
def wR:=@Array.getElem?_toList
def wQ:=@PySem.Around.under_plainId
def xZ:=@Nat.not_lt_zero
def vG:=@Int.toNat_natCast
def wu:=@PySem.wpAny_setField_rec
def y9:=@PySem.wpAny_callSpecial?_slot
def vF:=@List.all_eq_true
def vE:=@PySem.F.plain_min_loop
def ZX:=@List.take_append_getElem
def ZW:=@PySem.F.slot_list_append
def ZV:=@PySem.F.type_list_append
def vD:=@List.range_succ
def yC:=@PySem.Heap.SameBut.update
def wP:=@PySem.wpAny_setState_of
def wO:=@List.pairwise_map
def xp:=@beq_iff_eq
def yB:=@Int.emod_lt_of_pos
def Xk:=@PyProof.Rows.callWith_type1
def xU:=@Sum.inl.inj
def yA:=@PySem.wpAny_truthy_bool
def xT:=@Int.le_refl
def y8:=@decide_eq_true_iff
def yz:=@PySem.wpAny_isInstance
def xS:=@PySem.wpAny_rule
def y6:=@List.nodup_append
def yy:=@List.mem_filter
def yw:=@Int.emod_nonneg
def QQ:=@List.replicate_succ'
def xX:=@List.any_cons
def xJ:=@Nat.le_of_eq
def Zz:=@PySem.wpAny_nextOf_list_item
def xC:=@PySem.wpAny_letGo
def vq:=@List.nodup_nil
def vU:=@Bool.eq_iff_iff
def yK:=@Nat.lt_of_le_of_lt
def vT:=@PySem.wpAny_tryCatch
def QE:=@PySem.F.slot_dict_items
def yJ:=@Nat.le_of_lt_succ
def wH:=@PySem.F.slot_zip_next
def wG:=@PySem.wpAny_updateSeq
def Zy:=@List.length_pos_iff
def Zx:=@List.map_congr_left
def vp:=@Nat.le_of_lt
def QD:=@List.getElem?_set_self
def QC:=@PySem.Calls.callWith_builtin
def vo:=@Int.le_trans
def Zw:=@PySem.Calls.spliced_cons
def QB:=@PySem.F.slot_dict_get
def vn:=@Nat.le_succ
def QA:=@List.getElem?_set_ne
def yI:=@List.length_set
def yH:=@List.forIn_cons
def XE:=@List.length_erase_of_mem
def wF:=@PySem.wpAny_standAt
def XD:=@PySem.F.plainAttrs_dict
def Qz:=@List.getElem_of_mem
def Zv:=@List.length_drop
def yG:=@PySem.wpAny_setField
def Zu:=@List.ext_getElem
def Zt:=@List.nodup_range
def XC:=@Array.getElem?_eq_none
def XB:=@Nat.div_div_eq_div_mul
def XA:=@List.length_pos_of_mem
def Qy:=@List.pairwise_cons
def zbi:=@PyProof.Rows.F.plain_set_update_loop
def Zs:=@PySem.wpAny_passesOwn
def Zr:=@List.length_nil
def Zq:=@Option.map_some
def Zp:=@List.find?_cons
def Xz:=@List.mem_iff_getElem?
def yF:=@PySem.wpAny_attempt
def WS:=@PySem.F.slot_tuple_iterator_next
def yE:=@PySem.wpAny_onRaise
def WR:=@Array.getElem?_eq_some_iff
def Xy:=@List.mem_erase_of_ne
def Zo:=@List.forIn_nil
def Qw:=@List.getElem_inj
def Qv:=@List.any_eq_true
def WQ:=@PySem.F.slot_list_getattribute
def Qu:=@decide_eq_decide
def Qt:=@PySem.F.entry_min_loop
def Xx:=@Nat.add_le_add_left
def zbh:=@PyProof.Rows.slot_tuple_getitem
def WP:=@PySem.F.type_dict_items
def Qs:=@List.append_nil
def Xw:=@List.getElem?_drop
def Qr:=@List.nil_append
def wE:=@Nat.mod_lt
def yD:=@PySem.wpAny_of_eq
def WO:=@List.take_of_length_le
def WN:=@PySem.F.entry_dict_get
def Xv:=@PySem.Calls.spliced_nil
def Xu:=@Array.toList_push
def Zn:=@PySem.wpAny_typeOf
def Qq:=@PySem.Value.type.inj
def Zm:=@Nat.lt_trans
def Zl:=@Nat.sub_self
def Zk:=@Nat.succ_pos
def WM:=@List.length_filter_le
def WL:=@PySem.Calls.evalArgs_plain
def Xt:=@PySem.Heap.IsList.push
def Xr:=@List.filter_cons
def Xq:=@Bool.not_eq_true
def Xp:=@List.countP_cons
def Xo:=@List.getElem_map
def Qp:=@Bool.not_true
def WK:=@List.filterMap_cons
def zbg:=@List.pairwise_iff_getElem
def zbf:=@PySem.Calls.call_function_entry
def zbe:=@Classical.byContradiction
def zbd:=@List.getLast?_eq_getElem?
def zbc:=@Option.isSome_iff_exists
def zf9:=@PyProof.Rows.F.entry_set_update_loop
def WJ:=@List.getElem_range
def Qo:=@Nat.lt_or_ge
def WI:=@Array.forIn_toList
def WH:=@List.filter_append
def Zj:=@PySem.Walks.list
def zbb:=@PySem.F.slot_list_count
def WG:=@PySem.F.args_zip_next_1
def WF:=@Option.some.injEq
def WE:=@List.reverse_cons
def WD:=@List.append_assoc
def Qn:=@PySem.wpAny_throw
def zba:=@List.pairwise_lt_range
def za9:=@PySem.SetTable.insertAt_perm
def Xn:=@PySem.Paired.length
def WC:=@PySem.F.entry_zip_next
def WB:=@List.zipIdx_cons
def za8:=@List.length_singleton
def WA:=@Bool.or_eq_true
def za7:=@List.mem_iff_getElem
def Wz:=@List.zipIdx_nil
def Wy:=@List.sum_append
def Qm:=@Nat.not_lt
def Xm:=@Nat.zero_add
def Xl:=@Int.le_of_eq
def za6:=@List.mem_of_mem_take
def za5:=@Nat.pow_le_pow_right
def za4:=@List.count_le_length
def zf8:=@List.count_eq_zero_of_not_mem
def za3:=@List.toList_toArray
def za2:=@List.map_eq_nil_iff
def Wx:=@Bool.and_false
def zf7:=@PySem.F.args_tuple_iterator_next_1
def zf6:=@PySem.F.slot_dict_setdefault
def za1:=@List.mem_filterMap
def zf5:=@PySem.F.entry_tuple_iterator_next
def za0:=@PySem.Obj.data_mapFields
def zaZ:=@Option.toList_some
def zaY:=@List.map_replicate
def zaX:=@List.ne_nil_of_mem
def zaW:=@Int.natCast_nonneg
def zf4:=@PySem.Calls.Name_function_global
def zf3:=@Int.fdiv_eq_ediv_of_nonneg
def zf2:=@Int.fmod_eq_emod_of_nonneg
def Ww:=@Bool.false_or
def Wv:=@List.sum_cons
def Wu:=@PySem.W.mg_of
def zf1:=@Array.perm_iff_toList_perm
def zf0:=@List.perm_append_singleton
def zaV:=@List.take_sublist
def zaU:=@Option.isSome_map
def zaT:=@PySem.Heap.SameBut.refl
def zaS:=@List.take_add_one
def zaR:=@List.count_append
def zfZ:=@List.getElem?_zip_eq_some
def zfY:=@List.drop_eq_getElem_cons
def zfX:=@List.mem_drop_iff_getElem
def zfW:=@List.mem_take_iff_getElem
def zfV:=@PySem.F.plain_extend_loop
def zfU:=@PySem.F.args_dict_items_1
def zfT:=@List.mem_of_find?_eq_some
def zfS:=@Option.isNone_iff_eq_none
def zaQ:=@List.of_mem_zip
def zaP:=@Nat.two_pow_pos
def Wt:=@Sum.inr.inj
def zaO:=@Bool.not_false
set_option hygiene false
local macro_rules|`(0#a)=>`((Or.inl rfl))
local macro_rules|`(0#b)=>`((model X.prog X.w))
local macro_rules|`(0#c)=>`((fun _ _=>rfl))
local macro_rules|`(0#d)=>`((fun vs H Q E h=>?_))
local macro_rules|`(0#e)=>`((model c w))
local macro_rules|`(0#f)=>`((qm X (own++fr) scope C { s2 with heap:=h3,toks:=s2.toks } H2 (D::U)))
local macro_rules|`(0#g)=>`((k==NameKind.free&&c.scope.kind==.function&&c.kindOf n==some .cell))
local macro_rules|`(0#h)=>`((qh X ([x]++fr) scope x C { s2 with heap:=h3 } H2 (D::fp)))
local macro_rules|`(0#i)=>`((qh X (ow++fr) scope x C { s2 with heap:=h3 } H2 (D::Y)))
local macro_rules|`(0#j)=>`((fun q=>hc (by simp[q])))
local macro_rules|`(0#k)=>`((fun _ _ _ _=>qE))
local macro_rules|`(0#l)=>`((Addr×Obj))
local macro_rules|`(0#m)=>`((Or.inr rfl))
local macro_rules|`(0#n)=>`((Int×List Nat))
local macro_rules|`(0#o)=>`((Int×Int))
local macro_rules|`(0#p)=>`((za (pv 0) (za zj zb)))
local macro_rules|`(0#q)=>`((qv I q (by simp)))
local macro_rules|`(0#r)=>`((fun _ _=>False))
local macro_rules|`(0#s)=>`((za (pv 1) zb))
local macro_rules|`(0#t)=>`((za (pv 0) zb))
local macro_rules|`(0#u)=>`((st.1.set b (tot st.1 (f x)+c x b-c x (f x),way st.1 (f x)++[b])))
local macro_rules|`(0#v)=>`((@pv _ 1 _ _ (by rfl) (by first| exact Or.inl rfl | exact Or.inr 0#a | exact Or.inr 0#m) (by decide) (by decide)))
local macro_rules|`(0#w)=>`((@pv _ 0 _ _ (by rfl) (by first| exact Or.inl rfl | exact Or.inr 0#a | exact Or.inr 0#m) (by decide) (by decide)))
local macro_rules|`(0#x)=>`((@pv _ 5 _ _ (by rfl) (by first| exact Or.inl rfl | exact Or.inr 0#a | exact Or.inr 0#m) (by decide) (by decide)))
local macro_rules|`(0#y)=>`((@pv _ 3 _ _ (by rfl) (by first| exact Or.inl rfl | exact Or.inr 0#a | exact Or.inr 0#m) (by decide) (by decide)))
local macro_rules|`(0#z)=>`((@pv _ 2 _ _ (by rfl) (by first| exact Or.inl rfl | exact Or.inr 0#a | exact Or.inr 0#m) (by decide) (by decide)))
local macro_rules|`(0#A)=>`((@zK _ _ _ _ _ _ _ _ qx (@pv _ 7 _ _ (by rfl) (by first| exact Or.inl rfl | exact Or.inr 0#a | exact Or.inr 0#m) (by decide) (by decide)) (@pv _ 8 _ _ (by rfl) (by first| exact Or.inl rfl | exact Or.inr 0#a | exact Or.inr 0#m) (by decide) (by decide))))
local macro_rules|`(tactic|fail"a")=>`(tactic|(obtain⟨a,rfl,t⟩:=vz c;obtain⟨b,rfl,hb⟩:=vz g;refine⟨_,(zp (zA (zw (Qj rfl) rfl B.max Xg (za (zw wn rfl B.abs wo (za (zK vd (zS qF (pv 0) zj 0#c) (zS qF (pv 1) zj 0#c)) zb)) (za (zw wn rfl B.abs wo (za (zK vd (zS qF (pv 0) zj 0#c) (zS qF (pv 1) zj 0#c)) zb)) zb))))),?_⟩))
namespace L2
open PySem PySem.Spec PyProof.Rows
theorem bG1000000:1000000<sizeLine:=by rw[sizeLine_eq];decide
theorem bG100000:100000<sizeLine:=by rw[sizeLine_eq];decide
theorem bG100:100<sizeLine:=by rw[sizeLine_eq];decide
theorem bGe:(2:Int)^62=4611686018427387904:=by decide
abbrev Key:=Sum Int Str
def J5:Key->Value->Bool
 | .inl k,v=>Value.isInt k v
 | .inr x,v=>Value.isStrOf x v
def zlh(w:World):Key->Int
 | .inl k=>hashInt k
 | .inr x=>hashStr w x
theorem qS:∀{k:Key} {v:Value},J5 k v=true->(∃i t,k=Sum.inl i/\v=Value.int i t)\/(∃x t,k=Sum.inr x/\v=Value.str x t)
 | .inl i,v,h=>by
  obtain⟨t,e⟩:=Value.isInt_shape (k:=i) (v:=v) h;exact .inl ⟨i,t,rfl,e⟩
 | .inr x,v,h=>by
  obtain⟨t,e⟩:=Value.isStrOf_shape (x:=x) (v:=v) h;exact .inr ⟨x,t,rfl,e⟩
theorem zdE(i:Int)(t:Tok):J5 (.inl i) (.int i t)=true:=by simp[J5,Value.isInt]
theorem zdD(x:Str)(t:Tok):J5 (.inr x) (.str x t)=true:=by simp[J5,Value.isStrOf]
theorem zjm(a b:Int):decide ((Sum.inl a:Key)=Sum.inl b)=(a==b):=by
 by_cases e:a=b
 ·subst e;simp
 ·have h:¬(Sum.inl a:Key)=Sum.inl b:=fun q=>e (xU q)
  rw[jb h];exact(beq_eq_false_iff_ne.mpr e).symm
theorem zjj(a b:Str):decide ((Sum.inr a:Key)=Sum.inr b)=decide (a=b):=by
 by_cases e:a=b
 ·subst e;simp
 ·have h:¬(Sum.inr a:Key)=Sum.inr b:=fun q=>e (Wt q)
  rw[jb h,jb e]
theorem zjl(a:Int)(b:Str):decide ((Sum.inl a:Key)=Sum.inr b)=false:=jb (fun q=>nomatch q)
theorem zjk(a:Str)(b:Int):decide ((Sum.inr a:Key)=Sum.inl b)=false:=jb (fun q=>nomatch q)
def zM(c:Program)(w:World):PySem.KeyKind c w Key where
 is:=J5
 hash:=zlh w
 inj:=fun v a b g hb=>by
  rcases qS g with ⟨i,t,rfl,rfl⟩ | ⟨x,t,rfl,rfl⟩
  ·rcases qS hb with ⟨j,u,rfl,e⟩ | ⟨y,u,rfl,e⟩
   ·injection e with e1 _;rw[e1]
   ·exact nomatch e
  ·rcases qS hb with ⟨j,u,rfl,e⟩ | ⟨y,u,rfl,e⟩
   ·exact nomatch e
   ·injection e with e1 _;rw[e1]
 byValue:=fun k v h=>by
  rcases qS h with ⟨i,t,rfl,rfl⟩ | ⟨x,t,rfl,rfl⟩<;>rfl
 pyHash:=fun hv h=>by
  rcases qS hv with ⟨i,t,rfl,rfl⟩ | ⟨x,t,rfl,rfl⟩
  ·exact wpAny_pyHash_int h
  ·exact wpAny_pyHash_str h
 eqBool:=fun hu hv h=>by
  rcases qS hu with ⟨i,t,rfl,rfl⟩ | ⟨x,t,rfl,rfl⟩
  ·rcases qS hv with ⟨j,u,rfl,rfl⟩ | ⟨y,u,rfl,rfl⟩
   ·rw[zjm] at h;exact wpAny_eqBool_int h
   ·rw[zjl] at h;exact SeqAt.EqAt.int_str i t y u _ _ _ _ h
  ·rcases qS hv with ⟨j,u,rfl,rfl⟩ | ⟨y,u,rfl,rfl⟩
   ·rw[zjk] at h;exact SeqAt.EqAt.str_int x t j u _ _ _ _ h
   ·rw[zjj] at h;exact wpAny_eqBool_str h
 «strs»:=fun k x t v h=>by
  rcases qS h with ⟨i,u,rfl,e⟩ | ⟨y,u,rfl,e⟩
  ·exact nomatch e
  ·injection e with e1 _
   subst e1;cases v<;>rfl
theorem zaA(c:Program)(w:World)(k:Key)(v:Value):(zM c w).is k v=J5 k v:=rfl
theorem YF(c:Program)(w:World)(i:Int)(t:Tok):(zM c w).is (.inl i) (.int i t)=true:=zdE i t
theorem YE(c:Program)(w:World)(x:Str)(t:Tok):(zM c w).is (.inr x) (.str x t)=true:=zdD x t
inductive V where
 | non | bl (b:Bool) | int (i:Int) | str (x:Str) | byt (b:Array UInt8) | flt (b:UInt64) | ref (a:Addr) | ty (n:String)
 deriving DecidableEq
def RelV:V->Value->Prop
 | .non,u=>u=Value.none
 | .bl b,u=>u=Value.bool b
 | .int i,u=>∃t,u=Value.int i t
 | .str x,u=>∃t,u=Value.str x t
 | .byt b,u=>∃t,u=Value.bytes b t
 | .flt b,u=>∃t,u=Value.float b t
 | .ref a,u=>u=Value.ref a
 | .ty n,u=>u=Value.type n
abbrev Vals:List V->List Value->Prop:=Paired RelV
theorem Vals.length{g:List V}{c:List Value}(r:Vals g c):g.length=c.length:=Xn r
theorem Vals.get:∀{g:List V} {c:List Value} {i:Nat} {x:V},Vals g c->g[i]? =some x->∃u,c[i]? =some u/\RelV x u
 | _,_,_,_,.nil,e=>by simp at e
 | _,_,0,_,.cons r _,e=>by simp at e;subst e;exact⟨_,rfl,r⟩
 | _,_,i+1,x,.cons _ t,e=>by
  obtain⟨u,l,o⟩:=Vals.get (i:=i) (x:=x) t (by simpa using e)
  exact⟨u,by simpa using l,o⟩
theorem Vals.set{x:V}{u:Value}(r:RelV x u):∀{g:List V} {c:List Value} (i:Nat),Vals g c->Vals (g.set i x) (c.set i u)
 | _,_,_,.nil=>.nil
 | _,_,0,.cons _ t=>.cons r t
 | _,_,i+1,.cons q t=>.cons q (Vals.set r i t)
theorem Vals.append:∀{l o:List V} {c g:List Value},Vals l c->Vals o g->Vals (l++o) (c++g)
 | _,_,_,_,.nil,s=>s
 | _,_,_,_,.cons r t,s=>.cons r (Vals.append t s)
theorem Vals.take:∀{g:List V} {c:List Value} (n:Nat),Vals g c->Vals (g.take n) (c.take n)
 | _,_,0,_=>.nil
 | _,_,_+1,.nil=>.nil
 | _,_,n+1,.cons r t=>.cons r (Vals.take n t)
theorem Vals.drop:∀{g:List V} {c:List Value} (n:Nat),Vals g c->Vals (g.drop n) (c.drop n)
 | _,_,0,r=>r
 | _,_,_+1,.nil=>.nil
 | _,_,n+1,.cons _ t=>Vals.drop n t
def RelO:Option V->Option Value->Prop
 | some v,some u=>RelV v u
 | none,none=>True
 | _,_=>False
def KV{κ:Type}:List (κ×V)->List (κ×Value)->Prop:=Paired fun(p:κ×V) (q:κ×Value)=>p.1=q.1/\RelV p.2 q.2
def kV:Key->V
 | .inl i=>.int i
 | .inr x=>.str x
inductive HO where
  | lst (g:List V)
  | tup (g:List V)
  | dK (c:List (Key×V)) | dT (c:List (List Key×V))
  | set (S:Int->Bool) (n:Nat)
  | ins (C l:Addr) (fs:List (Str×V))
  | own (x:Addr)
  | xd (fs:List (Str×V))
  | met (f x:Addr)
  | rng (lo s:Int)
  | frz (o:Obj) (u:HO)
  | tbl (t:Array Value)
  | ext (φ:Heap->Prop)
abbrev Hp:=Addr->Option HO
def upd(H:Hp)(a:Addr)(o:HO):Hp:=fun b=>if b=a then some o else H b
theorem ze{H:Hp}{a:Addr}{o:HO}:upd H a o a=some o:=by unfold upd;rw[zu rfl]
theorem zq{H:Hp}{a b:Addr}{o:HO}(h:b≠a):upd H a o b=H b:=by unfold upd;rw[zk h]
theorem YD{H:Hp}{a b:Addr}{o u:HO}(h:H a=some o)(c:H b=some u)(d:o≠u):a≠b:=by
 intro e;subst e;rw[h] at c;exact d (qT c)
theorem zo{H:Hp}{a b:Addr}{o:HO}(h:H a=some o)(c:H b=none):a≠b:=by
 intro e;subst e;rw[h] at c;cases c
section
variable(P:Program)(w:World)
def TupX(h:Heap)(a:Addr)(c:Array Value):Prop:=IsTup h a c/\∃o,h.get? a=some o/\o.dict=none
theorem TupX.by{h:Heap}{a:Addr}{c:Array Value}{n:Nat}(e:h.get? a=some { cls:=.type "tuple",data:=.seq c n }):TupX h a c:=⟨⟨_,e,rfl,n,rfl⟩,_,e,rfl⟩
def ObjOk(H:Hp)(h:Heap)(a:Addr):HO->Prop
 | .lst l=>l.length<=sizeLine/\∃(c:List Value) (n:Nat),Vals l c/\h.get? a=some { cls:=.type "list",data:=.seq c.toArray n }
 | .tup l=>l.length<=sizeLine/\∃c:List Value,Vals l c/\TupX h a c.toArray
 | .dK g=>g.length<=sizeLine/\(a==sysModules)=false/\∃G,KV g G/\h.DictOf (zM P w) a G
 | .dT g=>g.length<=sizeLine/\(a==sysModules)=false/\∃l:List (List Key×Addr×Value),
   Paired (fun(p:List Key×V) (q:List Key×Addr×Value)=>p.1=q.1/\H q.2.1=some (.tup (p.1.map kV))/\RelV p.2 q.2.2) g l /\
   ∃o B I,h.get? a=some o/\o.ExactDict/\o.data=.dict B I/\B.toList=l.map (entryOfKey (tupleKind (zM P w)))/\(l.map (·.1)).Nodup
 | .set S n=>h.SetOf (intKind P w) a S n
 | .ins C A fs=>H A=some (.own a)/\fs.length<=1000/\A≠a/\h.get? a=some (PySem.W.instObj C A) /\
   ∃s,h.Ns1 A s/\(∀f,RelO (fs.lookup f) (s f))/\PySem.Within s (fs.map (·.1))
 | .own _=>∃o,h.get? a=some o
 | .xd fs=>∃s,h.Ns1 a s/\∀f,RelO (fs.lookup f) (s f)
 | .rng lo J=>∃t u v,h.get? a=some { cls:=.type "range",data:=.fields #[.int lo t,.int J u,.int 1 v] }
 | .frz o u=>h.get? a=some o/\ObjOk H h a u
 | .tbl L=>h.get? a=some { cls:=.none,data:=.fields L }
 | .met f x=>h.get? a=some (PySem.W.methodObj (.ref f) (.ref x))
 | .ext φ=>φ h/\(∃o,h.get? a=some o)/\∀D E:Heap,φ D->(∀o,D.get? a=some o->E.get? a=some o)->φ E
def HOk(H:Hp)(h:Heap):Prop:=∀a o,H a=some o->ObjOk P w H h a o
end
section
variable{P:Program}{w:World}{H g:Hp}{h h':Heap}{a:Addr}{o:HO}
theorem ObjOk.lt(x:ObjOk P w H h a o):a<h.objs.size:=by
 cases o with
 | lst l=>obtain⟨_,_,_,_,e⟩:=x;exact zH e
 | tup l=>obtain⟨_,_,_,p⟩:=x;exact p.1.lt
 | dK c=>obtain⟨_,_,_,_,o,_,_,e,_⟩:=x;exact zH e
 | dT c=>obtain⟨_,_,_,_,o,_,_,e,_⟩:=x;exact zH e
 | set S n=>obtain⟨o,_,_,_,e,_⟩:=x;exact zH e
 | ins C s fs=>obtain⟨_,_,_,e,_⟩:=x;exact zH e
 | own y=>obtain⟨_,e⟩:=x;exact zH e
 | xd fs=>obtain⟨_,⟨_,_,_,e,_⟩,_⟩:=x;exact zH e
 | rng lo t=>obtain⟨_,_,_,e⟩:=x;exact zH e
 | frz A u=>obtain⟨e,_⟩:=x;exact zH e
 | tbl B=>exact zH (show h.get? a=some _ from x)
 | met f y=>exact zH (show h.get? a=some _ from x)
 | ext φ=>obtain⟨_,⟨_,e⟩,_⟩:=x;exact zH e
theorem Paired.mapP{α β:Type}{F G:α->β->Prop}:∀{c:List α} {l:List β},Paired F c l->(∀a b,F a b->G a b)->Paired G c l
 | _,_,.nil,_=>.nil
 | _,_,.cons r t,f=>.cons (f _ _ r) (Paired.mapP t f)
theorem ObjOk.stay(x:ObjOk P w H h a o)(k:∀b u,(b=a\/H b=some (.own a))->h.get? b=some u->h'.get? b=some u)
  (M:∀b,H b=some (.own a)->g b=some (.own a)) (N:∀b D,H b=some (.tup D)->g b=some (.tup D)):ObjOk P w g h' a o:=by
 induction o with
 | lst D=>obtain⟨z,B,n,r,e⟩:=x;exact⟨z,B,n,r,k _ _ (.inl rfl) e⟩
 | tup D=>obtain⟨z,B,r,⟨l,e,c⟩,Q,e2,L⟩:=x;exact⟨z,B,r,⟨l,k _ _ (.inl rfl) e,c⟩,Q,k _ _ (.inl rfl) e2,L⟩
 | dK E=>obtain⟨z,y,T,r,l,A,s,e,c⟩:=x;exact⟨z,y,T,r,l,A,s,k _ _ (.inl rfl) e,c⟩
 | dT E=>
  obtain⟨z,y,D,r,l,A,s,e,c⟩:=x;exact⟨z,y,D,Paired.mapP r fun p q z=>⟨z.1,N _ _ z.2.1,z.2.2⟩,l,A,s,k _ _ (.inl rfl) e,c⟩
 | set S n=>obtain⟨l,A,s,t,e,c⟩:=x;exact⟨l,A,s,t,k _ _ (.inl rfl) e,c⟩
 | ins C U fs=>
  obtain⟨d,z,ne,e,G,⟨I,A,s,e2,c⟩,r⟩:=x;exact⟨M _ d,z,ne,k _ _ (.inl rfl) e,G,⟨I,A,s,k _ _ (.inr d) e2,c⟩,r⟩
 | own y=>obtain⟨l,e⟩:=x;exact⟨l,k _ _ (.inl rfl) e⟩
 | xd fs=>obtain⟨G,⟨I,A,s,e,c⟩,r⟩:=x;exact⟨G,⟨I,A,s,k _ _ (.inl rfl) e,c⟩,r⟩
 | rng lo Y=>obtain⟨t,u,v,e⟩:=x;exact⟨t,u,v,k _ _ (.inl rfl) e⟩
 | frz l u O=>obtain⟨e,q⟩:=x;exact⟨k _ _ (.inl rfl) e,O q⟩
 | tbl J=>
  have e:h.get? a=some { cls:=.none,data:=.fields J }:=x;show h'.get? a=some { cls:=.none,data:=.fields J };exact k a _ (.inl rfl) e
 | met f y=>
  have e:h.get? a=some (PySem.W.methodObj (.ref f) (.ref y)):=x;show h'.get? a=some (PySem.W.methodObj (.ref f) (.ref y));exact k a _ (.inl rfl) e
 | ext φ=>obtain⟨p,⟨o,e⟩,st⟩:=x;exact⟨st _ _ p fun o q=>k _ _ (.inl rfl) q,⟨o,k _ _ (.inl rfl) e⟩,st⟩
theorem HOk.lt(x:HOk P w H h)(e:H a=some o):a<h.objs.size:=(x a o e).lt
theorem HOk.fresh(x:HOk P w H h)(e:h.objs.size<=a):H a=none:=by
 cases q:H a with
 | none=>rfl
 | some u=>exact absurd (jz (x.lt q) e) (jW _)
theorem HOk.kept(x:HOk P w H h)(k:∀b u,h.get? b=some u->h'.get? b=some u):HOk P w H h':=fun a o e=>
 (x a o e).stay (fun b u _ q=>k b u q) (fun _ q=>q) fun _ _ q=>q
theorem HOk.laid(x:HOk P w H h)(k:∀b u,h.get? b=some u->h'.get? b=some u)(t:h.objs.size<=a)(l:ObjOk P w (upd H a o) h' a o):HOk P w (upd H a o) h':=fun b u e=>by
 have s:=x.fresh t;by_cases hb:b=a
 ·subst hb;rw[ze] at e;cases e;exact l
 ·rw[zq hb] at e
  exact(x b u e).stay (fun c v _ q=>k c v q) (fun c q=>by rw[zq (zo q s)];exact q) fun c A q=>by rw[zq (zo q s)];exact q
end
def Rd(H:Hp)(a:Addr)(u:HO):Prop:=H a=some u\/∃o,H a=some (.frz o u)
theorem Rd.ok{P:Program}{w:World}{H:Hp}{h:Heap}{a:Addr}{u:HO}(r:Rd H a u)(x:HOk P w H h):ObjOk P w H h a u:=by
 rcases r with r | ⟨o,r⟩
 ·exact x a u r
 ·obtain⟨_,q⟩:=x a _ r
  exact q
def Mut:Option HO->Prop
 | some (.lst _)=>True
 | some (.dK _)=>True
 | some (.dT _)=>True
 | some (.set _ _)=>True
 | some (.ins _ _ _)=>True
 | some (.ext _)=>True
 | _=>False
section
variable{P:Program}{w:World}{H:Hp}{h h':Heap}{x e:Addr}{g:HO}
theorem HOk.write(ok:HOk P w H h)(t:Mut (H x))(E:e=x\/H e=some (.own x))(k:∀b u,b≠e->h.get? b=some u->h'.get? b=some u)(B:∃u,h'.get? e=some u)
  (D:ObjOk P w (upd H x g) h' x g):HOk P w (upd H x g) h':=fun b u q=>by
 have o:∀c y,H c=some (.own y)->c≠x:=fun c y r z=>by subst z;rw[r] at t;exact t
 have s:∀c A,H c=some (.tup A)->c≠x:=fun c A r z=>by subst z;rw[r] at t;exact t
 by_cases hb:b=x
 ·subst hb;rw[ze] at q;cases q;exact D
 ·rw[zq hb] at q
  by_cases l:b=e
  ·have G:H b=some (.own x):=by
    rcases E with z | z
    ·exact absurd (l.trans z) hb
    ·rw[l];exact z
   rw[q] at G;cases G
   obtain⟨v,hv⟩:=B;exact⟨v,by rw[l];exact hv⟩
  ·refine(ok b u q).stay (fun c v hc r=>k c v ?_ r) (fun c r=>by rw[zq (o c b r)];exact r) fun c A r=>by rw[zq (s c A r)];exact r
   rcases hc with rfl | hc
   ·exact l
   ·rintro rfl
    rcases E with z | z
    ·exact o c b hc z
    ·rw[hc] at z;cases z;exact hb rfl
end
structure Un(fs ex:List Addr)(H H':Hp)(h h':Heap):Prop where
 keep:∀b o,h.get? b=some o->H b=none->b∉fs->b∉ex->h'.get? b=some o
 slot:∀b o,h.get? b=some o->H b=none->b∈fs->b∉ex->∃sl,h'.get? b=some { o with slots:=sl }
 free:∀b o,h.get? b=some o->H b=none->b∉ex->H' b=none
 there:∀b o,h.get? b=some o->b∉ex->∃o',h'.get? b=some o'
 tups:∀b xs,H b=some (.tup xs)->H' b=some (.tup xs)
 frzs:∀b o u,H b=some (.frz o u)->H' b=some (.frz o u)
 tbls:∀b ps,H b=some (.tbl ps)->∃more,H' b=some (.tbl (ps++more))
section
variable{fs t c s:List Addr}{H l w:Hp}{h g A h':Heap}{a x e:Addr}{o:HO}
theorem Un.any(u:Un fs c H l h g){b:Addr}{B:Obj}(q:h.get? b=some B)(n:H b=none)(hx:b∉c):∃D,g.get? b=some { B with slots:=D }:=by
 by_cases hb:b∈fs
 ·exact u.slot b B q n hb hx
 ·exact⟨B.slots,u.keep b B q n hb hx⟩
theorem Un.kept(k:∀b u,h.get? b=some u->h'.get? b=some u):Un fs c H H h h':=
 ⟨fun b B q _ _ _=>k b B q,fun b B q _ _ _=>⟨B.slots,k b B q⟩,fun _ _ _ n _=>n,fun b B q _=>⟨B,k b B q⟩,fun _ _ q=>q,fun _ _ _ q=>q,fun _ D q=>⟨#[],by rw[q];simp⟩⟩
theorem Un.refl:Un fs c H H h h:=Un.kept fun _ _ q=>q
theorem Un.laid(k:∀b u,h.get? b=some u->h'.get? b=some u)(D:h.objs.size<=a)(B:H a=none):Un fs c H (upd H a o) h h' where
 keep:=fun b u q _ _ _=>k b u q
 slot:=fun b u q _ _ _=>⟨u.slots,k b u q⟩
 free:=fun b u q n _=>by rw[zq (zP (jz (zH q) D))];exact n
 there:=fun b u q _=>⟨u,k b u q⟩
 tups:=fun b E q=>by rw[zq (zo q B)];exact q
 frzs:=fun b u E q=>by rw[zq (zo q B)];exact q
 tbls:=fun b G q=>⟨#[],by rw[zq (zo q B),q];simp⟩
theorem Un.write(D:Mut (H x))(I:e=x\/H e=some (.own x))(k:∀b u,b≠e->h.get? b=some u->h'.get? b=some u)(E:∃u,h'.get? e=some u):Un fs c H (upd H x o) h h':=by
 have hx:∀b,H b=none->b≠x:=fun b n z=>by subst z;rw[n] at D;exact D
 have hb:∀b,H b=none->b≠e:=fun b n z=>by
  subst z;rcases I with r | r
  ·exact hx b n r
  ·rw[n] at r;cases r
 have G:∀b u,H b=some u->¬Mut (some u)->b≠x:=fun b u q J z=>by subst z;rw[q] at D;exact J D
 refine⟨fun b u q n _ _=>k b u (hb b n) q,fun b u q n _ _=>⟨u.slots,k b u (hb b n) q⟩,fun b u q n _=>by rw[zq (hx b n)];exact n,fun b u q _=>?_,
  fun b L q=>by rw[zq (G b _ q fun z=>z)];exact q,fun b u L q=>by rw[zq (G b _ q fun z=>z)];exact q,fun b M q=>⟨#[],by rw[zq (G b _ q fun z=>z),q];simp⟩⟩
 by_cases B:b=e
 ·subst B;exact E
 ·exact⟨u,k b u B q⟩
end
def trk(h:Heap)(H:Hp):List Addr:=(List.range h.objs.size).filter fun a=>(H a).isSome
def Wh(h:Heap)(H:Hp):Heap:=PySem.W.hideAll h (trk h H)
theorem zdH(h:Heap)(H:Hp):(Wh h H).objs.size=h.objs.size:=PySem.W.hideAll_size _ _
theorem zfB{h:Heap}{H:Hp}{b:Addr}{o:Obj}(e:h.get? b=some o)(n:H b=none):(Wh h H).get? b=some o:=
 PySem.W.hideAll_get _ e fun c=>by
  have q:(H b).isSome=true:=(yy.mp c).2;rw[n] at q;simp at q
theorem zgR{h:Heap}{H:Hp}{b:Addr}{o:Obj}(e:(Wh h H).get? b=some o):h.get? b=some o/\H b=none:=by
 have c:h.get? b=some o:=PySem.W.of_hideAll (trk h H) e;refine⟨c,?_⟩
 cases q:H b with
 | none=>rfl
 | some x=>
  have g:b∈trk h H:=yy.mpr ⟨qt.mpr (zH c),by simp[q]⟩
  have z:(Wh h H).get? b=none:=PySem.W.hideAll_none (trk h H) g;rw[z] at e;cases e
def zhn(g h:Heap)(L:Addr):List 0#l:=(List.range h.objs.size).filterMap fun a=>if a=L\/(g.get? a).isSome=true then none else(h.get? a).map fun o=>(a,o)
def rest(g h:Heap)(L d:Addr):List 0#l:=(zhn g h L).filter fun p=>decide (p.1≠d)
structure Mod(K:W.Frag)(mg:Str->Option Value)(base:Heap):Prop where
 kin:K.In base
 glob:base.Ns mainGlobals mg
 blt:∃mb,base.Ns builtinsNs mb/\∀x:Str,x ≠ "__name__" -> mb x=bootBuiltins x
 nolimit:base.NoLimit
structure Cx where
 prog:Program
 w:World
 K:PySem.W.Frag
 mg:Str->Option Value
 base:Heap
 A:Around
 N:List Str
 s₀:Shared
 H₀:Hp
 env:Env
 outer:List Env
 stack:List Env
 ex:List Addr
 fn:Str->Bool
 calm:Bool
 pn:List 0#l
 xe:Value->Shared->Prop
def frs(l:List Env):List Addr:=l.filterMap (·.frame)
abbrev Cx.fs(X:Cx):List Addr:=frs X.outer
def Vis(c:Scope)(x:Str):Prop:=c.names.lookup x=some .local\/c.names.lookup x=some .cell\/c.names.lookup x=some .free
def Loc(c:Scope)(x:Str):Prop:=c.names.lookup x=some .local\/c.names.lookup x=some .cell
def zls(g:Env)(h:Heap)(m:Str->Option Value)(x:Str)(u:Value):Prop:=
 (g.kindOf x=some .local/\m x=some u)\/((g.kindOf x=some .cell\/g.kindOf x=some .free)/\∃c,g.cells.lookup x=some c/\h.IsCell c (some u))
structure Cx.Ok(X:Cx):Prop where
 mod:Mod X.K X.mg X.base
 kind:X.env.scope.kind=.function
 glob:X.env.globals=mainGlobals
 blt:X.env.builtins=builtinsNs
 above:X.s₀.heap.objs.size<=X.env.locals
 inj:∀x y c,X.env.cells.lookup x=some c->X.env.cells.lookup y=some c->x=y
 has:∀x,(X.env.kindOf x=some .cell\/X.env.kindOf x=some .free)->∃c,X.env.cells.lookup x=some c
 cab:∀x c,X.fn x=true->X.env.cells.lookup x=some c->X.s₀.heap.objs.size<=c
 hd:X.calm=true->X.A.handled=none
 frames:X.A.frames=some X.stack
 stk:X.stack=X.outer\/(X.stack=X.env::X.outer/\X.env.frame=some X.env.locals)
 exf:∀b∈X.ex,b≠X.env.locals/\∀x c,X.env.cells.lookup x=some c->c≠b
 bs:∀b o,X.base.get? b=some o->X.s₀.heap.get? b=some o/\X.H₀ b=none
 bsz:X.base.objs.size<=X.s₀.heap.objs.size
 noex:∀b o,X.base.get? b=some o->b∉X.ex
 exfs:∀b∈X.ex,b∉X.fs
 funs:X.s₀.heap.FunFrames X.base X.outer
 frf:∀b∈X.fs,X.H₀ b=none
structure Inv(X:Cx)(pins:List 0#l)(σ:List (Option V))(H:Hp)(s:Shared):Prop where
 ok:X.Ok
 os:s.os=X.s₀.os
 bare:AllBare s.gens
 base:Un X.fs X.ex X.H₀ H X.s₀.heap s.heap
 loc:∃m,s.heap.Ns X.env.locals m/\∀(i:Nat) (x:Str) (v:V),X.N[i]? =some x->σ[i]? =some (some v)->Vis X.env.scope x->∃u,RelV v u/\zls X.env s.heap m x u
 cell:∀x c,X.env.cells.lookup x=some c->∃v,s.heap.IsCell c v
 free:H X.env.locals=none
 freeC:∀x c,X.env.cells.lookup x=some c->H c=none
 pin:∀p∈X.pn++pins,s.heap.get? p.1=some p.2/\H p.1=none/\p.1≠X.env.locals/\p.1∉X.fs/\∀v,p.2.data≠.cell v
 hok:HOk X.prog X.w H s.heap
 len:σ.length=X.N.length
section
variable{X:Cx}{g:List (Addr×Obj)}{σ:List (Option V)}{H B:Hp}{s:Shared}{h':Heap}
theorem Cx.Ok.nofr(ok:X.Ok){b:Addr}{o:Obj}(e:X.base.get? b=some o):b∉X.fs:=fun hb=>by
 have:=(ok.funs.mem hb).1;rw[e] at this;cases this
theorem Inv.bs(I:Inv X g σ H s):∀b o,X.base.get? b=some o->s.heap.get? b=some o/\H b=none:=fun b o e=>
 ⟨I.base.keep b o (I.ok.bs b o e).1 (I.ok.bs b o e).2 (I.ok.nofr e) (I.ok.noex b o e),I.base.free b o (I.ok.bs b o e).1 (I.ok.bs b o e).2 (I.ok.noex b o e)⟩
theorem Inv.bk(I:Inv X g σ H s):∀b o,X.base.get? b=some o->s.heap.get? b=some o:=fun b o e=>(I.bs b o e).1
theorem Inv.mod(I:Inv X g σ H s):Mod X.K X.mg X.base:=I.ok.mod
theorem Inv.kIn(I:Inv X g σ H s):X.K.In s.heap:=I.ok.mod.kin.keeps I.bk
theorem Inv.lt(I:Inv X g σ H s):X.env.locals<s.heap.objs.size:=let ⟨_,c,_⟩:=I.loc;c.lt
theorem Inv.sz(I:Inv X g σ H s):X.s₀.heap.objs.size<=s.heap.objs.size:=xa I.ok.above (vp I.lt)
theorem Inv.nofs(I:Inv X g σ H s){a:Addr}(h:s.heap.objs.size<=a):a∉X.fs:=fun hb=>by
 obtain⟨_,o,c,_⟩:=I.ok.funs.mem hb;exact absurd (jz (zH c) (xa I.sz h)) (jW _)
theorem Inv.cne(I:Inv X g σ H s):∀x c,X.env.cells.lookup x=some c->c≠X.env.locals:=fun x c e z=>by
 obtain⟨v,o,u,hd⟩:=I.cell x c e;obtain⟨m,⟨D,A,w,t,l,_⟩,_⟩:=I.loc;rw[z,t] at u;cases u;rw[l] at hd;cases hd
theorem Inv.funs(I:Inv X g σ H s):s.heap.FunFrames X.base X.outer:=by
 have all:∀(l:List Env),(∀b∈frs l,b∈X.fs)->X.s₀.heap.FunFrames X.base l->s.heap.FunFrames X.base l:=by
  intro l;induction l with
  | nil=>intro _ _;trivial
  | cons w r J=>
   intro u A;obtain⟨hk,⟨L,o,t,D,E,hd⟩,G⟩:=A;have c:L∈X.fs:=u L (by unfold frs;rw[WK,t];exact jK)
   obtain⟨M,e⟩:=I.base.slot L o E (I.ok.frf L c) c fun z=>I.ok.exfs L z c
   exact⟨hk,⟨L,_,t,D,e,hd⟩,J (fun b hb=>u b (by unfold frs;rw[WK,t];exact z9 _ hb)) G⟩
 exact all X.outer (fun _ hb=>hb) I.ok.funs
theorem Inv.stack(I:Inv X g σ H s):s.heap.FunFrames X.base X.stack:=by
 rcases I.ok.stk with e | ⟨e,c⟩
 ·rw[e];exact I.funs
 ·rw[e]
  obtain⟨m,l,_⟩:=I.loc;refine .cons (by rw[I.ok.kind];decide) c l ?_ I.funs
  exact Heap.get?_none_of_le (xa I.ok.bsz I.ok.above)
theorem Inv.stkSub(I:Inv X g σ H s):∀b∈frs X.stack,b∈X.env.locals::X.fs:=fun b hb=>by
 rcases I.ok.stk with e | ⟨e,c⟩
 ·rw[e] at hb;exact z9 _ hb
 ·rw[e] at hb
  unfold frs at hb;rw[WK,c] at hb;exact hb
theorem Inv.stkFree(I:Inv X g σ H s):∀b∈frs X.stack,H b=none:=fun b hb=>by
 rcases zC.mp (I.stkSub b hb) with e | hb
 ·rw[e];exact I.free
 ·obtain⟨_,o,c,_⟩:=I.ok.funs.mem hb
  exact I.base.free b o c (I.ok.frf b hb) fun z=>I.ok.exfs b z hb
theorem Inv.step{g':Array GenState}{t':Nat}{d':Drawn}{ch:List Addr}(I:Inv X g σ H s)
  (A:∀b∈ch,(b∈X.ex\/X.s₀.heap.objs.size<=b)/\b≠X.env.locals/\(∀x c,X.env.cells.lookup x=some c->c≠b)/\∀p∈X.pn++g,p.1≠b)
  (D:∀b o,b≠X.env.locals->b∉X.fs->b∉ch->s.heap.get? b=some o->H b=none->h'.get? b=some o)
  (J:∀b o,b≠X.env.locals->b∈X.fs->b∉ch->s.heap.get? b=some o->H b=none->∃sl,h'.get? b=some { o with slots:=sl }) (t:∀b o,b∉ch->s.heap.get? b=some o->H b=none->B b=none)
  (M:∀b o,b∉ch->s.heap.get? b=some o->∃T,h'.get? b=some T)
  (Y:∀b L,H b=some (.tup L)->B b=some (.tup L)) (O:∀b o u,H b=some (.frz o u)->B b=some (.frz o u)) (U:∀b ps,H b=some (.tbl ps)->∃more,B b=some (.tbl (ps++more)))
  (ns:∀m,s.heap.Ns X.env.locals m->h'.Ns X.env.locals m) (a0:HOk X.prog X.w B h') (hg:AllBare g') :
  Inv X g σ B { s with heap:=h',gens:=g',drawn:=d',toks:=t' }:=by
 have Q:∀b o,X.s₀.heap.get? b=some o->b≠X.env.locals:=fun b o e=>zP (jz (zH e) I.ok.above)
 have G:∀b o,X.s₀.heap.get? b=some o->b∉X.ex->b∉ch:=fun b o e hx hb=>by
  rcases(A b hb).1 with z | z
  ·exact hx z
  ·exact absurd (jz (zH e) z) (jW _)
 have w:∀x c,X.env.cells.lookup x=some c->∀v,s.heap.IsCell c v->h'.IsCell c v:=fun x c e v ⟨o,N,hd⟩=>by
  have E:c∉ch:=fun z=>(A c z).2.2.1 x c e rfl
  by_cases hc:c∈X.fs
  ·obtain⟨sl,q⟩:=J c o (I.cne x c e) hc E N (I.freeC x c e)
   exact⟨_,q,hd⟩
  ·exact⟨o,D c o (I.cne x c e) hc E N (I.freeC x c e),hd⟩
 refine⟨I.ok,I.os,hg,⟨fun b o e n hb hx=>?_,fun b o e n hb hx=>?_,fun b o e n hx=>?_,fun b o e hx=>?_,fun b L e=>Y b L (I.base.tups b L e),fun b o L e=>O b o L (I.base.frzs b o L e),fun b ps e=>?_⟩,?_,fun x c e=>?_,?_,fun x c e=>?_,fun p hp=>?_,a0,I.len⟩
 ·exact D b o (Q b o e) hb (G b o e hx) (I.base.keep b o e n hb hx) (I.base.free b o e n hx)
 ·obtain⟨sl,e1⟩:=I.base.slot b o e n hb hx
  obtain⟨a1,e2⟩:=J b _ (Q b o e) hb (G b o e hx) e1 (I.base.free b o e n hx);exact⟨a1,e2⟩
 ·obtain⟨T,e1⟩:=I.base.there b o e hx
  exact t b T (G b o e hx) e1 (I.base.free b o e n hx)
 ·obtain⟨T,e1⟩:=I.base.there b o e hx
  exact M b T (G b o e hx) e1
 ·obtain⟨m1,e1⟩:=I.base.tbls b ps e
  obtain⟨m2,e2⟩:=U b _ e1;exact⟨m1++m2,by rw[e2,Array.append_assoc]⟩
 ·obtain⟨m,hn,hl⟩:=I.loc
  refine⟨m,ns m hn,fun i x v e1 e2 e3=>?_⟩
  obtain⟨u,r,l⟩:=hl i x v e1 e2 e3;refine⟨u,r,?_⟩
  rcases l with l | ⟨k,c,e,z⟩
  ·exact .inl l
  ·exact .inr ⟨k,c,e,w x c e _ z⟩
 ·obtain⟨v,z⟩:=I.cell x c e
  exact⟨v,w x c e v z⟩
 ·obtain⟨m,⟨o,_,_,N,_⟩,_⟩:=I.loc
  exact t _ o (fun z=>(A _ z).2.1 rfl) N I.free
 ·obtain⟨v,o,N,hd⟩:=I.cell x c e
  exact t c o (fun z=>(A c z).2.2.1 x c e rfl) N (I.freeC x c e)
 ·obtain⟨e,n,ne,nf,d⟩:=I.pin p hp
  have E:p.1∉ch:=fun z=>(A p.1 z).2.2.2 p hp rfl
  exact⟨D p.1 p.2 ne nf E e n,t p.1 p.2 E e n,ne,nf,d⟩
theorem Inv.un{t':Nat}(I:Inv X g σ H s)(u:Un X.fs [] H B s.heap h')(w:HOk X.prog X.w B h'):Inv X g σ B { s with heap:=h',toks:=t' }:=by
 obtain⟨m,⟨o,N,M,A,r⟩,_⟩:=id I.loc;obtain⟨U,D⟩:=u.any A I.free (by simp)
 exact I.step (g':=s.gens) (d':=s.drawn) (ch:=[]) (fun _ z=>nomatch z) (fun b o _ hb _ e n=>u.keep b o e n hb (by simp)) (fun b o _ hb _ e n=>u.slot b o e n hb (by simp)) (fun b o _ e n=>u.free b o e n (by simp)) (fun b o _ e=>u.there b o e (by simp)) u.tups u.frzs u.tbls (fun Q E=>by
  obtain⟨T,t,l,c,G⟩:=E;rw[A] at c;cases c
  exact⟨_,t,l,D,G⟩) w I.bare
theorem Inv.call{g':Array GenState}{t':Nat}{d':Drawn}{ch:List Addr}(I:Inv X g σ H s)(u:Un (frs X.stack) ch H B s.heap h')(E:HOk X.prog X.w B h')(hg:AllBare g')
  (l:∀b∈ch,(b∈X.ex\/X.s₀.heap.objs.size<=b)/\b≠X.env.locals/\(∀x c,X.env.cells.lookup x=some c->c≠b)/\∀p∈X.pn++g,p.1≠b) :
  Inv X g σ B { s with heap:=h',gens:=g',drawn:=d',toks:=t' }:=by
 obtain⟨m,⟨o,N,M,G,r⟩,_⟩:=id I.loc;obtain⟨T,D⟩:=u.any G I.free fun z=>(l _ z).2.1 rfl
 exact I.step (ch:=ch) l (fun b o D hb hc e n=>u.keep b o e n (fun z=>(zC.mp (I.stkSub b z)).elim D hb) hc) (fun b o _ _ hc e n=>u.any e n hc) (fun b o hc e n=>u.free b o e n hc) (fun b o hc e=>u.there b o e hc) u.tups u.frzs u.tbls (fun O J=>by
  obtain⟨Q,A,w,t,L⟩:=J;rw[G] at t;cases t
  exact⟨_,A,w,D,L⟩) E hg
theorem Inv.turned{t':Nat}{it:Addr}(I:Inv X g σ H s)(k:∀b o,b≠it->s.heap.get? b=some o->h'.get? b=some o)(L:H it=none)(t:it≠X.env.locals)
  (D:it∈X.ex\/X.s₀.heap.objs.size<=it) (E:∀x c,X.env.cells.lookup x=some c->c≠it) (G:∀p∈X.pn++g,p.1≠it):Inv X g σ H { s with heap:=h',toks:=t' }:=by
 have l:∀b u,H b=some u->b≠it:=fun b u e z=>by rw[z,L] at e;cases e
 refine I.step (g':=s.gens) (d':=s.drawn) (ch:=[it]) (fun b hb=>?_) (fun b o _ _ hc e _=>k b o (fun z=>hc (by simp[z])) e) (fun b o _ _ hc e _=>⟨o.slots,k b o (fun z=>hc (by simp[z])) e⟩) (fun _ _ _ _ n=>n)
  (fun b o hc e=>⟨o,k b o (fun z=>hc (by simp[z])) e⟩) (fun _ _ e=>e) (fun _ _ _ e=>e) (fun b T e=>⟨#[],by rw[e];simp⟩) (fun m J=>?_) (fun b u e=>?_) I.bare
 ·have e:b=it:=by simpa using hb
  subst e;exact⟨D,t,E,G⟩
 ·obtain⟨o,A,w,M,r⟩:=J
  exact⟨o,A,w,k _ o (zG t) M,r⟩
 ·refine(I.hok b u e).stay (fun c v hc q=>k c v ?_ q) (fun _ q=>q) fun _ _ q=>q
  rcases hc with z | z
  ·rw[z];exact l b u e
  ·exact l c _ z
theorem Inv.tok(I:Inv X g σ H s)(t:Nat):Inv X g σ H { s with toks:=t }:=I.un (h':=s.heap) (t':=t) Un.refl I.hok
theorem Inv.kept{t':Nat}(I:Inv X g σ H s)(k:∀b u,s.heap.get? b=some u->h'.get? b=some u):Inv X g σ H { s with heap:=h',toks:=t' }:=I.un (Un.kept k) (I.hok.kept k)
theorem Inv.laid{a:Addr}{o:HO}{t':Nat}(I:Inv X g σ H s)(k:∀b u,s.heap.get? b=some u->h'.get? b=some u)(c:s.heap.objs.size<=a)(l:ObjOk X.prog X.w (upd H a o) h' a o) :
  Inv X g σ (upd H a o) { s with heap:=h',toks:=t' }:=I.un (Un.laid k c (I.hok.fresh c)) (I.hok.laid k c l)
theorem Inv.write{x e:Addr}{o:HO}{t':Nat}(I:Inv X g σ H s)(w:Mut (H x))(t:e=x\/H e=some (.own x))(k:∀b u,b≠e->s.heap.get? b=some u->h'.get? b=some u)(c:∃u,h'.get? e=some u)
  (l:ObjOk X.prog X.w (upd H x o) h' x o):Inv X g σ (upd H x o) { s with heap:=h',toks:=t' }:=I.un (Un.write w t k c) (I.hok.write w t k c l)
theorem Inv.weak{l:List (Option V)}(I:Inv X g σ H s)(t:l.length=σ.length)(w:∀(i:Nat) v,l[i]? =some (some v)->σ[i]? =some (some v)):Inv X g l H s:=
 ⟨I.ok,I.os,I.bare,I.base,let ⟨m,u,c⟩:=I.loc;⟨m,u,fun i x v e1 e2 o=>c i x v e1 (w i v e2) o⟩,I.cell,I.free,I.freeC,I.pin,I.hok,t.trans I.len⟩
theorem Inv.pins_of{c:List (Addr×Obj)}(I:Inv X g σ H s)(h:∀p∈c,s.heap.get? p.1=some p.2/\H p.1=none/\p.1≠X.env.locals/\p.1∉X.fs/\∀v,p.2.data≠.cell v):Inv X c σ H s:=
 ⟨I.ok,I.os,I.bare,I.base,I.loc,I.cell,I.free,I.freeC,fun p l=>(ja.mp l).elim (fun z=>I.pin p (vg _ z)) (h p),I.hok,I.len⟩
theorem YB{N:List Str}(c:N.Nodup){i j:Nat}{x:Str}(a:N[i]? =some x)(b:N[j]? =some x):i=j:=by
 obtain⟨l,e1⟩:=zU.mp a;obtain⟨o,e2⟩:=zU.mp b;exact(Qw c).mp (e1.trans e2.symm)
theorem zdb{M:Model}{A:Around}{E:Value->Shared->Prop}{i:Nat}{x:Str}{v:V}{u:Value}{Q:Unit->Shared->Prop}(I:Inv X g σ H s)(hN:X.N.Nodup)(T:X.N[i]? =some x)(hx:Loc X.env.scope x)(r:RelV v u)
  (h:∀s',Inv X g (σ.set i (some v)) H s'->(∃a,Heap.SameBut a s.heap s'.heap/\(a=X.env.locals\/X.env.cells.lookup x=some a))->Q () s') (hf:X.fn x=true\/X.env.scope.names.lookup x=some .local:=by first| exact .inl rfl | exact .inr rfl | assumption):wpAny M A (storeName X.env x u) Q E s:=by
 obtain⟨m,hn,hl⟩:=id I.loc;have O:(X.env.scope.kind==.class||(X.env.scope.kind==.module&&X.env.locals != X.env.globals))=false:=by rw[I.ok.kind];rfl
 have U:i<σ.length:=by rw[I.len];exact(zU.mp T).1
 have D:=I.cne;have t:∀{a:Addr} {h':Heap},(∃o,s.heap.get? a=some o/\H a=none)->Heap.SameBut a s.heap h'->HOk X.prog X.w H h':=fun {a h'} ha l b ob e=>by
  obtain⟨_,_,w⟩:=ha;refine(I.hok b ob e).stay (fun c w' hc q=>(l.2 c ?_).trans q) (fun _ q=>q) fun _ _ q=>q
  rintro rfl;rcases hc with rfl | hc
  ·rw[w] at e;cases e
  ·rw[w] at hc;cases hc
 rcases hx with hk | hk
 ·refine wpAny_storeName_local hk hn (fun h' a1 l=>?_) O
  obtain⟨oL,_,_,a2,_⟩:=id hn;refine h _ ⟨I.ok,I.os,I.bare,⟨fun b o e n hb hx=>?_,fun b o e n hb hx=>?_,I.base.free,fun b o e hx=>?_,I.base.tups,I.base.frzs,I.base.tbls⟩,⟨_,a1,fun j y v' e1 e2 e3=>?_⟩,fun y c e=>?_,I.free,I.freeC,fun p hp=>?_,t ⟨oL,a2,I.free⟩ l,by simpa using I.len⟩ ⟨_,l,.inl rfl⟩
  ·exact(l.2 b (zP (jz (zH e) I.ok.above))).trans (I.base.keep b o e n hb hx)
  ·obtain⟨sl,e1⟩:=I.base.slot b o e n hb hx
   exact⟨sl,(l.2 b (zP (jz (zH e) I.ok.above))).trans e1⟩
  ·obtain⟨o',e1⟩:=I.base.there b o e hx
   exact⟨o',(l.2 b (zP (jz (zH e) I.ok.above))).trans e1⟩
  ·by_cases J:j=i
   ·subst J
    rw[T] at e1;cases e1
    rw[QD U] at e2;cases e2;exact⟨u,r,.inl ⟨hk,by simp⟩⟩
   ·rw[QA (zG J)] at e2
    obtain⟨u',r',q⟩:=hl j y v' e1 e2 e3;refine⟨u',r',?_⟩
    rcases q with ⟨k,e⟩ | ⟨k,c,e,z⟩
    ·refine .inl ⟨k,?_⟩
     have:y≠x:=fun e=>J (YB hN e1 (e▸T))
     simp[this,e]
    ·exact .inr ⟨k,c,e,z.sameBut l (D y c e)⟩
  ·obtain⟨w',z⟩:=I.cell y c e
   exact⟨w',z.sameBut l (D y c e)⟩
  ·obtain⟨e,n,ne,nf,d⟩:=I.pin p hp
   exact⟨(l.2 p.1 ne).trans e,n,ne,nf,d⟩
 ·have G:X.fn x=true:=by
   rcases hf with z | z
   ·exact z
   ·rw[z] at hk;cases hk
  obtain⟨c,hc⟩:=I.ok.has x (.inl hk);obtain⟨w',z⟩:=I.cell x c hc;refine wpAny_storeName_cell I.ok.kind hk hc z (fun h' L l=>?_)
  obtain⟨oc,Y,a0⟩:=id z;refine h { s with heap:=h' } ⟨I.ok,I.os,I.bare,⟨fun b o e n hb hx=>?_,fun b o e n hb hx=>?_,I.base.free,fun b o e hx=>?_,I.base.tups,I.base.frzs,I.base.tbls⟩,⟨m,hn.sameBut l (zG (D x c hc)),fun j y v' e1 e2 e3=>?_⟩,fun y c' e=>?_,I.free,I.freeC,fun p hp=>?_,t ⟨oc,Y,I.freeC x c hc⟩ l,by simpa using I.len⟩ ⟨c,l,.inr hc⟩
  ·exact(l.2 b (zP (jz (zH e) (I.ok.cab x c G hc)))).trans (I.base.keep b o e n hb hx)
  ·obtain⟨sl,e1⟩:=I.base.slot b o e n hb hx
   exact⟨sl,(l.2 b (zP (jz (zH e) (I.ok.cab x c G hc)))).trans e1⟩
  ·obtain⟨o',e1⟩:=I.base.there b o e hx
   exact⟨o',(l.2 b (zP (jz (zH e) (I.ok.cab x c G hc)))).trans e1⟩
  ·by_cases J:j=i
   ·subst J
    rw[T] at e1;cases e1
    rw[QD U] at e2;cases e2;exact⟨u,r,.inr ⟨.inl hk,c,hc,L⟩⟩
   ·rw[QA (zG J)] at e2
    obtain⟨u',r',q⟩:=hl j y v' e1 e2 e3;refine⟨u',r',?_⟩
    rcases q with q | ⟨k,c',e,z'⟩
    ·exact .inl q
    ·refine .inr ⟨k,c',e,z'.sameBut l ?_⟩
     rintro rfl;exact J (YB hN e1 (I.ok.inj _ _ _ e hc▸T))
  ·by_cases N:c'=c
   ·subst N;exact⟨_,L⟩
   ·obtain⟨w2,z2⟩:=I.cell y c' e
    exact⟨w2,z2.sameBut l N⟩
  ·obtain⟨e,n,ne,nf,d⟩:=I.pin p hp
   refine⟨(l.2 p.1 ?_).trans e,n,ne,nf,d⟩
   intro q;rw[q,Y] at e;have q':oc=p.2:=qT e;exact d w' (by rw[<- q'];exact a0)
theorem ZE{M:Model}{A:Around}{E:Value->Shared->Prop}{i:Nat}{x:Str}{v:V}{u:Value}{Q:Unit->Shared->Prop}(I:Inv X g σ H s)(o:X.N.Nodup)(w:X.N[i]? =some x)(hx:Loc X.env.scope x)(r:RelV v u)
  (h:∀c,Inv X g (σ.set i (some v)) H c->Q () c) (t:X.fn x=true\/X.env.scope.names.lookup x=some .local:=by first| exact .inl rfl | exact .inr rfl | assumption):wpAny M A (storeName X.env x u) Q E s:=
 zdb I o w hx r (fun c l _=>h c l) t
theorem Inv.call'{s':Shared}{ch:List Addr}(I:Inv X g σ H s)(D:s'.os=s.os)(u:Un (frs X.stack) ch H B s.heap s'.heap)(o:HOk X.prog X.w B s'.heap)(hg:AllBare s'.gens)
  (l:∀b∈ch,(b∈X.ex\/X.s₀.heap.objs.size<=b)/\b≠X.env.locals/\(∀x c,X.env.cells.lookup x=some c->c≠b)/\∀p∈X.pn++g,p.1≠b):Inv X g σ B s':=by
 obtain⟨h',w,t,A,E⟩:=s';have e:E=s.os:=D;subst e;exact I.call (g':=w) (t':=A) (d':=t) u o hg l
end
abbrev XK:=Value->Option Addr->Hp->Prop
abbrev St:=List (Option V)
abbrev VK:=V->Hp->Prop
abbrev TE:=St->Hp->VK->Prop
abbrev TT:=St->Hp->(Bool->Hp->Prop)->Prop
abbrev TA:=St->Hp->(List V->Hp->Prop)->Prop
structure XT where
 nx:St->Hp->Prop
 rt:VK
 bk:St->Hp->Prop:=fun _ _=>False
 ct:St->Hp->Prop:=fun _ _=>False
abbrev TS:=XT->St->Hp->Prop
def EP(X:Cx)(c:List (Addr×Obj))(σ:St)(Q:VK)(u:Value)(l:Shared):Prop:=∃v g,Inv X c σ g l/\RelV v u/\Q v g
def TP(X:Cx)(c:List (Addr×Obj))(σ:St)(Q:Bool->Hp->Prop)(b:Bool)(l:Shared):Prop:=∃g,Inv X c σ g l/\Q b g
def AP(X:Cx)(c:List (Addr×Obj))(σ:St)(Q:List V->Hp->Prop)(s:List Value)(o:Shared):Prop:=∃l g,Inv X c σ g o/\Vals l s/\Q l g
def SP(X:Cx)(c:List (Addr×Obj))(D:XT)(f:Flow)(o:Shared):Prop:=
 match f with
 | .next=>∃l g,Inv X c l g o/\D.nx l g
 | .brk=>∃l g,Inv X c l g o/\D.bk l g
 | .cont=>∃l g,Inv X c l g o/\D.ct l g
 | .ret u=>∃v l g,Inv X c l g o/\RelV v u/\D.rt v g
def PE(X:Cx)(e:Expr)(t:TE):Prop:=
 ∀(c:List 0#l) (s:Shared) (σ:St) (H:Hp) (Q:VK),Inv X c σ H s->t σ H Q->wpAny 0#b X.A (eval e X.env) (EP X c σ Q) X.xe s
def PT(X:Cx)(e:Expr)(t:TT):Prop:=
 ∀(c:List 0#l) (s:Shared) (σ:St) (H:Hp) (Q:Bool->Hp->Prop),Inv X c σ H s->t σ H Q->wpAny 0#b X.A (isTrue e X.env (eval e X.env)) (TP X c σ Q) X.xe s
def PW(X:Cx)(e:Expr)(t:TT):Prop:=
 ∀(g:Sem Value) (c:List 0#l) (s:Shared) (σ:St) (H:Hp) (Q:Bool->Hp->Prop),Inv X c σ H s->t σ H Q->wpAny 0#b X.A (isTrue e X.env g) (TP X c σ Q) X.xe s
theorem PW.pt{X:Cx}{e:Expr}{t:TT}(h:PW X e t):PT X e t:=h _
def PA(X:Cx)(l:List Expr)(t:TA):Prop:=
 ∀(g:Pos) (c:List 0#l) (s:Shared) (σ:St) (H:Hp) (Q:List V->Hp->Prop),Inv X c σ H s->t σ H Q->wpAny 0#b X.A (spliced (backTo g (starEach l X.env))) (AP X c σ Q) X.xe s
def PS(X:Cx)(st:Stmt)(t:TS):Prop:=
 ∀(c:List 0#l) (s:Shared) (σ:St) (H:Hp) (D:XT),Inv X c σ H s->t D σ H->wpAny 0#b X.A (exec st X.env) (SP X c D) X.xe s
def PSs(X:Cx)(st:List Stmt)(t:TS):Prop:=
 ∀(c:List 0#l) (s:Shared) (σ:St) (H:Hp) (D:XT),Inv X c σ H s->t D σ H->wpAny 0#b X.A (execs st X.env) (SP X c D) X.xe s
theorem thn{α:Type}{t:Sem α}{Q c:α->Shared->Prop}{M:Model}{A:Around}{E:Value->Shared->Prop}{s:Shared}(h:wpAny M A t Q E s)(g:∀a s,Q a s->c a s):wpAny M A t c E s:=jt h g fun _ _ x=>x
section
variable{X:Cx}
inductive IsB(x:V)(H:Hp)(Q:Bool->Hp->Prop):Prop
 | mk (c:Bool) (h:x=.bl c) (q:Q c H):IsB x H Q
inductive IsI(x:V)(H:Hp)(Q:Int->Hp->Prop):Prop
 | mk (i:Int) (h:x=.int i) (q:Q i H):IsI x H Q
inductive zkX(c:List V)(H:Hp)(Q:V->V->Hp->Prop):Prop
 | mk (v w:V) (h:c=[v,w]) (q:Q v w H):zkX c H Q
inductive zil(i:Nat)(σ:St)(H:Hp)(Q:VK):Prop
 | mk (v:_) (_:σ[i]? =some (some v)) (_:Q v H):zil i σ H Q
def tC(v:V):TE:=fun _ H Q=>Q v H
theorem ziL{i:Nat}{x:Str}{g:Pos}(J:X.N[i]? =some x)(hv:Vis X.env.scope x)(hd:(x==("__debug__":Str))=false:=by decide)(G:(x==("__classdict__":Str))=false:=by decide):PE X (.Name x g) (zil i):=by
 intro E s σ H Q I h;obtain⟨v,e,h⟩:=h;obtain⟨m,N,L⟩:=I.loc;obtain⟨u,r,l⟩:=L i x v J e hv;have w:EP X E σ Q u s:=⟨v,H,I,r,h⟩;rcases l with ⟨hk,M⟩ | ⟨hk,c,hc,t⟩
 ·exact wpAny_Name (wpAny_loadName_local I.ok.kind hk N M w) hd
 ·rcases hk with hk | hk
  ·exact wpAny_Name (wpAny_loadName_cell I.ok.kind hk hc t w) hd
  ·exact wpAny_Name (wpAny_loadName_free I.ok.kind hk hc t w G) hd
theorem zj{i j g}:PE X (.Constant (.int i) j g) (tC (.int i)):=fun _ _ _ H _ I h=>wpAny_Constant_int ⟨.int i,H,I.tok _,⟨_,rfl⟩,h⟩
theorem j6{b j g}:PE X (.Constant (.bool b) j g) (tC (.bl b)):=fun _ _ _ H _ I h=>Constant_bool ⟨.bl b,H,I,rfl,h⟩
theorem vL{j g}:PE X (.Constant .none j g) (tC .non):=fun _ _ _ H _ I h=>Constant_none ⟨.non,H,I,rfl,h⟩
theorem zeW{x j g}:PE X (.Constant (.str x) j g) (tC (.str x)):=fun _ _ _ H _ I h=>Calls.Constant_str ⟨.str x,H,I.tok _,⟨_,rfl⟩,h⟩
def Gl(X:Cx)(x:Str):Prop:=X.env.kindOf x=some .globalImplicit
theorem zcl{E:Value->Shared->Prop}{c:List (Addr×Obj)}{s:Shared}{σ:St}{H:Hp}{x:Str}{u:Value}{g:Pos}{Q:Value->Shared->Prop}(I:Inv X c σ H s)(hg:Gl X x)(l:X.mg x=some u)(h:Q u s)
  (hd:(x==("__debug__":Str))=false:=by decide):wpAny 0#b X.A (eval (.Name x g) X.env) Q E s:=
 zf4 I.ok.kind hg (Calls.loadGlobal_global (by rw[I.ok.glob];exact I.mod.glob.keeps I.bk) l h) hd
theorem vP{E:Value->Shared->Prop}{c:List (Addr×Obj)}{s:Shared}{σ:St}{H:Hp}{x:Str}{u:Value}{g:Pos}{Q:Value->Shared->Prop}(I:Inv X c σ H s)(hg:Gl X x)(w:X.mg x=none)(hv:bootBuiltins x=some u)(h:Q u s)
  (G:x ≠ "__name__" :=by decide) (hd:(x==("__debug__":Str))=false:=by decide):wpAny 0#b X.A (eval (.Name x g) X.env) Q E s:=by
 obtain⟨J,l,t⟩:=I.mod.blt;exact zf4 I.ok.kind hg (Calls.loadGlobal_builtin (by rw[I.ok.glob];exact I.mod.glob.keeps I.bk) w (by rw[I.ok.blt];exact l.keeps I.bk) ((t x G).trans hv) h) hd
theorem vB{x:Str}{v:V}{u:Value}{g:Pos}(hg:Gl X x)(c:X.mg x=some u)(r:RelV v u)(hd:(x==("__debug__":Str))=false:=by decide):PE X (.Name x g) (tC v):=
 fun _ _ _ H _ I h=>zcl I hg c ⟨v,H,I,r,h⟩ hd
theorem qR{x:Str}{v:V}{u:Value}{g:Pos}(hg:Gl X x)(c:X.mg x=none)(hv:bootBuiltins x=some u)(r:RelV v u)(l:x ≠ "__name__" :=by decide)(hd:(x==("__debug__":Str))=false:=by decide):PE X (.Name x g) (tC v):=
 fun _ _ _ H _ I h=>vP I hg c hv ⟨v,H,I,r,h⟩ l hd
variable{a b:Expr}{A D:TE}{g:Pos}
def PC(X:Cx)(l:CmpOp)(a b:Expr)(t:TE):Prop:=
 ∀(c:List 0#l) (s:Shared) (σ:St) (H:Hp) (Q:VK),Inv X c σ H s->t σ H Q ->
  wpAny 0#b X.A (eval a X.env) (fun v w=>wpAny 0#b X.A (eval b X.env) (fun u E=>wpAny 0#b X.A (compareOp l v u) (EP X c σ Q) X.xe E) X.xe w) X.xe s
theorem zfg(b:Expr){c:CmpOp}(h:c≠.In)(l:c≠.NotIn):behindInMarks c b=false:=by
 have e1:(c==CmpOp.In)=false:=by cases c<;>first| rfl | exact absurd rfl h
 have e2:(c==CmpOp.NotIn)=false:=by cases c<;>first| rfl | exact absurd rfl l
 cases b<;>simp[behindInMarks,e1,e2]
def tB(t:TE):TT:=fun σ H Q=>t σ H fun x c=>IsB x c Q
theorem zap{E:CmpOp}{t:TE}(h:PC X E a b t)(w:behindInMarks E b=false:=by first| exact zfg _ (by decide) (by decide) | rfl):PT X (.Compare a [E] [b] g) (tB t):=by
 intro l s σ H Q I M;refine wpAny_isTrue_Compare1 (thn (h l s σ H _ I M) fun v s1 w=>thn w fun u s2 L=>thn L fun c T ⟨x,G,J,O,N⟩=>?_) w
 obtain⟨d,rfl,q⟩:=N;cases O;exact yA ⟨G,J,q⟩
theorem qL{e:Expr}{t:TE}(h:PE X e t)(E:∀c,isTrue e X.env c=(do let v<-c;standAt e.pos;holding [v] (truthy v)):=by intro _;rfl):PT X e (tB t):=by
 intro l s σ H Q I G;refine isTrue_plain (thn (h l s σ H _ I G) fun v s1 ⟨x,u,w,L,J⟩=>?_) (E _)
 obtain⟨d,rfl,q⟩:=J;cases L;exact yA ⟨u,w,q⟩
variable{o B:TT}{rest:List Expr}
def zlg(t u:TT):TT:=fun σ H Q=>t σ H fun c l=>if c=true then u σ l Q else Q false l
def tOr(t u:TT):TT:=fun σ H Q=>t σ H fun c l=>if c=true then Q true l else u σ l Q
def zk6(t:TT):TT:=fun σ H Q=>t σ H fun c l=>Q (!c) l
theorem zgy(t:PT X a o):PW X (.BoolOp .And [a] g) o:=by
 intro u l s σ H Q I h;refine isTrue_and (thn (t l s σ H Q I h) fun c s1 e=>?_)
 cases c with
 | true=>exact isTrue_and_nil e
 | false=>exact e
theorem va(t:PT X a o):PW X (.BoolOp .Or [a] g) o:=by
 intro u l s σ H Q I h;refine isTrue_or (thn (t l s σ H Q I h) fun c s1 e=>?_)
 cases c with
 | false=>exact isTrue_or_nil e
 | true=>exact e
theorem ziB(E:PT X a o)(hb:PW X (.BoolOp .And (b::rest) g) B):PW X (.BoolOp .And (a::b::rest) g) (zlg o B):=by
 intro G l s σ H Q I h;refine isTrue_and (thn (E l s σ H _ I h) fun c s1 ⟨t,u,w⟩=>?_)
 cases c with
 | true=>exact hb G l s1 σ t Q u w
 | false=>exact⟨t,u,w⟩
theorem yf(E:PT X a o)(hb:PW X (.BoolOp .Or (b::rest) g) B):PW X (.BoolOp .Or (a::b::rest) g) (tOr o B):=by
 intro G l s σ H Q I h;refine isTrue_or (thn (E l s σ H _ I h) fun c s1 ⟨t,u,w⟩=>?_)
 cases c with
 | true=>exact⟨t,u,w⟩
 | false=>exact hb G l s1 σ t Q u w
theorem jh(u:PT X a o):PT X (.UnaryOp .Not a g) (zk6 o):=by
 intro l s σ H Q I h;exact isTrue_not (u l s σ H (fun c t=>Q (!c) t) I h)
def zjK(A D:TE):TE:=fun σ H Q=>A σ H fun x l=>IsB x l fun c l=>if c=true then D σ l Q else Q (.bl false) l
def zjF(A:TE):TE:=fun σ H Q=>A σ H fun x l=>IsB x l fun c l=>Q (.bl (!c)) l
theorem xV{u}{t:TE}(h:PE X a t):PE X (.BoolOp u [a] g) t:=fun c s σ H Q I l=>BoolOp_one (h c s σ H Q I l)
theorem xn(E:PE X a A)(hb:PE X (.BoolOp .And (b::rest) g) D):PE X (.BoolOp .And (a::b::rest) g) (zjK A D):=by
 intro l s σ H Q I h;refine BoolOp_and (thn (E l s σ H _ I h) fun v s1 ⟨x,u,w,G,t⟩=>?_)
 obtain⟨c,rfl,t⟩:=t;cases G;refine yA ?_
 cases c with
 | true=>exact hb l s1 σ u Q w t
 | false=>exact⟨.bl false,u,w,rfl,t⟩
theorem ziO(E:PE X a A):PE X (.UnaryOp .Not a g) (zjF A):=by
 intro l s σ H Q I h;refine UnaryOp_ (thn (E l s σ H _ I h) fun v s1 ⟨x,u,w,G,t⟩=>?_)
 obtain⟨c,rfl,t⟩:=t;cases G;exact not_of (yA ⟨.bl (!c),u,w,rfl,t⟩)
def tIf(t:TT)(A D:TE):TE:=fun σ H Q=>t σ H fun c l=>if c=true then A σ l Q else D σ l Q
theorem yg{c:Expr}(hc:PT X c o)(E:PE X a A)(hb:PE X b D):PE X (.IfExp c a b g) (tIf o A D):=by
 intro l s σ H Q I h;refine wpAny_IfExp (thn (hc l s σ H _ I h) fun d s1 ⟨t,u,w⟩=>?_)
 cases d with
 | true=>exact E l s1 σ t Q u w
 | false=>exact hb l s1 σ t Q u w
end
def SqL(K:W.Frag)(H:Hp)(a:Addr)(g:List V):Prop:=
 Rd H a (.lst g) \/
  ∃(o:Obj) (c:Array Value) (n:Nat),K.lookup a=some o/\o.cls=.type "list" /\ o.dict=none/\o.data=.seq c n/\c.size<=sizeLine/\Vals g c.toList
def SqT(K:W.Frag)(H:Hp)(a:Addr)(g:List V):Prop:=
 Rd H a (.tup g) \/
  ∃(o:Obj) (c:Array Value) (n:Nat),K.lookup a=some o/\o.cls=.type "tuple" /\ o.data=.seq c n/\c.size<=sizeLine/\Vals g c.toList
def zlp:Value->Option V
 | .none=>some .non
 | .bool b=>some (.bl b)
 | .int i _=>some (.int i)
 | .str x _=>some (.str x)
 | .bytes b _=>some (.byt b)
 | .float b _=>some (.flt b)
 | .ref a=>some (.ref a)
 | .type n=>some (.ty n)
 | _=>none
theorem RelV.abs{x:V}{u:Value}(r:RelV x u):zlp u=some x:=by
 cases x with
 | non=>cases r;rfl
 | bl _=>cases r;rfl
 | int _=>obtain⟨t,rfl⟩:=r;rfl
 | str _=>obtain⟨t,rfl⟩:=r;rfl
 | byt _=>obtain⟨t,rfl⟩:=r;rfl
 | flt _=>obtain⟨t,rfl⟩:=r;rfl
 | ref _=>cases r;rfl
 | ty _=>cases r;rfl
theorem RelV.inj{x y:V}{u:Value}(r:RelV x u)(q:RelV y u):x=y:=qT (r.abs.symm.trans q.abs)
theorem Vals.inj:∀{g l:List V} {c:List Value},Vals g c->Vals l c->g=l
 | _,_,_,.nil,.nil=>rfl
 | _,_,_,.cons r t,.cons o s=>by rw[r.inj o,Vals.inj t s]
section
variable{X:Cx}{c:List (Addr×Obj)}{σ:St}{H:Hp}{s:Shared}{a:Addr}{g l:List V}
theorem SqL.of{K:W.Frag}(h:H a=some (.lst g)):SqL K H a g:=.inl (.inl h)
def u4:=@SqL.of
theorem SqT.of{K:W.Frag}(h:H a=some (.tup g)):SqT K H a g:=.inl (.inl h)
def u5:=@SqT.of
theorem Inv.list(I:Inv X c σ H s)(h:SqL X.K H a g):∃t:List Value,Vals g t/\PlainL s.heap a t.toArray/\g.length<=sizeLine:=by
 rcases h with h | ⟨o,t,n,hk,hc,hd,u,w,r⟩
 ·obtain⟨z,t,n,r,e⟩:=h.ok I.hok
  exact⟨t,r,⟨_,n,e,rfl,rfl,rfl⟩,z⟩
 ·refine⟨t.toList,r,⟨o,n,I.kIn a o hk,hc,hd,by simpa using u⟩,?_⟩
  have e:=r.length;simp only[qK] at e;omega
theorem Inv.tuple(I:Inv X c σ H s)(h:SqT X.K H a g):∃t:List Value,Vals g t/\IsTup s.heap a t.toArray/\g.length<=sizeLine:=by
 rcases h with h | ⟨o,t,n,hk,hc,u,w,r⟩
 ·obtain⟨z,t,r,p⟩:=h.ok I.hok
  exact⟨t,r,p.1,z⟩
 ·refine⟨t.toList,r,⟨o,I.kIn a o hk,hc,n,by simpa using u⟩,?_⟩
  have e:=r.length;simp only[qK] at e;omega
theorem Inv.list_inj(I:Inv X c σ H s)(h:SqL X.K H a g)(D:SqL X.K H a l):g=l:=by
 obtain⟨u,r,⟨o,n,e,_,_,d⟩,_⟩:=I.list h;obtain⟨t,E,⟨J,G,A,_,_,w⟩,_⟩:=I.list D;rw[e] at A;cases A
 rw[d] at w;injection w with B _;have:u=t:=by simpa using congrArg Array.toList B
 subst this;exact r.inj E
theorem Inv.tuple_inj(I:Inv X c σ H s)(h:SqT X.K H a g)(D:SqT X.K H a l):g=l:=by
 obtain⟨u,r,⟨o,e,_,n,d⟩,_⟩:=I.tuple h;obtain⟨t,E,⟨J,A,_,G,w⟩,_⟩:=I.tuple D;rw[e] at A;cases A
 rw[d] at w;injection w with B _;have:u=t:=by simpa using congrArg Array.toList B
 subst this;exact r.inj E
end
abbrev Cx.wish(X:Cx)(E:Value->Shared->Prop):Cx:={ X with xe:=E }
abbrev Cx.nox(X:Cx):Cx:=X.wish fun _ _=>False
theorem Cx.Ok.wish{X:Cx}(ok:X.Ok)(E:Value->Shared->Prop):(X.wish E).Ok:=
 ⟨ok.mod,ok.kind,ok.glob,ok.blt,ok.above,ok.inj,ok.has,ok.cab,ok.hd,ok.frames,ok.stk,ok.exf,ok.bs,ok.bsz,ok.noex,ok.exfs,ok.funs,ok.frf⟩
theorem Cx.Ok.unwish{X:Cx}{E:Value->Shared->Prop}(ok:(X.wish E).Ok):X.Ok:=
 ⟨ok.mod,ok.kind,ok.glob,ok.blt,ok.above,ok.inj,ok.has,ok.cab,ok.hd,ok.frames,ok.stk,ok.exf,ok.bs,ok.bsz,ok.noex,ok.exfs,ok.funs,ok.frf⟩
section
variable{X:Cx}{c:List (Addr×Obj)}{σ:St}{H:Hp}{s:Shared}{E:Value->Shared->Prop}
theorem Inv.wish(I:Inv X c σ H s)(E:Value->Shared->Prop):Inv (X.wish E) c σ H s:=⟨I.ok.wish E,I.os,I.bare,I.base,I.loc,I.cell,I.free,I.freeC,I.pin,I.hok,I.len⟩
theorem Inv.unwish(I:Inv (X.wish E) c σ H s):Inv X c σ H s:=⟨I.ok.unwish,I.os,I.bare,I.base,I.loc,I.cell,I.free,I.freeC,I.pin,I.hok,I.len⟩
theorem SP.unwish{D:XT}{f:Flow}{o:Shared}(h:SP (X.wish E) c D f o):SP X c D f o:=by
 cases f with
 | next=>obtain⟨l,g,I,q⟩:=h;exact⟨l,g,I.unwish,q⟩
 | brk=>obtain⟨l,g,I,q⟩:=h;exact⟨l,g,I.unwish,q⟩
 | cont=>obtain⟨l,g,I,q⟩:=h;exact⟨l,g,I.unwish,q⟩
 | ret u=>obtain⟨v,l,g,I,r,q⟩:=h;exact⟨v,l,g,I.unwish,r,q⟩
theorem PSs.nox{st:List Stmt}{t:TS}(h:PSs X.nox st t):PSs X st t:=fun c s σ H D I g=>
 jt (h c s σ H D (I.wish _) g) (fun _ _ q=>q.unwish) fun _ _ z=>False.elim z
end
section
variable{X:Cx}{st:Stmt}{rest:List Stmt}{t u:TS}{e:Expr}{l:TE}{g:Pos}
def zjG:TS:=fun D σ H=>D.nx σ H
def zk3(t u:TS):TS:=fun D σ H=>t { D with nx:=u D } σ H
theorem qe:PSs X [] zjG:=fun _ _ σ H _ I h=>wpAny_execs_nil ⟨σ,H,I,h⟩
theorem zg(A:PS X st t)(B:PSs X rest u):PSs X (st::rest) (zk3 t u):=by
 intro c s σ H D I h;refine wpAny_execs_cons (thn (A c s σ H { D with nx:=u D } I h) fun f s1 q=>?_)
 cases f with
 | next=>
  obtain⟨E,o,w,q⟩:=q;exact B c s1 E o D w q
 | ret v=>exact q
 | brk=>exact q
 | cont=>exact q
theorem zp(o:PS X st t):PSs X [st] t:=by
 intro c s σ H D I h;refine wpAny_execs_cons (thn (o c s σ H D I h) fun f s1 q=>?_)
 cases f with
 | next=>exact wpAny_execs_nil q
 | ret v=>exact q
 | brk=>exact q
 | cont=>exact q
theorem Inv.quiet{c:List (Addr×Obj)}{σ:St}{H:Hp}{s:Shared}(I:Inv X c σ H s):interactive X.env=false:=by simp[interactive,I.ok.kind]
def zjH(l:TE):TS:=fun D σ H=>l σ H fun _ c=>D.nx σ c
theorem xK(A:PE X e l)(B:swapsWith e none g.line X.env=pure false:=by rfl):PS X (.Expr e g) (zjH l):=by
 intro c s σ H D I h;exact wpAny_Expr_any (thn (A c s σ H _ I h) fun v s1 ⟨x,o,w,G,E⟩=>⟨σ,o,w,E⟩) I.quiet B
def zk4(l:TE):TS:=fun D σ H=>l σ H D.rt
theorem zA(A:PE X e l):PS X (.Return (some e) g) (zk4 l):=by
 intro c s σ H D I h;exact wpAny_Return_some (thn (A c s σ H _ I h) fun v s1 ⟨x,o,w,E,B⟩=>⟨x,σ,o,w,E,B⟩)
def zk8(c:TT)(t u:TS):TS:=fun D σ H=>c σ H fun b o=>if b=true then t D σ o else u D σ o
theorem je{c:Expr}{a b:List Stmt}{E:TT}(hc:PT X c E)(G:PSs X a t)(hb:PSs X b u):PS X (.If c a b g) (zk8 E t u):=by
 intro o s σ H D I h;refine wpAny_If (thn (hc o s σ H _ I h) fun d s1 ⟨w,A,B⟩=>?_)
 cases d with
 | true=>exact G o s1 σ w D A B
 | false=>exact hb o s1 σ w D A B
end
abbrev TG:=V->St->Hp->(St->Hp->Prop)->Prop
abbrev TGs:=List V->St->Hp->(St->Hp->Prop)->Prop
def PG(X:Cx)(c:Expr)(t:TG):Prop:=
 ∀(g:List 0#l) (s:Shared) (σ:St) (H:Hp) (v:V) (u:Value) (Q:St->Hp->Prop),Inv X g σ H s->RelV v u->t v σ H Q ->
  wpAny 0#b X.A (assign c X.env u) (fun _ w=>∃o l,Inv X g o l w/\Q o l) X.xe s
def PGs(X:Cx)(A:List Expr)(t:TGs):Prop:=
 ∀(c:List 0#l) (s:Shared) (σ:St) (H:Hp) (o:List V) (l:List Value) (Q:St->Hp->Prop),Inv X c σ H s->Vals o l->t o σ H Q ->
  wpAny 0#b X.A (assignInOrder ((assignEach A X.env).map (·.2)) l) (fun _ w=>∃u g,Inv X c u g w/\Q u g) X.xe s
abbrev zjy:=V->V->V->Hp->(Hp->Prop)->Prop
def zkV(X:Cx)(t:zjy):Prop:=
 ∀(c:List 0#l) (s:Shared) (σ:St) (H:Hp) (o i v:V) (w l u:Value) (Q:Hp->Prop),Inv X c σ H s->RelV o w->RelV i l->RelV v u->t o i v H Q ->
  wpAny 0#b X.A (setItem w l u) (fun _ A=>∃g,Inv X c σ g A/\Q g) X.xe s
section
variable{X:Cx}{l:Pos}
def xY(i:Nat):TG:=fun v σ H Q=>Q (σ.set i (some v)) H
theorem zB{i:Nat}{x:Str}(o:X.N.Nodup)(w:X.N[i]? =some x)(hx:Loc X.env.scope x)(t:X.fn x=true\/X.env.scope.names.lookup x=some .local:=by first| exact .inl rfl | exact .inr rfl | assumption):PG X (.Name x l) (xY i):=by
 intro c s σ H v u Q I r h;exact wpAny_assign_Name (ZE I o w hx r (fun A g=>⟨_,H,g,h⟩) t)
def zdI:TGs:=fun c σ H Q=>c=[]/\Q σ H
inductive wf(t:TG)(u:TGs)(c:List V)(σ:St)(H:Hp)(Q:St->Hp->Prop):Prop
 | mk (v r:_) (_:c=v::r) (_:t v σ H fun o g=>u r o g Q):wf t u c σ H Q
theorem jd:PGs X [] zdI:=by
 intro c s σ H o g Q I r h;obtain⟨e,h⟩:=h;subst e;cases r;exact assignInOrder_nil ⟨σ,H,I,h⟩
theorem zI{e:Expr}{g:List Expr}{t:TG}{u:TGs}(A:PG X e t)(B:PGs X g u)
  (D:(assignEach (e::g) X.env).map (·.2)=assign e X.env::(assignEach g X.env).map (·.2):=by rfl):PGs X (e::g) (wf t u):=by
 intro c s σ H N L Q I r h;obtain⟨v,M,e1,h⟩:=h;subst e1;cases r with
 | cons r G=>
  rw[D];refine assignInOrder_cons (thn (A c s σ H _ _ _ I r h) fun _ s1 ⟨J,o,w,E⟩=>?_)
  exact B c s1 J o _ _ Q w G E
inductive zaF(K:W.Frag)(n:Nat)(t:TGs)(v:V)(σ:St)(H:Hp)(Q:St->Hp->Prop):Prop
 | mk (a c:_) (_:v=.ref a) (_:SqT K H a c) (_:c.length=n) (_:t c σ H Q):zaF K n t v σ H Q
theorem jP{g:List Expr}{k:Nat}{t:TGs}{n:Nat}(hc:X.calm=true)(h:PGs X g t)
  (J:(assignEach g X.env).length=n:=by rfl) (w:(assignEach g X.env).findIdx? (·.1)=none:=by rfl):PG X (.Tuple g k l) (zaF X.K n t):=by
 intro c s σ H v u Q I r A;obtain⟨a,N,e1,hq,G,A⟩:=A;subst e1;cases r;obtain⟨M,B,L,O⟩:=I.tuple hq;refine assign_Tuple_tuple (I.ok.hd hc) L (by simp[J,<- G,B.length]) w fun E hx=>?_
 have D:Inv X c σ H { s with heap:=E }:=I.kept (t':=s.toks) fun b o e=>hx b o (zP (zH e)) e
 exact h c _ σ H N _ Q D (by simpa using B) A
def zlm(to u:TE)(t:zjy):TG:=fun v σ H Q=>to σ H fun o c=>u σ c fun i g=>t o i v g fun s=>Q σ s
theorem JK{o i:Expr}{to A:TE}{t:zjy}(O:PE X o to)(N:PE X i A)(T:zkV X t)
  (M:∀v,assign (.Subscript o i l) X.env v=(do
   let g<-holding [v] (eval o X.env)
   let w<-holding [v,g] (eval i X.env)
   standAt l
   holding [v,g,w] (setItem g w v)
   release [v,g,w] []):=by intro _;rfl):PG X (.Subscript o i l) (zlm to A t):=by
 intro c s σ H v u Q I r h;rw[M];refine zf (jD (thn (O c s σ H _ I h) fun g s1 ⟨x,B,G,r1,U⟩=>?_))
 refine zf (jD (thn (N c s1 σ B _ G U) fun w s2 ⟨y,D,J,r2,Y⟩=>?_))
 refine zf (wF (zf (jD (thn (T c s2 σ D x y v g w u _ J r1 r2 r Y) fun _ s3 ⟨E,L,q3⟩=>?_))))
 exact wpAny_release ⟨σ,E,L,q3⟩
def zc9(o:TE)(g:TG):TS:=fun D σ H=>o σ H fun x c=>g x σ c D.nx
theorem vc{o e:Expr}{t:TE}{g:TG}(B:PE X e t)(hg:PG X o g)(E:swapsWithSole [o] e l.line X.env=pure false:=by rfl)(G:swappedStores [o] e X.env=pure none:=by rfl)
  (A:(assignEach [o] X.env).map (·.2)=[assign o X.env]:=by rfl):PS X (.Assign [o] e l) (zc9 t g):=by
 intro c s σ H D I h;refine wpAny_Assign_stores (thn (B c s σ H _ I h) fun v s1 ⟨x,u,w,L,J⟩=>?_) E G
 rw[A];exact thn (hg c s1 σ u x v _ w L J) fun _ s2 q=>q
theorem zF{i:Nat}{x:Str}{e:Expr}{o:TE}{c:Pos}(A:X.N.Nodup)(G:X.N[i]? =some x)(hx:Loc X.env.scope x)(B:PE X e o)(J:swapsWith e (some (.Name x c)) l.line X.env=pure false:=by rfl)(E:X.fn x=true\/X.env.scope.names.lookup x=some .local:=by first| exact .inl rfl | exact .inr rfl | assumption) :
  PS X (.Assign [.Name x c] e l) (zc9 o (xY i)):=by
 intro g s σ H D I h;refine wpAny_Assign_Name (thn (B g s σ H _ I h) fun v s1 ⟨y,t,u,M,L⟩=>?_) J
 exact ZE u A G hx M (fun s2 w=>⟨_,t,w,L⟩) E
def zk5(i j:Nat)(g:TA):TS:=fun D σ H=>g σ H fun o c=>zkX o c fun v w c=>D.nx ((σ.set i (some v)).set j (some w)) c
theorem JJ{i j:Nat}{x y:Str}{a b:Expr}{ta:TA}{M N L:Pos}{J G t}(hc:X.calm=true)(hN:X.N.Nodup)(hi:X.N[i]? =some x)(hj:X.N[j]? =some y)(B:i≠j)
  (hx:X.env.scope.names.lookup x=some .local) (hy:X.env.scope.names.lookup y=some .local) (ha:PA X [a,b] ta)
  (hw:swappedStores [.Tuple [.Name x M,.Name y N] J L] (.Tuple [a,b] G t) X.env=pure (some [x,y]))
  (hs:swapsWithSole [.Tuple [.Name x M,.Name y N] J L] (.Tuple [a,b] G t) l.line X.env=pure false:=by rfl) :
  PS X (.Assign [.Tuple [.Name x M,.Name y N] J L] (.Tuple [a,b] G t) l) (zk5 i j ta):=by
 intro g s σ H D I h;rw[exec_Assign_arm];refine zf (wF ?_)
 rw[hs];refine zf (zx ?_)
 rw[zk (by decide)]
 refine zf (Tuple_ (thn (ha _ g s σ H _ I h) fun us s1 ⟨vs,T,I1,r1,O⟩=>?_))
 obtain⟨v,w,e1,O⟩:=O;subst e1;obtain⟨u,A,rfl,rv,Q⟩:∃u A,us=[u,A]/\RelV v u/\RelV w A:=by
  cases r1 with
  | cons p q=>
   cases q with
   | cons p' q'=>
    cases q';exact⟨_,_,rfl,p,p'⟩
 refine jY ?_ (by show 2<=sizeLine;decide)
 have I2:Inv X g σ T { s1 with heap:=s1.heap.push { cls:=.type "tuple",data:=.seq [u,A].toArray } }:=I1.kept (t':=s1.toks) fun b o e=>zN _ e
 rw[hw];refine zf (zx ?_)
 show wpAny 0#b X.A (do rule "assign.swapped-stores";let c<-unpackItems (.ref s1.heap.objs.size) 2 none;assignInOrder [fun v=>bindName X.env y v,fun v=>bindName X.env x v] c.reverse;pure Flow.next) _ _ _
 refine zf (xS (zf (unpackItems_tuple (items:=#[u,A]) (I.ok.hd hc) (IsTup.new s1.heap _) fun Y E=>?_)))
 have I3:=I2.kept (h':=Y) (t':=s1.toks) fun b o e=>E b o (zP (zH e)) e
 show wpAny _ _ (assignInOrder [fun v=>bindName X.env y v,fun v=>bindName X.env x v] [A,u] >>= fun _=>pure Flow.next) _ _ _
 refine zf (assignInOrder_cons (wpAny_bindName (ZE I3 hN hj (.inl hy) Q (fun s2 I4=>?_) (.inr hy))))
 refine assignInOrder_cons (wpAny_bindName (ZE I4 hN hi (.inl hx) rv (fun s3 U=>assignInOrder_nil (zx ?_)) (.inr hx)))
 rw[List.set_comm _ _ (zG B)] at U;exact⟨_,T,U,O⟩
def zik(c:TT)(u:TS):TS:=fun D σ H=>∃W:Nat->St->Hp->Prop,(∃m,W m σ H)/\∀m σ H,W m σ H ->
 c σ H fun b o=>if b=true then ∃N:St->Hp->Prop,(∀t g,N t g->∃s,s<m/\W s t g)/\u { D with nx:=N,ct:=N,bk:=D.nx } σ o else D.nx σ o
theorem JI{c:Expr}{body:List Stmt}{tc:TT}{tb:TS}(hp:PassesOwn 0#b X.A X.env X.xe)(hc:PT X c tc)(hb:PSs X body tb):PS X (.While c body [] l) (zik tc tb):=by
 intro g s σ H D I h;obtain⟨W,⟨m0,w0⟩,t⟩:=h;refine wpAny_While (codeAny_whileLoop (fun n s'=>∃σ' O,Inv X g σ' O s'/\W n σ' O) ?_ m0 ⟨σ,H,I,w0⟩)
 rintro n s1 ⟨B,Q,I1,w1⟩;refine Zs hp (thn (hc g s1 B Q _ I1 (t n B Q w1)) fun b s2 ⟨T,U,w⟩=>?_)
 cases b with
 | true=>
  obtain⟨N,Y,w⟩:=w;rw[zu rfl];refine Zs hp (thn (hb g s2 B T _ U w) fun f s3 A=>?_)
  cases f with
  | next=>
   obtain⟨u,o,E,L⟩:=A;obtain⟨J,G,M⟩:=Y u o L;exact⟨J,G,u,o,E,M⟩
  | cont=>
   obtain⟨u,o,E,L⟩:=A;obtain⟨J,G,M⟩:=Y u o L;exact⟨J,G,u,o,E,M⟩
  | brk=>exact A
  | ret v=>exact A
 | false=>
  rw[zk qU];exact wpAny_execs_nil ⟨B,T,U,w⟩
end
structure It where
 go:Nat->Hp->Prop
 yld:Nat->Hp->V->Hp->Prop
 stop:Nat->Hp->Prop
def jZ(X:Cx)(g:List (Addr×Obj))(H:Hp)(b:Addr):Prop:=
 H b=none/\b≠X.env.locals/\b∉X.fs/\(b∈X.ex\/X.s₀.heap.objs.size<=b)/\(∀x c,X.env.cells.lookup x=some c->c≠b)/\∀p∈X.pn++g,p.1≠b
theorem Inv.fpOk{X:Cx}{g:List (Addr×Obj)}{σ:St}{H l:Hp}{s:Shared}{b:Addr}(I:Inv X g σ H s)(hb:s.heap.objs.size<=b)(o:l b=none):jZ X g l b:=by
 refine⟨o,jH (jz I.lt hb),I.nofs hb,.inr (xa I.sz hb),fun x c e z=>?_,fun p t z=>?_⟩
 ·obtain⟨v,q⟩:=I.cell x c e
  exact absurd (jz q.lt (by rw[z];exact hb)) (jW _)
 ·exact absurd (jz (zH (I.pin p t).1) (by rw[z];exact hb)) (jW _)
structure Jb(P:Program)(w:World)(K:W.Frag)(tg:Expr)(J:It)(fp:List Addr)(it:Addr)(tn:Nat->Heap->Prop):Prop where
 mem:it∈fp
 obj:∀i h,tn i h->∀b∈fp,∃o,h.get? b=some o/\∀v,o.data≠.cell v
 keep:∀i h h',tn i h->(∀b∈fp,∀o,h.get? b=some o->h'.get? b=some o)->tn i h'
 item:∀(X:Cx),X.prog=P->X.w=w->X.K=K->X.calm=true->∀(i:Nat) (pins:List 0#l) (s:Shared) (σ:St) (H:Hp) (E:Value->Shared->Prop),Inv X pins σ H s->(∀b∈fp,jZ X pins H b)->tn i s.heap->J.go i H ->
  wpAny (model P w) X.A (pyNext (.ref it)) (fun r s1=>∃u,r=some u /\
   wpAny (model P w) X.A (letOwnedTupleGo tg (.ref it) u) (fun _ s2=>∃x H',Inv X pins σ H' s2/\RelV x u/\J.yld i H x H'/\tn (i+1) s2.heap/\∀b∈fp,H' b=none) E s1) E s
 done:∀(X:Cx),X.prog=P->X.w=w->X.K=K->X.calm=true->∀(i:Nat) (pins:List 0#l) (s:Shared) (σ:St) (H:Hp) (E:Value->Shared->Prop),Inv X pins σ H s->(∀b∈fp,jZ X pins H b)->tn i s.heap->J.stop i H ->
  wpAny (model P w) X.A (pyNext (.ref it)) (fun r s1=>r=none/\Inv X pins σ H s1) E s
 self:∀(A:Around) (i:Nat) (s:Shared) (Q:Value->Shared->Prop) (E:Value->Shared->Prop),tn i s.heap->Q (.ref it) s->wpAny (model P w) A (pyIter (.ref it)) Q E s
abbrev TI:=St->Hp->(It->Hp->Prop)->Prop
def PIE(X:Cx)(c:List (Addr×Obj))(σ:St)(u:Expr)(R:It->Hp->Prop)(l:Value)(s2:Shared):Prop:=
 ∃(s:Addr) (o:List Addr) (t:Nat->Heap->Prop) (J:It) (g:Hp),l=.ref s/\Inv X c σ g s2/\Jb X.prog X.w X.K u J o s t/\t 0 s2.heap/\(∀b∈o,jZ X c g b)/\R J g
def PI(X:Cx)(l g:Expr)(o:TI):Prop:=
 ∀(c:List 0#l) (s:Shared) (σ:St) (H:Hp) (R:It->Hp->Prop),Inv X c σ H s->o σ H R ->
  wpAny 0#b X.A (eval g X.env) (fun v s1=>wpAny 0#b X.A (pyIter v) (PIE X c σ l R) X.xe s1) X.xe s
theorem YS{M:Model}{A:Around}{E:Value->Shared->Prop}{s:Shared}{l:Expr}{g:Addr}{u:Value}{o:Obj}{n:String}{t:Array Value}{Q:Unit->Shared->Prop}(B:s.heap.get? g=some o)(hc:o.cls=.type n)(hd:o.data=.fields t)
  (w:["enumerate", "zip", "dict_itemiterator", "dict_reverseitemiterator", "odict_iterator", "itertools.zip_longest", "itertools.pairwise"].contains n=false) (c:Q () s):wpAny M A (letOwnedTupleGo l (.ref g) u) Q E s:=by
 unfold letOwnedTupleGo;cases l<;>first
  | exact zx c
  | (cases u<;>first
    | exact zx c
    | (refine zf (wpAny_load B ?_)
       rw[hc,hd];show wpAny M A (if(["enumerate", "zip", "dict_itemiterator", "dict_reverseitemiterator", "odict_iterator", "itertools.zip_longest", "itertools.pairwise"].contains n&&t[0]? ==some (rawInt _))=true then _ else _) Q E s
       rw[zk (by intro h;rw[w,Bool.false_and] at h;cases h)]
       exact zx c))
def Itl(K:W.Frag)(a:Addr):It:=
 ⟨fun i H=>∃c x,SqL K H a c/\c[i]? =some x,fun i H x g=>g=H/\∀c,SqL K H a c->c[i]? =some x,fun i H=>∃c,SqL K H a c/\c.length<=i⟩
def Itt(K:W.Frag)(a:Addr):It:=
 ⟨fun i H=>∃c x,SqT K H a c/\c[i]? =some x,fun i H x g=>g=H/\∀c,SqT K H a c->c[i]? =some x,fun i H=>∃c,SqT K H a c/\c.length<=i⟩
def Itr(lo:Int)(n:Nat):It:=⟨fun i _=>i<n,fun i H x c=>c=H/\x=.int (lo+i),fun i _=>n<=i⟩
theorem XY{P:Program}{w:World}{K:W.Frag}{tg:Expr}(a l:Addr):Jb P w K tg (Itl K a) [l] l (fun i h=>h.IsListIter l a i) where
 mem:=by simp
 obj:=fun i h st b hb=>by
  have e:b=l:=by simpa using hb
  subst e;obtain⟨o,e,c,d⟩:=st;exact⟨o,e,fun v z=>by rw[d] at z;cases z⟩
 keep:=fun i h A st k=>st.at fun o e=>k l (by simp) o e
 item:=by
  intro X O Q N hc i g s σ H E I B st hg;subst O Q N;obtain⟨xs,x,hq,hx⟩:=hg;obtain⟨T,U,p,hz⟩:=I.list hq;obtain⟨u,hu,ru⟩:=U.get hx;obtain⟨D,G,f2,J,L,M⟩:=B l (by simp)
  refine wpAny_pyNext_list_item st p.isList (x:=u) (by simpa using hu) fun A t sb=>?_
  have Y:Inv X g σ H { s with heap:=A }:=I.turned (t':=s.toks) (fun b o hb e=>(sb.2 b hb).trans e) D G J L M
  obtain⟨o,e,c,d⟩:=id t;exact⟨u,rfl,YS (s:={ s with heap:=A }) e c d (by decide) ⟨x,H,Y,ru,⟨rfl,fun ys hy=>by rw[I.list_inj hy hq];exact hx⟩,t,fun b hb=>(B b hb).1⟩⟩
 done:=by
  intro X O Q N hc i g s σ H E I B st hg;subst O Q N;obtain⟨xs,hq,hx⟩:=hg;obtain⟨T,U,p,hz⟩:=I.list hq;obtain⟨D,G,f2,J,L,M⟩:=B l (by simp)
  have hl:=U.length;exact wpAny_pyNext_list_end (I.ok.hd hc) st p.isList (by simp;omega) fun A eb=>⟨rfl,I.turned (t':=s.toks) (fun b o hb e=>eb b o hb e) D G J L M⟩
 self:=fun _ _ _ _ _ st h=>wpAny_pyIter_listiter st h
theorem Js{P:Program}{w:World}{K:W.Frag}{tg:Expr}(a l:Addr):Jb P w K tg (Itt K a) [l] l (fun i h=>h.IsTupleIter l a i) where
 mem:=by simp
 obj:=fun i h st b hb=>by
  have e:b=l:=by simpa using hb
  subst e;obtain⟨o,e,c,d⟩:=st;exact⟨o,e,fun v z=>by rw[d] at z;cases z⟩
 keep:=fun i h B st k=>st.at fun o e=>k l (by simp) o e
 item:=by
  intro X Q T O hc i g s σ H E I D st hg;subst Q T O;obtain⟨xs,x,hq,hx⟩:=hg;obtain⟨t,U,p,hz⟩:=I.tuple hq;obtain⟨u,hu,ru⟩:=U.get hx;obtain⟨G,J,f2,L,M,N⟩:=D l (by simp)
  refine wpAny_pyNext_tuple_item st (show s.heap.IsTuple a t.toArray from p) (x:=u) (by simpa using hu) fun B A sb=>?_
  have Y:Inv X g σ H { s with heap:=B }:=I.turned (t':=s.toks) (fun b o hb e=>(sb.2 b hb).trans e) G J L M N
  obtain⟨o,e,c,d⟩:=id A;exact⟨u,rfl,YS (s:={ s with heap:=B }) e c d (by decide) ⟨x,H,Y,ru,⟨rfl,fun ys hy=>by rw[I.tuple_inj hy hq];exact hx⟩,A,fun b hb=>(D b hb).1⟩⟩
 done:=by
  intro X Q T O hc i g s σ H E I D st hg;subst Q T O;obtain⟨xs,hq,hx⟩:=hg;obtain⟨t,U,p,hz⟩:=I.tuple hq;obtain⟨G,J,f2,L,M,N⟩:=D l (by simp)
  have hl:=U.length;exact wpAny_pyNext_tuple_end (I.ok.hd hc) st (show s.heap.IsTuple a t.toArray from p) (by simp;omega) fun B eb=>⟨rfl,I.turned (t':=s.toks) (fun b o hb e=>eb b o hb e) G J L M N⟩
 self:=fun _ _ _ _ _ st h=>wpAny_pyIter_tupleiter st h
theorem zae{P:Program}{w:World}{K:W.Frag}{tg:Expr}(c:Addr)(lo:Int)(n:Nat):Jb P w K tg (Itr lo n) [c] c (fun i h=>IsRangeIter h c (lo+(i:Nat)*1) ((n:Int)-(i:Nat)) 1) where
 mem:=by simp
 obj:=fun i h st b hb=>by
  have e:b=c:=by simpa using hb
  subst e;exact⟨_,st,fun v z=>by
   have z':Data.fields _=Data.cell v:=z;cases z'⟩
 keep:=fun i h u st k=>k c (by simp) _ st
 item:=by
  intro X N O M hc i g s σ H E I A st hg;subst N O M;obtain⟨B,D,f2,G,J,L⟩:=A c (by simp)
  have W:=Walks.range (prog:=X.prog) (w:=X.w) (I.ok.hd hc) c lo 1 n;refine W.item i s _ _ hg st fun v u T hv l kk=>?_
  obtain⟨t,rfl⟩:=hv;have U:Inv X g σ H { s with heap:=u,toks:=T }:=I.turned (fun b o hb e=>kk b o (by simpa using hb) e) B D G J L
  refine⟨_,rfl,YS (s:={ s with heap:=u,toks:=T }) (n:= "range_iterator") l rfl rfl (by decide) ⟨.int (lo+i),H,U,⟨t,?_⟩,⟨rfl,rfl⟩,l,fun b hb=>(A b hb).1⟩⟩
  rw[Int.mul_one]
 done:=by
  intro X N O M hc i g s σ H E I A st hg;subst N O M;obtain⟨B,D,f2,G,J,L⟩:=A c (by simp)
  exact wpAny_pyNext_range_end (I.ok.hd hc) st (by have:n<=i:=hg;omega) fun u Y=>⟨rfl,I.turned (t':=s.toks) (fun b o hb e=>Y b o hb e) B D G J L⟩
 self:=fun _ _ _ _ _ st h=>wpAny_pyIter_rangeiter st h
section
variable{X:Cx}{c:Expr}
inductive InL(K:W.Frag)(x:V)(H:Hp)(R:It->Hp->Prop):Prop
 | mk (a:Addr) (h:x=.ref a) (e:∃g,SqL K H a g) (r:R (Itl K a) H):InL K x H R
inductive InT(K:W.Frag)(x:V)(H:Hp)(R:It->Hp->Prop):Prop
 | mk (a:Addr) (h:x=.ref a) (e:∃g,SqT K H a g) (r:R (Itt K a) H):InT K x H R
def zh9(K:W.Frag)(l:TE):TI:=fun σ H R=>l σ H fun x g=>InL K x g R
def zkK(K:W.Frag)(l:TE):TI:=fun σ H R=>l σ H fun x g=>InT K x g R
theorem jL{l:Expr}{u:TE}(A:PE X l u):PI X c l (zh9 X.K u):=by
 intro g s σ H R I h;refine thn (A g s σ H _ I h) fun v s1 ⟨x,w,t,E,D⟩=>?_
 obtain⟨a,e,⟨M,hq⟩,q⟩:=D;subst e;cases E;obtain⟨B,J,p,G⟩:=t.list hq;refine wpAny_pyIter_list p.isList ?_
 refine⟨s1.heap.objs.size,[s1.heap.objs.size],_,_,w,rfl,t.kept (t':=s1.toks) fun b o e=>zN _ e,XY a _,⟨_,zL _ rfl,rfl,rfl⟩,fun b hb=>?_,q⟩
 have e:b=s1.heap.objs.size:=by simpa using hb
 subst e;exact t.fpOk (zD _) (t.hok.fresh (zD _))
theorem xm{l:Expr}{w:TE}(B:PE X l w):PI X c l (zkK X.K w):=by
 intro g s σ H R I h;refine thn (B g s σ H _ I h) fun v s1 ⟨x,A,t,E,D⟩=>?_
 obtain⟨a,e,⟨M,hq⟩,q⟩:=D;subst e;cases E;obtain⟨u,J,p,G⟩:=t.tuple hq;refine wpAny_pyIter_tuple (show s1.heap.IsTuple a u.toArray from p) ?_
 refine⟨s1.heap.objs.size,[s1.heap.objs.size],_,_,A,rfl,t.kept (t':=s1.toks) fun b o e=>zN _ e,Js a _,⟨_,zL _ rfl,rfl,rfl⟩,fun b hb=>?_,q⟩
 have e:b=s1.heap.objs.size:=by simpa using hb
 subst e;exact t.fpOk (zD _) (t.hok.fresh (zD _))
theorem zeN{l:List (Addr×Obj)}{σ:St}{H:Hp}{s:Shared}{R:It->Hp->Prop}{E:Value->Shared->Prop}{lo g:Int}{t u v:Tok}{A:Nat}(I:Inv X l σ H s)(B:-(2^62)<=lo)(D:lo<2^62)(G:-(2^62)<=g)(J:g<2^62)
  (q:R (Itr lo (g-lo).toNat) H):wpAny 0#b X.A (pyIter (.ref s.heap.objs.size)) (PIE X l σ c R) E { s with heap:=s.heap.push { cls:=.type "range",data:=.fields #[.int lo t,.int g u,.int 1 v] },toks:=A }:=by
 refine wpAny_pyIter_range (IsRange.new ..) (small_one B D G J) ?_
 have w:Inv X l σ H { s with heap:=s.heap.push { cls:=.type "range",data:=.fields #[.int lo t,.int g u,.int 1 v] },toks:=A }:=I.kept fun b o e=>zN _ e
 refine⟨(s.heap.push { cls:=.type "range",data:=.fields #[.int lo t,.int g u,.int 1 v] }).objs.size,[(s.heap.push { cls:=.type "range",data:=.fields #[.int lo t,.int g u,.int 1 v] }).objs.size],_,_,H,rfl,
  w.kept (t':=A) fun b o e=>zN _ e,zae _ lo (g-lo).toNat,?_,fun b hb=>?_,q⟩
 ·have e1:lo+((0:Nat):Int)*1=lo:=by simp
  have e2:(((g-lo).toNat:Nat):Int)-((0:Nat):Int)=Builtin.Range.rangeSize lo g 1:=by rw[rangeSize_one];split<;>omega
  show IsRangeIter _ _ (lo+((0:Nat):Int)*1) ((((g-lo).toNat:Nat):Int)-((0:Nat):Int)) 1;rw[e1,e2];exact zL _ rfl
 ·have e:b=(s.heap.push { cls:=.type "range",data:=.fields #[.int lo t,.int g u,.int 1 v] }).objs.size:=by simpa using hb
  subst e;exact w.fpOk (zD _) (w.hok.fresh (zD _))
inductive zkY(g:List V)(H:Hp)(R:It->Hp->Prop):Prop
 | mk (j:Int) (h:g=[.int j]) (l:-(2^62)<=j) (o:j<2^62) (r:R (Itr 0 j.toNat) H):zkY g H R
def zkL(l:TA):TI:=fun σ H R=>l σ H fun o g=>zkY o g R
theorem qX{a:Expr}{u:TA}{p l:Pos}(hg:Gl X "range")(B:X.mg "range" = none)(A:PA X [a] u)(D:starEach [a] X.env=[(false,eval a X.env)]:=by rfl):PI X c (.Call (.Name "range" p) [a] [] l) (zkL u):=by
 intro g s σ H R I h;refine Call_ (vP I hg B boot_range (Xk (thn (A l g s σ H _ I h) fun M s1 ⟨N,L,w,G,o⟩=>?_) D rfl))
 obtain⟨j,e,o,E,q⟩:=o;subst e;cases G with
 | cons r J=>
  cases J;obtain⟨t,rfl⟩:=r;exact call_range_1 (zeN w (by omega) (by omega) o E (by simpa using q))
def zla(A:TI)(g:TG)(w:TS):TS:=fun D σ H=>A σ H fun J t=>∃W:Nat->Nat->St->Hp->Prop,(∃m,W 0 m σ t)/\∀i m σ H,W i m σ H ->
 (J.stop i H/\D.nx σ H)\/(J.go i H/\∃N:St->Hp->Prop,(∀s l,N s l->∃o,o<m/\W (i+1) o s l)/\∀x l,J.yld i H x l->g x σ l fun B u=>w { D with nx:=N,ct:=N,bk:=D.nx } B u)
def zX(g:List Addr)(h:Heap):List 0#l:=g.filterMap fun b=>(h.get? b).map fun o=>(b,o)
theorem qP{g:List Addr}{h:Heap}{b:Addr}{o:Obj}(hb:b∈g)(e:h.get? b=some o):(b,o)∈zX g h:=za1.mpr ⟨b,hb,by rw[e];rfl⟩
theorem v0{g:List Addr}{h:Heap}{p:Addr×Obj}(s:p∈zX g h):p.1∈g/\h.get? p.1=some p.2:=by
 obtain⟨b,hb,e⟩:=za1.mp s;cases q:h.get? b with
 | none=>rw[q] at e;cases e
 | some o=>
  rw[q] at e;have l:(b,o)=p:=qT e;subst l;exact⟨hb,q⟩
theorem Inv.pinned{g:List (Addr×Obj)}{σ:St}{H:Hp}{s:Shared}{fp:List Addr}(I:Inv X g σ H s)(A:∀b∈fp,jZ X g H b)(B:∀b∈fp,∃o,s.heap.get? b=some o/\∀v,o.data≠.cell v):Inv X (g++zX fp s.heap) σ H s:=
 I.pins_of fun p D=>(ja.mp D).elim (fun z=>I.pin p (qG _ z)) fun z=>by
  obtain⟨hb,e⟩:=v0 z;obtain⟨t,u,w,_⟩:=A p.1 hb;obtain⟨o,l,d⟩:=B p.1 hb;rw[e] at l;cases l
  exact⟨e,t,u,w,d⟩
theorem Inv.unpinned{g o:List 0#l}{σ:St}{H:Hp}{s:Shared}(I:Inv X (g++o) σ H s):Inv X g σ H s:=I.pins_of fun p l=>I.pin p (qG _ (vg _ l))
theorem qM{A:Expr}{body:List Stmt}{wi:TI}{g:TG}{tb:TS}{a4:Pos}(U:PassesOwn 0#b X.A X.env X.xe)(hc:X.calm=true)(hi:PI X c A wi)(hg:PG X c g)(hb:PSs X body tb)
  (hs:∀x,foldedSetIterable A X.env x=pure x:=by intro _;rfl):PS X (.For c A body [] a4) (zla wi g tb):=by
 intro l s σ H D I h;refine wpAny_For (thn (hi l s σ H _ I h) fun v s1 h1=>thn h1 fun a6 s2 h2=>?_) hs
 obtain⟨it,O,tn,J,H2,e,I2,T,a5,f2,W,⟨m0,w0⟩,a1⟩:=h2;subst e;have B:∀{G:Hp},(∀b∈O,G b=none)->∀b∈O,jZ X l G b:=fun hn b hb=>⟨hn b hb,(f2 b hb).2⟩
 refine codeAny_forLoop_any (fun n s'=>∃i σ' G,Inv X l σ' G s'/\tn i s'.heap/\(∀b∈O,G b=none)/\W i n σ' G) ?_ m0 ⟨0,σ,H2,I2,a5,fun b hb=>(f2 b hb).1,w0⟩
 rintro n s3 ⟨i,σ3,H3,I3,a0,Q,w3⟩;rcases a1 i n σ3 H3 w3 with ⟨stop,qn⟩ | ⟨go,N,hN,step⟩
 ·refine Zs U (thn (T.done X rfl rfl rfl hc i l s3 σ3 H3 X.xe I3 (B Q) a0 stop) fun r s4 ⟨hr,I4⟩=>?_)
  subst hr;exact wpAny_execs_nil ⟨σ3,H3,I4,qn⟩
 ·refine Zs U (thn (T.item X rfl rfl rfl hc i l s3 σ3 H3 X.xe I3 (B Q) a0 go) fun r s4 ⟨u,hr,h4⟩=>?_)
  subst hr;refine Zs U (thn h4 fun _ s5 ⟨x,H5,I5,r5,y5,M,a3⟩=>?_)
  have a2:=I5.pinned (B a3) (T.obj _ _ M);refine Zs U (thn (hg _ s5 σ3 H5 x u _ a2 r5 (step x H5 y5)) fun _ s6 ⟨σ6,H6,I6,q6⟩=>?_)
  refine Zs U (thn (hb _ s6 σ6 H6 _ I6 q6) fun f s7 L=>?_)
  have again:∀{E:St} {t:Hp},Inv X (l++zX O s5.heap) E t s7->N E t->∃m,m<n/\∃i σ' G,Inv X l σ' G s7/\tn i s7.heap/\(∀b∈O,G b=none)/\W i m σ' G:=fun {E t} w Y=>by
   obtain⟨m',hm,w7⟩:=hN E t Y;refine⟨m',hm,i+1,E,t,w.unpinned,T.keep _ _ _ M fun b hb o e=>(w.pin (b,o) (qG _ (qG _ (qP hb e)))).1,fun b hb=>?_,w7⟩
   obtain⟨o,e,d⟩:=T.obj _ _ M b hb;exact(w.pin (b,o) (qG _ (qG _ (qP hb e)))).2.1
  cases f with
  | next=>obtain⟨E,t,w,Y⟩:=L;exact again w Y
  | cont=>obtain⟨E,t,w,Y⟩:=L;exact again w Y
  | brk=>obtain⟨E,t,w,L⟩:=L;exact⟨E,t,w.unpinned,L⟩
  | ret v=>obtain⟨x7,E,t,w,r7,L⟩:=L;exact⟨x7,E,t,w.unpinned,r7,L⟩
end
theorem wj{K:W.Frag}{a:Addr}{xs:List V}{g:TG}{w:TS}{D:XT}{σ:St}{H:Hp}(Pv:Nat->St->Hp->Prop)(A:Pv 0 σ H)(E:∀i σ H,i<=xs.length->Pv i σ H->SqL K H a xs)
  (G:∀i x σ H,xs[i]? =some x->Pv i σ H->g x σ H fun t o=>w { D with nx:=Pv (i+1),ct:=Pv (i+1),bk:=D.nx } t o) (hd:∀σ H,Pv xs.length σ H->D.nx σ H) :
  ∃W:Nat->Nat->St->Hp->Prop,(∃m,W 0 m σ H)/\∀i m σ H,W i m σ H ->
   ((Itl K a).stop i H/\D.nx σ H)\/((Itl K a).go i H/\∃N:St->Hp->Prop,(∀s c,N s c->∃u,u<m/\W (i+1) u s c)/\∀x c,(Itl K a).yld i H x c->g x σ c fun t o=>w { D with nx:=N,ct:=N,bk:=D.nx } t o):=by
 refine⟨fun i m σ H=>m=xs.length-i/\i<=xs.length/\Pv i σ H,⟨xs.length,by simp,qB _,A⟩,?_⟩
 rintro i m σ H ⟨rfl,B,p⟩;have q:=E i σ H B p;by_cases l:i<xs.length
 ·refine .inr ⟨⟨xs,xs[i],q,by simp[l]⟩,Pv (i+1),fun s c I=>⟨xs.length-(i+1),by omega,rfl,l,I⟩,fun x c y=>?_⟩
  obtain⟨e,y⟩:=y;subst e;exact G i x σ _ (y xs q) p
 ·have e:i=xs.length:=by omega
  subst e;exact .inl ⟨⟨xs,q,zD _⟩,hd σ H p⟩
theorem ZN{K:W.Frag}{a:Addr}{xs:List V}{g:TG}{w:TS}{D:XT}{σ:St}{H:Hp}(Pv:Nat->St->Hp->Prop)(A:Pv 0 σ H)(E:∀i σ H,i<=xs.length->Pv i σ H->SqT K H a xs)
  (G:∀i x σ H,xs[i]? =some x->Pv i σ H->g x σ H fun t o=>w { D with nx:=Pv (i+1),ct:=Pv (i+1),bk:=D.nx } t o) (hd:∀σ H,Pv xs.length σ H->D.nx σ H) :
  ∃W:Nat->Nat->St->Hp->Prop,(∃m,W 0 m σ H)/\∀i m σ H,W i m σ H ->
   ((Itt K a).stop i H/\D.nx σ H)\/((Itt K a).go i H/\∃N:St->Hp->Prop,(∀s c,N s c->∃u,u<m/\W (i+1) u s c)/\∀x c,(Itt K a).yld i H x c->g x σ c fun t o=>w { D with nx:=N,ct:=N,bk:=D.nx } t o):=by
 refine⟨fun i m σ H=>m=xs.length-i/\i<=xs.length/\Pv i σ H,⟨xs.length,by simp,qB _,A⟩,?_⟩
 rintro i m σ H ⟨rfl,B,p⟩;have q:=E i σ H B p;by_cases l:i<xs.length
 ·refine .inr ⟨⟨xs,xs[i],q,by simp[l]⟩,Pv (i+1),fun s c I=>⟨xs.length-(i+1),by omega,rfl,l,I⟩,fun x c y=>?_⟩
  obtain⟨e,y⟩:=y;subst e;exact G i x σ _ (y xs q) p
 ·have e:i=xs.length:=by omega
  subst e;exact .inl ⟨⟨xs,q,zD _⟩,hd σ H p⟩
theorem jC{lo:Int}{n:Nat}{g:TG}{w:TS}{D:XT}{σ:St}{H:Hp}(Pv:Nat->St->Hp->Prop)(A:Pv 0 σ H)
  (B:∀i σ H,i<n->Pv i σ H->g (.int (lo+i)) σ H fun t o=>w { D with nx:=Pv (i+1),ct:=Pv (i+1),bk:=D.nx } t o) (hd:∀σ H,Pv n σ H->D.nx σ H) :
  ∃W:Nat->Nat->St->Hp->Prop,(∃m,W 0 m σ H)/\∀i m σ H,W i m σ H ->
   ((Itr lo n).stop i H/\D.nx σ H)\/((Itr lo n).go i H/\∃N:St->Hp->Prop,(∀s c,N s c->∃u,u<m/\W (i+1) u s c)/\∀x c,(Itr lo n).yld i H x c->g x σ c fun t o=>w { D with nx:=N,ct:=N,bk:=D.nx } t o):=by
 refine⟨fun i m σ H=>m=n-i/\i<=n/\Pv i σ H,⟨n,by simp,qB _,A⟩,?_⟩
 rintro i m σ H ⟨rfl,G,p⟩;by_cases l:i<n
 ·refine .inr ⟨l,Pv (i+1),fun s c E=>⟨n-(i+1),by omega,rfl,l,E⟩,fun x c y=>?_⟩
  obtain⟨e,y⟩:=y;subst e y;exact B i σ _ l p
 ·have e:i=n:=by omega
  subst e;exact .inl ⟨zD _,hd σ H p⟩
abbrev R2:=V->V->Hp->VK->Prop
def OpR(X:Cx)(f:Value->Value->Sem Value)(r:R2):Prop:=
 ∀(c:List 0#l) (s:Shared) (σ:St) (H:Hp) (x y:V) (v u:Value) (Q:VK),Inv X c σ H s->RelV x v->RelV y u->r x y H Q ->
  wpAny 0#b X.A (f v u) (EP X c σ Q) X.xe s
def UnR(X:Cx)(f:Value->Sem Value)(r:V->Hp->VK->Prop):Prop:=
 ∀(c:List 0#l) (s:Shared) (σ:St) (H:Hp) (x:V) (v:Value) (Q:VK),Inv X c σ H s->RelV x v->r x H Q ->
  wpAny 0#b X.A (f v) (EP X c σ Q) X.xe s
def jE(X:Cx)(f:Value)(r:List V->Hp->VK->Prop):Prop:=
 ∀(c:List 0#l) (s:Shared) (σ:St) (H:Hp) (l:List V) (g:List Value) (Q:VK),Inv X c σ H s->Vals l g->r l H Q ->
  wpAny 0#b X.A (call f g) (EP X c σ Q) X.xe s
def tOp(r:R2)(l o:TE):TE:=fun σ H Q=>l σ H fun x c=>o σ c fun y g=>r x y g Q
def tUn(r:V->Hp->VK->Prop)(g:TE):TE:=fun σ H Q=>g σ H fun x c=>r x c Q
inductive rI(C:Int->Int->Prop)(g:Int->Int->V)(x:V)(y:V)(H:Hp)(Q:VK):Prop
 | mk (i j:_) (_:x=.int i) (_:y=.int j) (_:C i j) (_:Q (g i j) H):rI C g x y H Q
inductive rI0(g:Int->Int->V)(x:V)(y:V)(H:Hp)(Q:VK):Prop
 | mk (i j:_) (_:x=.int i) (_:y=.int j) (_:Q (g i j) H):rI0 g x y H Q
inductive rU(g:Int->V)(x:V)(H:Hp)(Q:VK):Prop
 | mk (i:_) (_:x=.int i) (_:Q (g i) H):rU g x H Q
section
variable{X:Cx}{a b c:Expr}{l w A:TE}{o:Pos}
theorem zjx(G:PE X a l)(hb:PE X b w){g:List 0#l}{s:Shared}{σ:St}{H:Hp}{R:V->V->Hp->Prop}(I:Inv X g σ H s)
  (h:l σ H fun x B=>w σ B fun y t=>R x y t) {Q:Value->Shared->Prop} {f:Value->Value->Sem Value}
  (J:∀v u s2 x y t,Inv X g σ t s2->RelV x v->RelV y u->R x y t->wpAny 0#b X.A (f v u) Q X.xe s2) :
  wpAny 0#b X.A (eval a X.env) (fun v T=>wpAny 0#b X.A (eval b X.env) (fun u U=>wpAny 0#b X.A (f v u) Q X.xe U) X.xe T) X.xe s:=by
 refine thn (G g s σ H _ I h) fun v s1 ⟨x,B,D,N,L⟩=>?_
 refine thn (hb g s1 σ B _ D L) fun u s2 ⟨y,t,E,O,M⟩=>?_
 exact J v u s2 x y t E N O M
theorem zK{t:Operator}{r:R2}(G:OpR X (binaryOp t) r)(E:PE X a l)(hb:PE X b w):PE X (.BinOp a t b o) (tOp r l w):=by
 intro g s σ H Q I h;exact wpAny_BinOp (zjx E hb I h fun v u s2 x y B D J L q=>G g s2 σ B x y v u Q D J L q)
theorem zeV{t:UnaryOp}{r:V->Hp->VK->Prop}(E:UnR X (unaryOp t) r)(D:PE X a l):PE X (.UnaryOp t a o) (tUn r l):=by
 intro g s σ H Q I h;exact UnaryOp_ (thn (D g s σ H _ I h) fun v s1 ⟨x,u,B,J,G⟩=>E g s1 σ u x v Q B J G)
theorem opI{f:Value->Value->Sem Value}{C:Int->Int->Prop}{g:Int->Int->Int}
  (rule:∀(i j:Int) (t u:Tok) (s:Shared) (Q:Value->Shared->Prop) (E:Value->Shared->Prop),C i j->Q (.int (g i j) s.toks) { s with toks:=s.toks+1 }->wpAny 0#b X.A (f (.int i t) (.int j u)) Q E s) :
  OpR X f (rI C fun i j=>.int (g i j)):=by
 intro B s σ H x y v u Q I D G h;obtain⟨i,j,rfl,rfl,hc,q⟩:=h;obtain⟨t,rfl⟩:=D;obtain⟨J,rfl⟩:=G;exact rule i j t J s _ _ hc ⟨.int (g i j),H,I.tok _,⟨_,rfl⟩,q⟩
theorem zkj{f:Value->Value->Sem Value}{g:Int->Int->Int}
  (rule:∀(i j:Int) (t u:Tok) (s:Shared) (Q:Value->Shared->Prop) (E:Value->Shared->Prop),Q (.int (g i j) s.toks) { s with toks:=s.toks+1 }->wpAny 0#b X.A (f (.int i t) (.int j u)) Q E s) :
  OpR X f (rI0 fun i j=>.int (g i j)):=by
 intro B s σ H x y v u Q I D G h;obtain⟨i,j,rfl,rfl,q⟩:=h;obtain⟨t,rfl⟩:=D;obtain⟨J,rfl⟩:=G;exact rule i j t J s _ _ ⟨.int (g i j),H,I.tok _,⟨_,rfl⟩,q⟩
theorem zgH{f:Value->Value->Sem Value}{g:Int->Int->Bool}
  (rule:∀(i j:Int) (t u:Tok) (s:Shared) (Q:Value->Shared->Prop) (E:Value->Shared->Prop),Q (.bool (g i j)) s->wpAny 0#b X.A (f (.int i t) (.int j u)) Q E s) :
  OpR X f (rI0 fun i j=>.bl (g i j)):=by
 intro B s σ H x y v u Q I D G h;obtain⟨i,j,rfl,rfl,q⟩:=h;obtain⟨t,rfl⟩:=D;obtain⟨J,rfl⟩:=G;exact rule i j t J s _ _ ⟨.bl (g i j),H,I,rfl,q⟩
def zkZ(i j:Int):Prop:=0<j/\j<1073741824
def zlt(i j:Int):Prop:=0<=j/\j<=1000000/\i.natAbs<2^64
def CMul(i j:Int):Prop:=(-(2^64)<i/\i<2^64)\/(-(2^64)<j/\j<2^64)
theorem CMul.ok{i j:Int}(h:CMul i j):IntMulOk i j:=by
 rcases h with ⟨g,s⟩ | ⟨g,s⟩
 ·exact .of_left (intBits_le_64 g s)
 ·exact .of_right (intBits_le_64 g s)
theorem qx:OpR X (binaryOp .Add) (rI0 fun i j=>.int (i+j)):=zkj fun _ _ _ _ _ _ _ q=>add_int q
theorem vd:OpR X (binaryOp .Sub) (rI0 fun i j=>.int (i-j)):=zkj fun _ _ _ _ _ _ _ q=>sub_int q
theorem xW:OpR X (binaryOp .Mult) (rI CMul fun i j=>.int (i*j)):=opI fun _ _ _ _ _ _ _ hc q=>mul_int q hc.ok
theorem V6:OpR X (binaryOp .FloorDiv) (rI zkZ fun i j=>.int (i/j)):=opI fun i j _ _ _ _ _ hc q=>by
 have g:(0:Int)<j:=hc.1;have s:j<1073741824:=hc.2;exact floordiv_int (by omega) (by rw[zf3 i (by omega)];exact q) (.inl (PyProof.noPylong_small (by omega)))
theorem xI:OpR X (binaryOp .Mod) (rI (fun _ j=>0<j) fun i j=>.int (i % j)):=opI fun i j _ _ _ _ _ hc q=>by
 have g:(0:Int)<j:=hc;exact mod_int' (by omega) (by rw[zf2 i (by omega)];exact q)
theorem ziU:OpR X (binaryOp .Pow) (rI zlt fun i j=>.int (i^j.toNat)):=opI fun _ _ _ _ _ _ _ hc q=>pow_int_small hc.1 hc.2.1 hc.2.2 q
theorem unI{f:Value->Sem Value}{g:Int->Int}
  (rule:∀(i:Int) (t:Tok) (s:Shared) (Q:Value->Shared->Prop) (E:Value->Shared->Prop),Q (.int (g i) s.toks) { s with toks:=s.toks+1 }->wpAny 0#b X.A (f (.int i t)) Q E s) :
  UnR X f (rU fun i=>.int (g i)):=by
 intro u s σ H x v Q I B h;obtain⟨i,rfl,q⟩:=h;obtain⟨t,rfl⟩:=B;exact rule i t s _ _ ⟨.int (g i),H,I.tok _,⟨_,rfl⟩,q⟩
theorem zac:UnR X (unaryOp .USub) (rU fun i=>.int (-i)):=unI fun _ _ _ _ _ q=>neg_int q
end
def zjT:V->V->Bool
 | .non,.non=>true | .non,.int _=>true | .int _,.non=>true | .non,.bl _=>true | .bl _,.non=>true | .non,.str _=>true | .str _,.non=>true
 | .int _,.int _=>true | .bl _,.bl _=>true | .str _,.str _=>true | .byt _,.byt _=>true
 | .int _,.str _=>true | .str _,.int _=>true | .bl _,.str _=>true | .str _,.bl _=>true
 | _,_=>false
def rEq:R2:=fun x y H Q=>zjT x y=true/\Q (.bl (decide (x=y))) H
def rNe:R2:=fun x y H Q=>zjT x y=true/\Q (.bl (!decide (x=y))) H
theorem zcx{i j:Int}:decide (V.int i=V.int j)=(i==j):=by
 rw[vU];simp
theorem zfK{i j:Bool}:decide (V.bl i=V.bl j)=(i==j):=by
 rw[vU];simp
theorem zcw{i j:Str}:decide (V.str i=V.str j)=(i==j):=by
 rw[vU];simp
theorem zcy{i j:Array UInt8}:decide (V.byt i=V.byt j)=(i.toList==j.toList):=by
 rw[vU];cases i;cases j;simp
section
variable{X:Cx}{a b c:Expr}{g l A:TE}{w:Pos}
theorem qv{o:List (Addr×Obj)}{σ:St}{H:Hp}{s:Shared}{Q:VK}{k t:Bool}(I:Inv X o σ H s)(q:Q (.bl k) H)(e:k=t):EP X o σ Q (.bool t) s:=by
 subst e;exact⟨.bl k,H,I,rfl,q⟩
theorem xQ:OpR X (compareOp .Eq) rEq:=by
 intro G s σ H x y v u Q I E o h;obtain⟨D,q⟩:=h;cases x with
 | non=>
  cases E;cases y with
  | non=>cases o;exact PySem.EqNone.eq_none_none 0#q
  | bl j=>cases o;exact PySem.EqNone.eq_none_bool 0#q
  | int j=>obtain⟨B,rfl⟩:=o;exact PySem.EqNone.eq_none_int 0#q
  | str j=>obtain⟨B,rfl⟩:=o;exact PySem.EqNone.eq_none_str 0#q
  | _=>exact absurd (show false=true from D) qU
 | bl i=>
  cases E;cases y with
  | non=>cases o;exact PySem.EqNone.eq_bool_none 0#q
  | bl j=>cases o;exact eq_bool (qv I q zfK)
  | str j=>obtain⟨B,rfl⟩:=o;exact PySem.EqMixed.eq_bool_str 0#q
  | _=>exact absurd (show false=true from D) qU
 | int i=>
  obtain⟨t,rfl⟩:=E;cases y with
  | non=>cases o;exact PySem.EqNone.eq_int_none 0#q
  | int j=>obtain⟨B,rfl⟩:=o;exact eq_int (qv I q zcx)
  | str j=>obtain⟨B,rfl⟩:=o;exact PySem.EqMixed.eq_int_str 0#q
  | _=>exact absurd (show false=true from D) qU
 | str i=>
  obtain⟨t,rfl⟩:=E;cases y with
  | non=>cases o;exact PySem.EqNone.eq_str_none 0#q
  | bl j=>cases o;exact PySem.EqMixed.eq_str_bool 0#q
  | int j=>obtain⟨B,rfl⟩:=o;exact PySem.EqMixed.eq_str_int 0#q
  | str j=>obtain⟨B,rfl⟩:=o;exact eq_str (qv I q zcw)
  | _=>exact absurd (show false=true from D) qU
 | byt i=>
  obtain⟨t,rfl⟩:=E;cases y with
  | byt j=>obtain⟨B,rfl⟩:=o;exact PySem.W.eq_bytes (qv I q zcy)
  | _=>exact absurd (show false=true from D) qU
 | _=>cases y<;>exact absurd (show false=true from D) qU
theorem YA:OpR X (compareOp .NotEq) rNe:=by
 intro G s σ H x y v u Q I E o h;obtain⟨D,q⟩:=h;cases x with
 | non=>
  cases E;cases y with
  | non=>cases o;exact PySem.EqNone.ne_none_none 0#q
  | bl j=>cases o;exact PySem.EqNone.ne_none_bool 0#q
  | int j=>obtain⟨B,rfl⟩:=o;exact PySem.EqNone.ne_none_int 0#q
  | str j=>obtain⟨B,rfl⟩:=o;exact PySem.EqNone.ne_none_str 0#q
  | _=>exact absurd (show false=true from D) qU
 | bl i=>
  cases E;cases y with
  | non=>cases o;exact PySem.EqNone.ne_bool_none 0#q
  | bl j=>cases o;exact ne_bool (qv I q (congrArg not zfK))
  | str j=>obtain⟨B,rfl⟩:=o;exact PySem.EqMixed.ne_bool_str 0#q
  | _=>exact absurd (show false=true from D) qU
 | int i=>
  obtain⟨t,rfl⟩:=E;cases y with
  | non=>cases o;exact PySem.EqNone.ne_int_none 0#q
  | int j=>obtain⟨B,rfl⟩:=o;exact ne_int (qv I q (congrArg not zcx))
  | str j=>obtain⟨B,rfl⟩:=o;exact PySem.EqMixed.ne_int_str 0#q
  | _=>exact absurd (show false=true from D) qU
 | str i=>
  obtain⟨t,rfl⟩:=E;cases y with
  | non=>cases o;exact PySem.EqNone.ne_str_none 0#q
  | bl j=>cases o;exact PySem.EqMixed.ne_str_bool 0#q
  | int j=>obtain⟨B,rfl⟩:=o;exact PySem.EqMixed.ne_str_int 0#q
  | str j=>obtain⟨B,rfl⟩:=o;exact ne_str (qv I q (congrArg not zcw))
  | _=>exact absurd (show false=true from D) qU
 | byt i=>
  obtain⟨t,rfl⟩:=E;cases y with
  | byt j=>obtain⟨B,rfl⟩:=o;exact PySem.W.ne_bytes (qv I q (congrArg not zcy))
  | _=>exact absurd (show false=true from D) qU
 | _=>cases y<;>exact absurd (show false=true from D) qU
theorem zcf:OpR X (compareOp .Lt) (rI0 fun i j=>.bl (decide (i<j))):=zgH fun _ _ _ _ _ _ _ q=>lt_int q
theorem Vg:OpR X (compareOp .LtE) (rI0 fun i j=>.bl (decide (i<=j))):=zgH fun _ _ _ _ _ _ _ q=>le_int q
theorem zh3:OpR X (compareOp .Gt) (rI0 fun i j=>.bl (decide (j<i))):=zgH fun _ _ _ _ _ _ _ q=>gt_int q
theorem zh4:OpR X (compareOp .GtE) (rI0 fun i j=>.bl (decide (j<=i))):=zgH fun _ _ _ _ _ _ _ q=>ge_int q
inductive QR(x:V)(y:V)(H:Hp)(Q:VK):Prop
 | mk (i j:_) (_:x=.str i) (_:y=.str j) (_:Q (.bl (!(Builtin.Str.occurrences j i 0 j.length 1).isEmpty)) H):QR x y H Q
theorem zdq:OpR X (compareOp .In) (QR):=by
 intro o s σ H x y v u Q I B D h;obtain⟨i,j,rfl,rfl,q⟩:=h;obtain⟨t,rfl⟩:=B;obtain⟨E,rfl⟩:=D;exact in_str (qv I q rfl)
theorem JR:OpR X (compareOp .Is) (fun x y H Q=>y=.non/\Q (.bl (decide (x=.non))) H):=by
 intro o s σ H x y v u Q I B D h;obtain⟨rfl,q⟩:=h;cases D;refine is_none_gen (qv I q ?_)
 cases x<;>first
  | (cases B;rfl)
  | (obtain⟨t,rfl⟩:=B;rfl)
theorem zgG:OpR X (compareOp .IsNot) (fun x y H Q=>y=.non/\Q (.bl (!decide (x=.non))) H):=by
 intro o s σ H x y v u Q I B D h;obtain⟨rfl,q⟩:=h;cases D;refine isnot_none_gen (qv I q ?_)
 cases x<;>first
  | (cases B;rfl)
  | (obtain⟨t,rfl⟩:=B;rfl)
theorem z7(b:Expr){o:CmpOp}(h:o≠.In:=by decide)(s:o≠.NotIn:=by decide):behindInMarks o b=false:=by
 have e1:(o==CmpOp.In)=false:=by cases o<;>first| rfl | exact absurd rfl h
 have e2:(o==CmpOp.NotIn)=false:=by cases o<;>first| rfl | exact absurd rfl s
 cases b<;>simp[behindInMarks,e1,e2]
theorem qN{t:CmpOp}{r:R2}(J:OpR X (compareOp t) r)(E:PE X a g)(hb:PE X b l)(G:behindInMarks t b=false):PE X (.Compare a [t] [b] w) (tOp r g l):=by
 intro o s σ H Q I h;exact wpAny_Compare1 (zjx E hb I h fun v u s2 x y B D L M q=>J o s2 σ B x y v u Q D L M q) G
def zhv(t:TE):TT:=fun σ H Q=>t σ H fun x o=>IsB x o Q
theorem qC{t:CmpOp}{r:R2}(O:OpR X (compareOp t) r)(M:PE X a g)(hb:PE X b l)(N:behindInMarks t b=false):PT X (.Compare a [t] [b] w) (zhv (tOp r g l)):=by
 intro o s σ H Q I h;refine wpAny_isTrue_Compare1 (thn (M o s σ H _ I h) fun v s1 ⟨x,B,G,r1,T⟩=>thn (hb o s1 σ B _ G T) fun u s2 ⟨y,D,J,r2,U⟩=>
  thn (O o s2 σ D x y v u _ J r1 r2 U) fun c s3 ⟨z,E,L,r3,k,e,Y⟩=>?_) N
 subst e;cases r3;exact yA ⟨E,L,Y⟩
def zee(r B:R2)(g l A:TE):TE:=fun σ H Q=>g σ H fun x s=>l σ s fun y t=>r x y t fun z o=>∃k,z=.bl k /\
 (if k=true then A σ o fun D u=>B y D u Q else Q (.bl false) o)
theorem zeZ{D t:CmpOp}{r L:R2}(ho:OpR X (compareOp D) r)(B:OpR X (compareOp t) L)(ha:PE X a g)(hb:PE X b l)(hc:PE X c A)
  (hm:lastMarks [D,t] [b,c]=false:=by with_unfolding_all rfl):PE X (.Compare a [D,t] [b,c] w) (zee r L g l A):=by
 intro o s σ H Q I h;refine Compare_chain (thn (ha o s σ H _ I h) fun v s1 ⟨x,N,U,r1,q1⟩=>chain_link (thn (hb o s1 σ N _ U q1) fun u s2 ⟨y,O,Y,M,q2⟩=>
  thn (ho o s2 σ O x y v u _ Y r1 M q2) fun d s3 ⟨z,E,G,r3,k,e,J⟩=>?_)) hm
 subst e;cases r3;refine yA ?_
 cases k with
 | false=>exact ite_ff ⟨.bl false,E,G,rfl,J⟩
 | true=>exact ite_tt (chain_last (thn (hc o s3 σ E _ G J) fun w' s4 ⟨z',T,I4,r4,q4⟩=>B o s4 σ T y z' u w' Q I4 M r4 q4))
theorem zeP{D t:CmpOp}{r L:R2}(ho:OpR X (compareOp D) r)(B:OpR X (compareOp t) L)(ha:PE X a g)(hb:PE X b l)(hc:PE X c A)
  (hm:lastMarks [D,t] [b,c]=false:=by with_unfolding_all rfl):PT X (.Compare a [D,t] [b,c] w) (zhv (zee r L g l A)):=by
 intro o s σ H Q I h;refine isTrue_chain (thn (ha o s σ H _ I h) fun v s1 ⟨x,N,Y,r1,q1⟩=>test_link (thn (hb o s1 σ N _ Y q1) fun u s2 ⟨y,O,I2,M,q2⟩=>
  thn (ho o s2 σ O x y v u _ I2 r1 M q2) fun d s3 ⟨z,E,G,r3,k,e,J⟩=>?_)) hm
 subst e;cases r3;refine yA ?_
 cases k with
 | false=>
  obtain⟨k',e',q'⟩:=J;cases e';exact ite_ff ⟨E,G,q'⟩
 | true=>
  refine ite_tt (test_last (thn (hc o s3 σ E _ G J) fun w' s4 ⟨z',T,I4,r4,q4⟩=>thn (B o s4 σ T y z' u w' _ I4 M r4 q4) fun d' s5 ⟨z2,U,I5,r5,k2,e2,q5⟩=>?_))
  subst e2;cases r5;exact yA ⟨U,I5,q5⟩
theorem Qe:(sizeLine:Nat)<2^63:=by rw[sizeLine_eq];decide
inductive ZZ(x:V)(y:V)(H:Hp)(Q:VK):Prop
 | mk (i j:_) (_:x=.str i) (_:y=.str j) (_:i.length+j.length<=sizeLine) (_:Q (.str (i++j)) H):ZZ x y H Q
theorem zav:OpR X (binaryOp .Add) (ZZ):=by
 intro o s σ H x y v u Q I D E h;obtain⟨i,j,rfl,rfl,B,q⟩:=h;obtain⟨t,rfl⟩:=D;obtain⟨G,rfl⟩:=E;exact add_str (fun G J=>⟨.str (i++j),H,I.tok _,⟨_,rfl⟩,q⟩) B
theorem vy{x:V}{o:List Value}(r:Vals [x] o):∃u,o=[u]/\RelV x u:=by
 cases r with
 | cons s t=>cases t;exact⟨_,rfl,s⟩
theorem Jr{x y:V}{o:List Value}(r:Vals [x,y] o):∃u s,o=[u,s]/\RelV x u/\RelV y s:=by
 cases r with
 | cons t B=>
  cases B with
  | cons D E=>cases E;exact⟨_,_,rfl,t,D⟩
inductive XH(o:List V)(H:Hp)(Q:VK):Prop
 | mk (i:_) (_:o=[.int i]) (_:Q (.int (if i<0 then -i else i)) H):XH o H Q
theorem wn:jE X (.builtin "abs") (XH):=by
 intro o s σ H E D Q I r h;obtain⟨i,rfl,q⟩:=h;obtain⟨u,rfl,t,rfl⟩:=vy r;exact call_abs_int fun u B=>⟨.int (if i<0 then -i else i),H,I.tok _,⟨_,rfl⟩,q⟩
inductive QY(o:List V)(H:Hp)(Q:VK):Prop
 | mk (i j:_) (_:o=[.int i,.int j]) (_:Q (.int (if j>i then j else i)) H):QY o H Q
theorem Qj(hc:X.calm=true):jE X (.builtin "max") (QY):=by
 intro B s σ H M J Q I r h;obtain⟨i,j,rfl,q⟩:=h;obtain⟨u,L,rfl,⟨t,rfl⟩,⟨E,rfl⟩⟩:=Jr r;refine max_two_ints (I.ok.hd hc) fun D G k=>⟨_,H,I.kept k,?_,q⟩
 by_cases o:j>i
 ·rw[zu o,zu o];exact⟨_,rfl⟩
 ·rw[zk o,zk o];exact⟨_,rfl⟩
inductive QX(o:List V)(H:Hp)(Q:VK):Prop
 | mk (i j:_) (_:o=[.int i,.int j]) (_:Q (.int (if j<i then j else i)) H):QX o H Q
theorem Vu(hc:X.calm=true):jE X (.builtin "min") (QX):=by
 intro B s σ H M J Q I r h;obtain⟨i,j,rfl,q⟩:=h;obtain⟨u,L,rfl,⟨t,rfl⟩,⟨E,rfl⟩⟩:=Jr r;refine min_two_ints (I.ok.hd hc) fun D G k=>⟨_,H,I.kept k,?_,q⟩
 by_cases o:j<i
 ·rw[zu o,zu o];exact⟨_,rfl⟩
 ·rw[zk o,zk o];exact⟨_,rfl⟩
theorem Vw:jE X (.type "int") (fun o H Q=>(∃i,o=[.int i]/\Q (.int i) H)\/∃k,o=[.bl k]/\Q (.int (if k then 1 else 0)) H):=by
 intro B s σ H o E Q I r h;rcases h with ⟨i,rfl,q⟩ | ⟨k,rfl,q⟩
 ·obtain⟨u,rfl,t,rfl⟩:=vy r
  exact call_int_int ⟨.int i,H,I,⟨_,rfl⟩,q⟩
 ·obtain⟨u,rfl,D⟩:=vy r
  cases D;exact call_int_bool ⟨.int (if k then 1 else 0),H,I.tok _,⟨_,rfl⟩,q⟩
inductive Za(o:List V)(H:Hp)(Q:VK):Prop
 | mk (i j:_) (_:o=[.int i,.int j]) (_:zkZ i j) (_:∀p,H p=none->Q (.ref p) (upd H p (.tup [.int (i/j),.int (i % j)]))):Za o H Q
theorem Y5:jE X (.builtin "divmod") (Za):=by
 intro B s σ H N L Q I r h;obtain⟨i,j,rfl,⟨E,G⟩,q⟩:=h;obtain⟨u,M,rfl,⟨t,rfl⟩,⟨J,rfl⟩⟩:=Jr r;refine divmod_int (by omega) ?_ (.inl (PyProof.noPylong_small (by omega)))
 rw[zf3 i (by omega),zf2 i (by omega)]
 have D:H s.heap.objs.size=none:=I.hok.fresh (zD _);refine⟨.ref s.heap.objs.size,_,?_,rfl,q _ D⟩
 refine I.laid (fun b o e=>zN _ e) (zD _) ⟨by simp only[jJ,Zr];rw[sizeLine_eq];decide,[.int (i/j) s.toks,.int (i % j) (s.toks+1)],.cons ⟨_,rfl⟩ (.cons ⟨_,rfl⟩ .nil),?_⟩
 exact⟨⟨_,zL s.heap rfl,rfl,0,rfl⟩,_,zL s.heap rfl,rfl⟩
end
structure ObjM(h:Heap)(x dx C:Addr)(mA:Str->Option Value):Prop where
 obj:h.get? x=some (PySem.W.instObj C dx)
 ns:h.Ns1 dx mA
 ne:dx≠x
section
variable{g:Program}{w:World}{A:Around}{E:Value->Shared->Prop}{s:Shared}{K:W.Frag}{x l C f:Addr}{o:Str->Option Value}{c:Str}{v:Value}
end
theorem RelO.some_of{v:V}{o:Option Value}(r:RelO (some v) o):∃u,o=some u/\RelV v u:=by
 cases o with
 | none=>exact(show False from r).elim
 | some u=>exact⟨u,rfl,r⟩
section
variable{P:Program}{w:World}{H g:Hp}{h o:Heap}{a C l:Addr}{fs c:List (Str×V)}
end
structure Cls(K:W.Frag)(C:Addr):Prop where
 pg:PySem.W.plainGet K C Str.empty=true
 hd:PySem.W.hasDictIn K C=true
 po:PySem.W.plainOver K C=true
 sa:PySem.W.findIn K (.ref C) "__setattr__" = some (some (.builtin "object.__setattr__"))
structure Con(K:W.Frag)(C:Addr)(f:Str)(v:V)(u:Value):Prop where
 at_:PySem.W.findIn K (.ref C) f=some (some u)
 rel:RelV v u
 get:PySem.W.specialIn K u "__get__" = some none
 cp:PySem.W.copiedNames.contains f=false
structure Meth(K:W.Frag)(C:Addr)(m:Str)(f:Addr):Prop where
 at_:PySem.W.findIn K (.ref C) m=some (some (.ref f))
 fn:PySem.W.isFn K (.ref f)=true
 kp:PySem.W.keepIn K (.ref f)=true
section
variable{X:Cx}{c:List (Addr×Obj)}{σ:St}{H:Hp}{s:Shared}{a C g:Addr}{fs:List (Str×V)}{f:Str}{v:V}{A:Around}{E:Value->Shared->Prop}
end
section
variable{X:Cx}{o e c:Expr}{f:Str}{s g l:Pos}{t u:TE}
end
section
variable{X:Cx}{g:List (Addr×Obj)}{σ:St}{H:Hp}{s:Shared}{A:Around}{E:Value->Shared->Prop}{Q:Value->Shared->Prop}{c:Value}{b:Bool}
inductive XF(K:W.Frag)(H:Hp):V->Value->Prop where
 | non:XF K H .non (.type "NoneType")
 | bl (x:Bool):XF K H (.bl x) (.type "bool")
 | int (i:Int):XF K H (.int i) (.type "int")
 | str (x:Str):XF K H (.str x) (.type "str")
 | flt (x:UInt64):XF K H (.flt x) (.type "float")
 | lst {a:Addr} {t:List V} (e:H a=some (.lst t)):XF K H (.ref a) (.type "list")
 | frz {a:Addr} {o:Obj} {t:List V} (e:H a=some (.frz o (.lst t))):XF K H (.ref a) (.type "list")
 | tup {a:Addr} {t:List V} (e:H a=some (.tup t)):XF K H (.ref a) (.type "tuple")
 | dK {a:Addr} {l:List (Key×V)} (e:H a=some (.dK l)):XF K H (.ref a) (.type "dict")
 | dT {a:Addr} {l:List (List Key×V)} (e:H a=some (.dT l)):XF K H (.ref a) (.type "dict")
 | ins {a C u:Addr} {fs:List (Str×V)} (e:H a=some (.ins C u fs)) (B:Cls K C) (D:PySem.W.findIn K (.ref C) "__class__" = some (some (.builtin "object.__class__")))
   (I:PySem.W.specialIn K (.builtin "object.__class__") "__get__" = some (some (.builtin "getset_descriptor.__get__"))) (w:PySem.W.takesIn K (.builtin "object.__class__")=some true)
   (G:PySem.W.mroIn K C (.type "object")=some true):XF K H (.ref a) (.ref C)
end
structure Room(k:Nat)(A:Around):Prop where
 hd:A.handled=none
 dp:A.depth+3*k+5<recursionLimit
 un:A.units+16*k+200<cLine
 gd:A.guards=some []
theorem Room.mono{j k:Nat}{A:Around}(r:Room k A)(h:j<=k):Room j A:=⟨r.hd,by have:=r.dp;omega,by have:=r.un;omega,r.gd⟩
theorem Room.m{j k:Nat}{A:Around}(r:Room k A)(h:j<=k:=by decide):Room j A:=r.mono h
theorem Room.deeper{k:Nat}{A:Around}(r:Room (k+1) A)(c:Env):Room k (A.deeper c):=
 ⟨r.hd,by have:=r.dp;show A.depth+1+3*k+5<_;omega,by have:=r.un;show A.units+3+16*k+200<_;omega,r.gd⟩
theorem Room.depth{k:Nat}{A:Around}(r:Room k A):A.depth<recursionLimit:=by have:=r.dp;omega
theorem Room.units{k:Nat}{A:Around}(r:Room k A):A.units+64<cLine:=by have:=r.un;omega
theorem Room.units0{k:Nat}{A:Around}(r:Room k A):A.units<cLine:=by have:=r.un;omega
def zim:TA:=fun _ H Q=>Q [] H
def vX(l:TE)(o:TA):TA:=fun σ H Q=>l σ H fun x c=>o σ c fun s g=>Q (x::s) g
section
variable{X:Cx}{e:Expr}{g:List Expr}{l:TE}{t:TA}{c:Pos}
theorem zb:PA X [] zim:=fun _ _ _ _ H Q I h=>Xv ⟨[],H,I,.nil,h⟩
theorem za(E:PE X e l)(G:PA X g t)(J:starEach (e::g) X.env=(false,eval e X.env)::starEach g X.env:=by rfl):PA X (e::g) (vX l t):=by
 intro c o s σ H Q I h;rw[J];show wpAny _ _ (spliced ((false,eval e X.env)::backTo c (starEach g X.env))) _ _ s;refine Zw (thn (E o s σ H _ I h) fun u s1 ⟨x,w,B,N,L⟩=>?_)
 exact thn (G c o s1 σ w _ B L) fun U s2 ⟨T,A,D,O,M⟩=>⟨x::T,A,D,.cons N O,M⟩
def zk2(t:TA):TE:=fun σ H Q=>t σ H fun s o=>s.length<=sizeLine/\∀p,o p=none->Q (.ref p) (upd o p (.tup s))
def zk7(t:TA):TE:=fun σ H Q=>t σ H fun s o=>s.length<=sizeLine/\∀p,o p=none->Q (.ref p) (upd o p (.lst s))
theorem jB{E}(h:PA X g t):PE X (.Tuple g E c) (zk2 t):=by
 intro o s σ H Q I hq;refine wpAny_Tuple_spliced (thn (h c o s σ H _ I hq) fun D s1 ⟨G,w,A,r,z,q⟩=>⟨by rw[<- r.length];exact z,?_⟩)
 have B:w s1.heap.objs.size=none:=A.hok.fresh (zD _);refine⟨.ref s1.heap.objs.size,upd w s1.heap.objs.size (.tup G),A.laid (t':=s1.toks) (fun b u e=>zN _ e) (zD _) ?_,rfl,q _ B⟩
 exact⟨z,D,r,⟨_,zL _ rfl,rfl,_,rfl⟩,_,zL _ rfl,rfl⟩
theorem qQ(h:PA X g t):PE X (.List g c) (zk7 t):=by
 intro o s σ H Q I hq;refine wpAny_List_spliced (thn (h c o s σ H _ I hq) fun D s1 ⟨E,w,A,r,z,q⟩=>⟨by rw[<- r.length];exact z,?_⟩)
 have B:w s1.heap.objs.size=none:=A.hok.fresh (zD _);refine⟨.ref s1.heap.objs.size,upd w s1.heap.objs.size (.lst E),A.laid (t':=s1.toks) (fun b u e=>zN _ e) (zD _) ?_,rfl,q _ B⟩
 exact⟨z,D,0,r,zL _ rfl⟩
end
abbrev Sp:=List V->Hp->VK->XK->Prop
abbrev CXT:=List Env->Hp->Shared->XK->Value->Shared->Prop
structure zhs(P:Program)(w:World)(K:W.Frag)(mg:Str->Option Value)(base:Heap)(A:Around)(outer:List Env)(s:Shared)(H:Hp):Prop where
 frames:A.frames=some outer
 mod:Mod K mg base
 bs:∀b o,base.get? b=some o->s.heap.get? b=some o/\H b=none
 bsz:base.objs.size<=s.heap.objs.size
 funs:s.heap.FunFrames base outer
 frf:∀b∈frs outer,H b=none
 hok:HOk P w H s.heap
 bare:AllBare s.gens
def CE(c:List Env)(P:Program)(w:World)(H:Hp)(s:Shared)(Q:VK)(u:Value)(g:Shared):Prop:=
 ∃v l,g.os=s.os/\AllBare g.gens/\Un (frs c) [] H l s.heap g.heap/\HOk P w l g.heap/\RelV v u/\Q v l
def CR(l:CXT)(c:List Env)(P:Program)(w:World)(H:Hp)(s:Shared)(Q:VK)(E:XK)(r:Result)(g:Shared):Prop:=
 match r with
 | .ok (.ret u)=>CE c P w H s Q u g
 | .ok _=>False
 | .error e=>l c H s E e g
structure qA(P:Program)(w:World)(K:W.Frag)(mg:Str->Option Value)(base:Heap)(CX:CXT)(k:Nat)(f:Addr)(fd:FuncData)(ps:List Str)(sp:Sp):Prop where
 len:∀vs H Q E,sp vs H Q E->vs.length=ps.length
 run:∀(A:Around) (outer:List Env) (s:Shared) (H:Hp) (args:Args) (us:List Value) (vs:List V) (Q:VK) (E:XK),Room k A->zhs P w K mg base A outer s H->BindsTo s fd args (ps.zip us)->Vals vs us->sp vs H Q E ->
  codeAny (model P w) A (.call (.ref f) args) (CR CX outer P w H s Q E) s
section
variable{X:Cx}{c:List (Addr×Obj)}{σ:St}{H:Hp}{s l:Shared}
theorem Inv.env0(I:Inv X c σ H s):zhs X.prog X.w X.K X.mg X.base X.A X.stack s H:=
 ⟨I.ok.frames,I.ok.mod,I.bs,xa I.ok.bsz I.sz,I.stack,I.stkFree,I.hok,I.bare⟩
theorem Inv.after{Q:VK}{u:Value}(I:Inv X c σ H s)(h:CE X.stack X.prog X.w H s Q u l):EP X c σ Q u l:=by
 obtain⟨v,B,os,o,un,w,r,q⟩:=h;obtain⟨D,g,d,t,A⟩:=l;obtain rfl:A=s.os:=os;exact⟨v,B,I.call (h':=D) (g':=g) (d':=d) (t':=t) (ch:=[]) un w o (fun b z=>absurd z (by simp)),r,q⟩
end
def zhw(l:Sp)(c:List V)(E:XK)(t:TA):TE:=fun σ H Q=>t σ H fun o g=>l (o++c) g Q E
def Binds(K:W.Frag)(o:FuncData)(l:List Str)(g:List Value):Prop:=
 ∀(s:Shared) (c:List Value),K.In s.heap->(c++g).length=l.length->BindsTo s o ⟨c,[]⟩ (l.zip (c++g))
theorem Binds.all{K:W.Frag}{l:FuncData}{g:List Str}(h:∀c:List Value,c.length=g.length->bindArgs l ⟨c,[]⟩=pure (g.zip c)):Binds K l g []:=fun s c _ o=>by
 rw[Qs] at o ⊢;exact .of_eq (h c o)
def zbl(l:CXT)(X:Cx)(E:XK):Prop:=∀(c:List (Addr×Obj)) (σ:St) (H:Hp) (s:Shared) (e:Value) (g:Shared),Inv X c σ H s->l X.stack H s E e g->X.xe e g
section
variable{X:Cx}{B:CXT}{k:Nat}{f C:Addr}{D:FuncData}{A:List Str}{G:Sp}{c:List V}{g:List Value}{E:XK}{x m:Str}{p l J:Pos}{e o:Expr}{w:List Expr}{L:TE}{t:TA}
theorem ziw{M:List (Addr×Obj)}{σ:St}{H:Hp}{s:Shared}{Q:VK}{N:List Value}{O:List V}(F:qA X.prog X.w X.K X.mg X.base B k f D A G)(hr:Room k X.A)(hb:Binds X.K D A g)(hd:Vals c g)(hx:zbl B X E)
  (I:Inv X M σ H s) (r:Vals O N) (h:G (O++c) H Q E):wpAny 0#b X.A (call (.ref f) N) (EP X M σ Q) X.xe s:=by
 have T:Vals (O++c) (N++g):=r.append hd;have Y:(N++g).length=A.length:=by rw[<- T.length];exact F.len _ _ _ _ h
 refine wpAny_call (codeAny_mono (F.run X.A X.stack s H ⟨N,[]⟩ (N++g) (O++c) Q E hr I.env0 (hb s N I.kIn Y) T h) fun r s' hq=>?_)
 cases r with
 | error e=>exact hx M σ H s e s' I hq
 | ok U=>
  cases U with
  | ret u=>exact I.after hq
  | next=>exact False.elim hq
  | brk=>exact False.elim hq
  | cont=>exact False.elim hq
theorem zgF(F:qA X.prog X.w X.K X.mg X.base B k f D A G)(hr:Room k X.A)(hg:Gl X x)(Y:X.mg x=some (.ref f))(hk:PySem.W.keepIn X.K (.ref f)=true)(hb:Binds X.K D A g)(hd:Vals c g)(hx:zbl B X E)
  (T:PA X (e::w) t) (M:(x==("__debug__":Str))=false:=by decide) (U:starEach (e::w) X.env=(false,eval e X.env)::starEach w X.env:=by rfl) (N:(backTo l (starEach w X.env)).any (·.1)=false:=by rfl) :
  PE X (.Call (.Name x p) (e::w) [] l) (zhw G c E t):=by
 intro u s σ H Q I h;refine wpAny_Call_Name_kw (zcl I hg Y ?_ M)
 refine PySem.W.callWith_K (h₀:=X.base) I.ok.mod.kin hk (thn (T l u s σ H _ I h) fun us s1 ⟨vs,H1,O,r,q⟩=>⟨O.kIn,?_⟩) U N
 exact ziw F hr hb hd hx O r q
structure Mk(K:W.Frag)(C f:Addr):Prop where
 makes:PySem.W.makesIn K C=true
 init:PySem.W.findIn K (.ref C) "__init__" = some (some (.ref f))
 fn:PySem.W.isFn K (.ref f)=true
 kp:PySem.W.keepIn K (.ref C)=true
end
section
variable{X:Cx}{A:CXT}{k:Nat}{f C:Addr}{fd:FuncData}{ps ks:List Str}{G:Sp}{E:XK}{x m:Str}{p w c l:Pos}{e o:Expr}{B:List Expr}{u:List Keyword}{I H:TE}{t J:TA}{D:Option Str}
structure KBinds(K:W.Frag)(fd:FuncData)(ps ks:List Str)(g:List Value->List Value->List Value)(gV:List V->List V->List V):Prop where
 to:∀(s:Shared) (us ws:List Value),K.In s.heap->(g us ws).length=ps.length->BindsTo s fd ⟨us,ks.zip ws⟩ (ps.zip (g us ws))
 rel:∀{vs:List V} {us:List Value} {zs:List V} {ws:List Value},Vals vs us->Vals zs ws->Vals (gV vs zs) (g us ws)
variable{g:List Value->List Value->List Value}{gV:List V->List V->List V}
end
structure zE(N P:List Str)(sc:Scope):Prop where
 kind:sc.kind=.function
 co:sc.isCoroutine=false
 gen:sc.isGenerator=false
 nd:N.Nodup
 pre:N.take P.length=P
 par:∀x∈P,sc.names.lookup x=some .local\/sc.names.lookup x=some .cell
 nofree:∀y∈sc.names,y.2≠.free
theorem Vz{kindOf:Str->Option NameKind}{x:Str}:∀{c:List (Str×Value)} {m:Str->Option Value},(∀v,(x,v)∉c)->bindL kindOf c m x=m x
 | [],_,_=>rfl
 | (n,v)::r,m,h=>by
  unfold bindL;rw[Vz fun w g=>h w (z9 _ g)]
  split
  ·have:x≠n:=by rintro rfl;exact h v jK
   simp[this]
  ·rfl
theorem VB{kindOf:Str->Option NameKind}{x:Str}:∀{c:List (Str×Value)} {m:Str->Option Value},(∀v,(x,v)∉c)->bindC kindOf c m x=m x
 | [],_,_=>rfl
 | (n,v)::r,m,h=>by
  unfold bindC;rw[VB fun w g=>h w (z9 _ g)]
  split
  ·rfl
  ·have:x≠n:=by rintro rfl;exact h v jK
   simp[this]
theorem VA{kindOf:Str->Option NameKind}{x:Str}{v:Value}:∀{P:List Str} {c:List Value} {i:Nat} {m:Str->Option Value},P.Nodup->P[i]? =some x->c[i]? =some v->kindOf x=some .local ->
  bindL kindOf (P.zip c) m x=some v
 | [],_,_,_,_,h,_,_=>by simp at h
 | _::_,[],_,_,_,_,h,_=>by simp at h
 | p::P,w::c,0,m,o,g,l,hk=>by
  simp at g l;subst g;subst l
  show bindL kindOf ((p,w)::P.zip c) m p=_;unfold bindL;rw[Vz fun v hv=>(xA.mp o).1 (zaQ hv).1,zu hk]
  simp
 | p::P,w::c,i+1,m,o,g,l,hk=>by
  show bindL kindOf ((p,w)::P.zip c) m x=_;unfold bindL;exact VA (i:=i) (xA.mp o).2 (by simpa using g) (by simpa using l) hk
theorem VC{kindOf:Str->Option NameKind}{x:Str}{v:Value}:∀{P:List Str} {c:List Value} {i:Nat} {m:Str->Option Value},P.Nodup->P[i]? =some x->c[i]? =some v->kindOf x≠some .local ->
  bindC kindOf (P.zip c) m x=some v
 | [],_,_,_,_,h,_,_=>by simp at h
 | _::_,[],_,_,_,_,h,_=>by simp at h
 | p::P,w::c,0,m,o,g,l,hk=>by
  simp at g l;subst g;subst l
  show bindC kindOf ((p,w)::P.zip c) m p=_;unfold bindC;rw[VB fun v hv=>(xA.mp o).1 (zaQ hv).1,zk hk]
  simp
 | p::P,w::c,i+1,m,o,g,l,hk=>by
  show bindC kindOf ((p,w)::P.zip c) m x=_;unfold bindC;exact VC (i:=i) (xA.mp o).2 (by simpa using g) (by simpa using l) hk
def QG(N:List Str)(c:List V):St:=c.map some++List.replicate (N.length-c.length) none
def zdO(l:CXT)(P:Program)(w:World)(K:W.Frag)(mg:Str->Option Value)(base:Heap)(N:List Str)(qual:Str)(scope:Scope)(f:Addr)(g:Value)(A:Around)(outer:List Env)(s:Shared)(H:Hp)(E:XK):Cx where
 prog:=P
 w:=w
 K:=K
 mg:=mg
 base:=base
 A:=A.deeper (envOfC qual scope s.heap.objs.size f g)
 N:=N
 s₀:=s
 H₀:=H
 env:=envOfC qual scope s.heap.objs.size f g
 outer:=outer
 stack:=envOfC qual scope s.heap.objs.size f g::outer
 ex:=[]
 calm:=true
 fn:=fun _=>true
 pn:=[]
 xe:=fun e t=>wpAny (model P w) (A.deeper (envOfC qual scope s.heap.objs.size f g)) (leaving (envOfC qual scope s.heap.objs.size f g) e) (fun _ c=>l outer H s E e c) (fun o c=>l outer H s E o c) t
theorem Y4{g:Scope}{n:Nat}{x:Str}(h:g.names.lookup x=some .cell):∃c,(cellsFrom n g.names []).lookup x=some c:=by
 have q:=PySem.W.cellsFrom_some g.names n [] (.inl h);exact zbc.mp q
theorem zdG{U:CXT}{P:Program}{w:World}{K:W.Frag}{Q:Str->Option Value}{o:Heap}{N D:List Str}{qual:Str}{scope:Scope}{f:Addr}{L:Value}{A:Around}{g:List Env}{s s1:Shared}{H:Hp}{E:XK}{T:List Value}{G:List V}
  (S:zE N D scope) (hd:A.handled=none) (t:zhs P w K Q o A g s H) (hl:G.length=D.length) (r:Vals G T)
  (x:InCallC s s.heap.objs.size (bindL (envOfC qual scope s.heap.objs.size f L).kindOf (D.zip T) fun _=>none) (cellsFrom (s.heap.objs.size+1) scope.names []) (bindC (envOfC qual scope s.heap.objs.size f L).kindOf (D.zip T) fun _=>none) s1) :
  Inv (zdO U P w K Q o N qual scope f L A g s H E) [] (QG N G) H s1:=by
 have a0:D.length<=N.length:=by have:=congrArg List.length S.pre;rw[jv] at this;omega
 obtain⟨M,tk,rfl,hk⟩:=x.done;have B:∀b:Addr,b∉(zdO U P w K Q o N qual scope f L A g s H E).ex:=fun b z=>absurd (show b∈([]:List Addr) from z) (by simp)
 refine⟨⟨t.mod,S.kind,rfl,rfl,zD _,fun y z c M l=>?_,fun y hy=>?_,fun y c _ h=>?_,fun _=>hd,Around.frames_deeper t.frames,.inr ⟨rfl,rfl⟩,fun b z=>absurd z (B b),t.bs,t.bsz,fun b _ _=>B b,fun b z=>absurd z (B b),t.funs,t.frf⟩,
  rfl,t.bare,Un.kept hk,⟨_,x.toInCall.ns,fun i y v M l h3=>?_⟩,fun y c h=>⟨_,x.cell y c h⟩,t.hok.fresh (zD _),fun y c h=>?_,fun p I=>absurd (show p∈([]:List 0#l) from I) (by simp),t.hok.kept hk,?_⟩
 ·exact name_of_addr x.apart (vI M) (vI l)
 ·have hy:scope.names.lookup y=some .cell\/scope.names.lookup y=some .free:=hy
  rcases hy with hy | hy
  ·exact Y4 hy
  ·exact absurd rfl (S.nofree _ (vI hy))
 ·exact vp (x.above y c (vI h))
 ·have O:i<G.length:=by
   unfold QG at l;by_cases O:i<G.length
   ·exact O
   ·rw[vh (by simpa using O)] at l
    rw[List.getElem?_replicate] at l
    split at l<;>cases l
  have Y:G[i]? =some v:=by
   unfold QG at l;rw[wv (by simpa using O),zY] at l
   cases e:G[i]? with
   | none=>rw[e] at l;cases l
   | some a=>rw[e] at l;cases l;rfl
  obtain⟨u,hu,rv⟩:=r.get Y;have I:D[i]? =some y:=by
   rw[<- S.pre,List.getElem?_take_of_lt (by omega)];exact M
  have J:D.Nodup:=by rw[<- S.pre];exact S.nd.sublist (zaV _ _)
  refine⟨u,rv,?_⟩
  rcases S.par y (qw I) with k | k
  ·exact .inl ⟨k,VA J I hu k⟩
  ·obtain⟨c,e⟩:=Y4 (n:=s.heap.objs.size+1) k
   refine .inr ⟨.inl k,c,e,?_⟩
   have q:=x.cell y c e;rw[VC J I hu (by show scope.names.lookup y≠_;rw[k];decide)] at q
   exact q
 ·exact t.hok.fresh (vp (x.above y c (vI h)))
 ·unfold QG
  show _=N.length;rw[qz,zv,xF];omega
theorem zkO{CX:CXT}{P:Program}{w:World}{K:W.Frag}{mg:Str->Option Value}{l:Heap}{k:Nat}{f:Addr}{L qual:Str}{B:Arguments}{body:List Stmt}{scope:Scope}{dV kV U pm g ct oc:Value}{an od:Option Addr}
  {a5:Array (Option Value)} {N ps:List Str} {sp:Sp} (lk:K.lookup f=some ⟨oc,od,.func (PySem.W.fnOf L qual B body scope dV kV U pm an g ct),a5⟩) (a3:PySem.W.codeIn K g qual=true) (S:zE N ps scope)
  (a2:∀D H Q E,sp D H Q E->D.length=ps.length)
  (M:∀(A:Around) (c:List Env) (s:Shared) (H:Hp) (D:List V) (Q:VK) (E:XK),Room k (A.deeper (envOfC qual scope s.heap.objs.size f g))->sp D H Q E ->
   ∃t,PSs (zdO CX P w K mg l N qual scope f g A c s H E) body t/\t { nx:=fun _ G=>Q .non G,rt:=Q } (QG N D) H) :
  qA P w K mg l CX (k+1) f (PySem.W.fnOf L qual B body scope dV kV U pm an g ct) ps sp:=by
 refine⟨a2,fun A c s H args us D Q E hr Y hb r a1=>?_⟩
 have hl:=a2 _ _ _ _ a1;have KX:K.In s.heap:=Y.mod.kin.keeps fun b o e=>(Y.bs b o e).1
 have a4:s.heap.NoLimit:=Y.mod.nolimit.keeps fun b o e=>(Y.bs b o e).1
 have O:∀y∈ps.zip us,scope.names.lookup y.1=some .local\/(scope.names.lookup y.1=some .cell/\((cellsFrom (s.heap.objs.size+1) scope.names []).lookup y.1).isSome=true):=fun ⟨n,v⟩ hy=>by
  rcases S.par n (zaQ hy).1 with q | q
  ·exact .inl q
  ·exact .inr ⟨q,PySem.W.cellsFrom_some _ _ _ (.inl q)⟩
 refine codeAny_call_function hr.depth (KX _ _ lk) rfl S.co S.gen rfl (PySem.W.codeRec_of KX a3) (hb _ _ _ _ ?_)
 refine wpAny_newFunctionEnv_cells S.kind O fun a6 he s1 x=>?_
 subst he;refine⟨a4.keeps x.toInCall.keep,codeAny_func ?_⟩
 obtain⟨t,ht,hq⟩:=M A c s H D Q E (hr.deeper _) a1;have I:Inv (zdO CX P w K mg l N qual scope f g A c s H E) [] (QG N D) H s1:=zdG S hr.hd Y hl r x;refine jt (ht [] s1 (QG N D) H _ I hq) (fun fl s' T=>?_) fun e s' T=>T
 have a0:∀{σ':St} {G:Hp} {v:V} {u:Value},Inv (zdO CX P w K mg l N qual scope f g A c s H E) [] σ' G s'->RelV v u->Q v G->CE c P w H s Q u s':=
  fun {σ' G v u} J rv q=>⟨v,G,J.os,J.bare,J.base,J.hok,rv,q⟩
 cases fl with
 | ret u=>
  obtain⟨v,σ',G,J,rv,q⟩:=T;exact a0 J rv q
 | next=>
  obtain⟨σ',G,J,q⟩:=T;exact a0 (v:=V.non) (u:=Value.none) J rfl q
 | brk=>
  obtain⟨_,_,_,q⟩:=T;exact False.elim q
 | cont=>
  obtain⟨_,_,_,q⟩:=T;exact False.elim q
section
variable{X:Cx}{x:Str}{p c:Pos}{e:Expr}{g:List Expr}{t:TA}{id T:String}{r:List V->Hp->VK->Prop}
def tCB(r:List V->Hp->VK->Prop)(t:TA):TE:=fun σ H Q=>t σ H fun o l=>r o l Q
theorem zw(hc:jE X (.builtin id) r)(hg:Gl X x)(E:X.mg x=none)(hv:bootBuiltins x=some (.builtin id))(B:PA X (e::g) t)(G:x ≠ "__name__" :=by decide)(o:(x==("__debug__":Str))=false:=by decide)
  (D:starEach (e::g) X.env=(false,eval e X.env)::starEach g X.env:=by rfl) (u:(backTo c (starEach g X.env)).any (·.1)=false:=by rfl):PE X (.Call (.Name x p) (e::g) [] c) (tCB r t):=by
 intro l s σ H Q I h;refine wpAny_Call_Name_kw (vP I hg E hv ?_ G o)
 exact PyProof.Rows.callWith_builtin1 (thn (B c l s σ H _ I h) fun M s1 ⟨N,w,A,L,J⟩=>hc l s1 σ w N M Q A L J) D u
theorem qO(hc:jE X (.type T) r)(hg:Gl X x)(E:X.mg x=none)(hv:bootBuiltins x=some (.type T))(B:PA X (e::g) t)(G:x ≠ "__name__" :=by decide)(o:(x==("__debug__":Str))=false:=by decide)
  (D:starEach (e::g) X.env=(false,eval e X.env)::starEach g X.env:=by rfl) (u:(backTo c (starEach g X.env)).any (·.1)=false:=by rfl):PE X (.Call (.Name x p) (e::g) [] c) (tCB r t):=by
 intro l s σ H Q I h;refine wpAny_Call_Name_kw (vP I hg E hv ?_ G o)
 exact Xk (thn (B c l s σ H _ I h) fun M s1 ⟨N,w,A,L,J⟩=>hc l s1 σ w N M Q A L J) D u
end
end L2
namespace HT
open PySem PyProof.Rows
section
open PySem.SeqAt
open PySem.AutoSeq1 (wpAny_loadPart')
open PySem.MeetsSeq PySem.MeetsSeq2 PySem.MeetsSeq3
end
section
variable{c:Program}{w:World}{A:Around}{E:Value->Shared->Prop}{s:Shared}
theorem cat_tup{t b:Addr}{o g:List Value}{Q:Value->Shared->Prop}(Y:IsTup s.heap t o.toArray)(hb:IsTup s.heap b g.toArray)(hv:o≠[])
  (T:g=[]->Q (.ref t) s) (U:g≠[]->Q (.ref s.heap.objs.size) { s with heap:=s.heap.push { cls:=.type "tuple",data:=.seq (o++g).toArray } })
  (J:o.length+g.length<=sizeLine):wpAny 0#e A (binaryOp .Add (.ref t) (.ref b)) Q E s:=by
 obtain⟨⟨cls,M,data,O⟩,H,hc,n,hd⟩:=id Y;obtain⟨⟨L,u,data2,G⟩,l,B,N,D⟩:=id hb;simp only at hc hd B D;subst hc hd B D;have e:o.toArray++g.toArray=(o++g).toArray:=by simp
 by_cases I:g=[]
 ·exact concat_meets ⟨_,H,rfl⟩ ⟨_,l,rfl⟩ noFill_tuple_add seq_tuple_add PySem.F.slot_tuple_add PySem.F.entry_tuple_add (PySem.F.args_tuple_add_2 _ _)
   (tuple_addW1 t b o.toArray g.toArray n N M u O G (by simpa using hv) (by simp[I])) ⟨H,l,T I⟩
 ·refine concat_meets ⟨_,H,rfl⟩ ⟨_,l,rfl⟩ noFill_tuple_add seq_tuple_add PySem.F.slot_tuple_add PySem.F.entry_tuple_add (PySem.F.args_tuple_add_2 _ _)
   (tuple_addW2 t b o.toArray g.toArray n N M u O G (by simpa using hv) (by simpa using I) (by rw[zZ,zZ];exact J)) ⟨H,l,?_⟩
  rw[e];exact U I
def sIx(n d:Nat):Option Int->Nat
 | none=>d
 | some v=>if v<0 then(v+(n:Int)).toNat else min v.toNat n
theorem sIx_none(n d:Nat):sIx n d none=d:=rfl
theorem sIx_nat(n d k:Nat):sIx n d (some (k:Int))=min k n:=by
 show(if(k:Int)<0 then((k:Int)+(n:Int)).toNat else min (k:Int).toNat n)=min k n
 rw[zk (by omega),vG]
theorem ziv(n d:Nat)(hd:d<=n)(o:Option Int):sIx n d o<=n:=by
 cases o with
 | none=>exact hd
 | some v=>
  show(if v<0 then(v+(n:Int)).toNat else min v.toNat n)<=n
  by_cases hv:v<0
  ·rw[zu hv];omega
  ·rw[zk hv];exact Nat.min_le_right _ _
theorem zcz(v:Int)(n d:Nat):(if v<0 then max (v+(n:Int)) 0 else min v (n:Int))=((sIx n d (some v):Nat):Int):=by
 show(if v<0 then max (v+(n:Int)) 0 else min v (n:Int))=(((if v<0 then(v+(n:Int)).toNat else min v.toNat n):Nat):Int)
 by_cases hv:v<0
 ·simp only[zu hv];omega
 ·simp only[zk hv];omega
theorem zbj(lo g:Option Int)(n:Nat):Builtin.Slice.sliceAdjust lo g 1 (n:Int)=(((sIx n 0 lo:Nat):Int),((sIx n n g:Nat):Int)):=by
 have l:¬((1:Int)<0):=by omega
 unfold Builtin.Slice.sliceAdjust;simp only[l,if_false];refine Prod.ext ?_ ?_
 ·cases lo with
  | none=>rfl
  | some v=>exact zcz v n 0
 ·cases g with
  | none=>rfl
  | some v=>exact zcz v n n
theorem zaq(i j:Nat):Builtin.Slice.slicePlaces (i:Int) (j:Int) 1=j-i:=by
 unfold Builtin.Slice.slicePlaces;have g:(1:Int)>0:=by omega
 simp only[g,if_true,Int.ediv_one];split<;>omega
theorem JC{v:Value}{o:Option Int}{Q:Option Int->Shared->Prop}(p:IsPart v o)(h:Q o s):wpAny 0#e A (Builtin.Slice.slicePartIndex v) Q E s:=by
 cases p with
 | none=>exact slicePart_none h
 | int i t=>exact slicePart_int h
theorem Z8{B:Addr}{t u:Value}{lo l:Option Int}{n:Nat}{Q:Int×Int×Nat->Shared->Prop}(G:s.heap.IsSliceOf B t u .none)(H:IsPart t lo)(I:IsPart u l)
  (h:Q (((sIx n 0 lo:Nat):Int),1,sIx n n l-sIx n 0 lo) s):wpAny 0#e A (Builtin.Slice.sliceApplied (.ref B) (pure (n:Int))) Q E s:=by
 obtain⟨os,o,D,g⟩:=id G;unfold Builtin.Slice.sliceApplied Builtin.Slice.sliceFields;refine zf (zf (jG o g (x:=t) rfl (zf (jG o g (x:=u) rfl (zf (jG o g (x:=.none) rfl (zx ?_)))))))
 refine zf (slicePart_none ?_)
 show wpAny _ _ (if((1:Int)==0)=true then _ else _) _ _ s
 rw[zk (by decide)]
 refine zf (JC H (zf (JC I (zf (zx ?_)))))
 show wpAny _ _ (match Builtin.Slice.sliceAdjust lo l 1 (n:Int) with | (lo,l)=>pure (lo,(1:Int),Builtin.Slice.slicePlaces lo l 1)) _ _ s
 rw[zbj lo l n];show wpAny _ _ (pure (((sIx n 0 lo:Nat):Int),(1:Int),Builtin.Slice.slicePlaces ((sIx n 0 lo:Nat):Int) ((sIx n n l:Nat):Int) 1)) _ _ s;rw[zaq];exact zx h
theorem zeU(g:Array Value)(i k:Nat):((List.range k).filterMap fun(m:Nat)=>g[((i:Int)+(m:Int)*1).toNat]?).toArray=((g.toList.drop i).take k).toArray:=by
 have e:(fun(m:Nat)=>g[((i:Int)+(m:Int)*1).toNat]?)=fun m=>g[i+m]?:=by
  funext m
  have:((i:Int)+(m:Int)*1).toNat=i+m:=by omega
  rw[this]
 rw[e];have:=pick_run g i k;rw[List.filterMap_map] at this;have e2:((fun x=>g[x]?)∘fun x=>i+x)=fun m=>g[i+m]?:=rfl
 rw[e2] at this;rw[this]
theorem getItem_tuple_cut{t I:Addr}{g:Array Value}{M N:Value}{lo o:Option Int}{Q:Value->Shared->Prop}(u:IsTup s.heap t g)(J:s.heap.IsSliceOf I M N .none)(Y:IsPart M lo)(pu:IsPart N o)
  (U:¬(sIx g.size 0 lo=0/\sIx g.size g.size o=g.size))
  (h:Q (.ref s.heap.objs.size) { s with heap:=s.heap.push { cls:=.type "tuple",data:=.seq ((g.toList.drop (sIx g.size 0 lo)).take (sIx g.size g.size o-sIx g.size 0 lo)).toArray } })
  (T:g.size<=sizeLine):wpAny 0#e A (getItem (.ref t) (.ref I)) Q E s:=by
 have l:sizeOk (.seq ((g.toList.drop (sIx g.size 0 lo)).take (sIx g.size g.size o-sIx g.size 0 lo)).toArray):=by
  show((g.toList.drop (sIx g.size 0 lo)).take (sIx g.size g.size o-sIx g.size 0 lo)).toArray.size<=sizeLine;rw[zZ,jv,Zv,qK];omega
 have hj:sIx g.size g.size o<=g.size:=ziv _ _ (zD _) o;obtain⟨os,H,D,O⟩:=id J;have B:s.TypeIs (.ref I) "slice" :=⟨os,H,D⟩;unfold getItem;try with_reducible refine jD ?_
 first| refine zf (zx ?_) | skip
 refine zf (wpAny_sequenceKey u.typeIs (by decide) ?_)
 refine zf (y9 (name:=Str.ofString "__getitem__") u.typeIs zbh
  (xD zbh u.typeIs entry_tuple_getitem ?_ (args_tuple_getitem _ _)))
 show wpAny _ _ (Builtin.Tuple.tupleItemsOf (.ref t) >>= _) _ _ s;refine zf (tupleItemsOf_ u ?_)
 refine zf (Zn B ?_)
 rw[zu (by decide)]
 refine zf (Z8 J Y pu ?_)
 have G:¬((((sIx g.size 0 lo:Nat):Int)==0&&(1:Int)==1&&(sIx g.size g.size o-sIx g.size 0 lo)==g.size)=true):=by
  intro q;rw[jI,jI] at q;have q1:((sIx g.size 0 lo:Nat):Int)=0:=eq_of_beq q.1.1;have q2:sIx g.size g.size o-sIx g.size 0 lo=g.size:=eq_of_beq q.2;exact U ⟨by omega,by omega⟩
 show wpAny _ _ (if(((sIx g.size 0 lo:Nat):Int)==0&&(1:Int)==1&&(sIx g.size g.size o-sIx g.size 0 lo)==g.size)=true then _ else _) _ _ s
 rw[zk G,zeU];first
  | exact zf (m:=Builtin.Tuple.tupleExact _) (jY (zx ⟨_,rfl,zx h⟩) l)
  | exact zf (m:=Builtin.Tuple.tupleExact _) (jY (zf (zx (zx ⟨_,rfl,zx h⟩))) l)
  | exact zf (zf (m:=Builtin.Tuple.tupleExact _) (jY (zx (zx ⟨_,rfl,zx h⟩)) l))
  | exact zf (zf (m:=Builtin.Tuple.tupleExact _) (jY (zx ⟨_,rfl,zx h⟩) l))
end
end HT
namespace L2
open PySem PySem.Spec PyProof.Rows
abbrev TO:=St->Hp->(Option Int->Hp->Prop)->Prop
def PO(X:Cx)(e:Option Expr)(t:TO):Prop:=
 ∀(c:List 0#l) (s:Shared) (σ:St) (H:Hp) (Q:Option Int->Hp->Prop),Inv X c σ H s->t σ H Q ->
  wpAny 0#b X.A (evalPart e X.env) (fun u l=>∃o g,Inv X c σ g l/\IsPart u o/\Q o g) X.xe s
def zgl:TO:=fun _ H Q=>Q none H
def zjE(t:TE):TO:=fun σ H Q=>t σ H fun x c=>IsI x c fun i c=>Q (some i) c
section
variable{X:Cx}{e:Expr}{g:TE}{lo c:Option Expr}{D B:TO}{E A:Pos}
theorem wx:PO X none zgl:=by
 intro l s σ H Q I h;rw[evalPart_none];exact zx ⟨none,H,I,.none,h⟩
theorem xL(h:PE X e g):PO X (some e) (zjE g):=by
 intro l s σ H Q I G;rw[evalPart_some];refine thn (h l s σ H _ I G) fun u s1 ⟨x,o,w,L,J⟩=>?_
 obtain⟨i,rfl,q⟩:=J;obtain⟨t,rfl⟩:=L;exact⟨some i,o,w,.int i t,q⟩
def SlR(X:Cx)(r:V->Option Int->Option Int->Hp->VK->Prop):Prop:=
 ∀(l:List 0#l) (s:Shared) (σ:St) (H:Hp) (x:V) (v t u:Value) (lo c:Option Int) (o:Addr) (Q:VK),Inv X l σ H s->RelV x v->s.heap.IsSliceOf o t u .none->IsPart t lo->IsPart u c->r x lo c H Q ->
  ∃T id,typeLookup (.type T) "__getitem__" = pure (some (.builtin id))/\s.TypeIs v T/\wpAny 0#b X.A (getItem v (.ref o)) (EP X l σ Q) X.xe s
def tSl(r:V->Option Int->Option Int->Hp->VK->Prop)(g:TE)(D B:TO):TE:=fun σ H Q=>g σ H fun x o=>D σ o fun l s=>B σ s fun u t=>r x l u t Q
theorem xP{r:V->Option Int->Option Int->Hp->VK->Prop}(hr:SlR X r)(he:PE X e g)(hl:PO X lo D)(hu:PO X c B):PE X (.Subscript e (.Slice lo c none A) E) (tSl r g D B):=by
 intro o s σ H Q I h;refine Subscript_ (thn (he o s σ H _ I h) fun v s1 ⟨x,L,N,r1,q1⟩=>?_)
 refine wpAny_Slice (thn (hl o s1 σ L _ N q1) fun w s2 ⟨l,M,O,pl,q2⟩=>thn (hu o s2 σ M _ O q2) fun G t ⟨u,J,U,pu,q3⟩=>?_)
 rw[evalPart_none];refine zx ?_
 have Y:Inv X o σ J { t with heap:=t.heap.push { cls:=.type "slice",data:=.fields #[w,G,.none] } }:=U.kept (t':=t.toks) fun b ob q=>zN _ q
 obtain⟨T,id,hT,ht,hg⟩:=hr o { t with heap:=t.heap.push { cls:=.type "slice",data:=.fields #[w,G,.none] } } σ J x v w G l u t.heap.objs.size Q Y r1 (Heap.IsSliceOf.new ..) pl pu q3;show wpAny 0#b X.A (subscriptTail e (.Slice lo c none A) v (.ref t.heap.objs.size)) (EP X o σ Q) X.xe { t with heap:=t.heap.push { cls:=.type "slice",data:=.fields #[w,G,.none] } };exact tail_any (ops:=[.ref t.heap.objs.size,v]) ht hT hg (by with_unfolding_all rfl)
def jF(l:List V)(lo c:Option Int):List V:=(l.drop (HT.sIx l.length 0 lo)).take (HT.sIx l.length l.length c-HT.sIx l.length 0 lo)
theorem QM(l:List V)(lo c:Option Int):(jF l lo c).length<=l.length:=by
 unfold jF;rw[jv,Zv];omega
inductive zj8(K:W.Frag)(x:V)(lo:Option Int)(c:Option Int)(H:Hp)(Q:VK):Prop
 | mk (a l:_) (_:x=.ref a) (_:SqT K H a l) (_:¬(HT.sIx l.length 0 lo=0/\HT.sIx l.length l.length c=l.length)) (_:∀p,H p=none->Q (.ref p) (upd H p (.tup (jF l lo c)))):zj8 K x lo c H Q
theorem VQ:SlR X (zj8 X.K):=by
 intro J s σ H x v vl vu lo c Y Q I T L N O h;obtain⟨a,t,rfl,hx,M,q⟩:=h;cases T;obtain⟨u,r,w,G⟩:=I.tuple hx;have l:u.toArray.size=t.length:=by rw[zZ];exact r.length.symm
 refine⟨"tuple",_,zbh.lookup,w.typeIs,?_⟩
 refine HT.getItem_tuple_cut w L N O (by rw[l];exact M) ?_ (by rw[l];exact G)
 rw[l];refine⟨.ref s.heap.objs.size,_,I.laid (t':=s.toks) (o:=.tup (jF t lo c)) (fun b U q=>zN _ q) (zD _) ?_,rfl,q _ (I.hok.fresh (zD _))⟩
 exact⟨xa (QM t lo c) G,_,(r.drop (HT.sIx t.length 0 lo)).take (HT.sIx t.length t.length c-HT.sIx t.length 0 lo),⟨IsTup.new _ _,_,zL _ rfl,rfl⟩⟩
inductive zh2(K:W.Frag)(x:V)(y:V)(H:Hp)(Q:VK):Prop
 | mk (a b o l:_) (_:x=.ref a) (_:y=.ref b) (_:SqT K H a o) (_:SqT K H b l) (_:o≠[]) (_:o.length+l.length<=sizeLine) (_:(l=[]->Q (.ref a) H)) (_:(l≠[]->∀p,H p=none->Q (.ref p) (upd H p (.tup (o++l))))):zh2 K x y H Q
theorem Vals.nil_iff{o:List V}{l:List Value}(r:Vals o l):l=[]↔o=[]:=by
 cases r with
 | nil=>simp
 | cons _ _=>simp
theorem V7:OpR X (binaryOp .Add) (zh2 X.K):=by
 intro L s σ H x y v u Q I Y ry h;obtain⟨a,b,xs,ys,rfl,rfl,M,hb,hx,G,T,U⟩:=h;cases Y;cases ry;obtain⟨N,t,O,_⟩:=I.tuple M;obtain⟨J,l,A,_⟩:=I.tuple hb;refine HT.cat_tup O A (fun z=>hx (t.nil_iff.mp z)) (fun z=>⟨.ref a,H,I,rfl,T (l.nil_iff.mp z)⟩) (fun z=>?_) (by rw[<- t.length,<- l.length];exact G)
 refine⟨.ref s.heap.objs.size,_,I.laid (t':=s.toks) (o:=.tup (xs++ys)) (fun b ob q=>zN _ q) (zD _) ?_,rfl,U (fun w=>z (l.nil_iff.mpr w)) _ (I.hok.fresh (zD _))⟩
 exact⟨by rw[qz];exact G,_,t.append l,⟨IsTup.new _ _,_,zL _ rfl,rfl⟩⟩
end
def ixN(n:Nat)(i:Int):Option Nat:=if 0<=i then(if i<n then some i.toNat else none) else if -(n:Int)<=i then some (i+n).toNat else none
def atI{α:Type}(c:List α)(i:Int):Option α:=(ixN c.length i).bind fun j=>c[j]?
theorem zcp{n:Nat}{i:Int}{j:Nat}(h:ixN n i=some j):seqIndex? i n=some j/\j<n/\ -(n:Int)<=i/\i<n:=by
 unfold ixN at h;by_cases g:0<=i
 ·rw[zu g] at h
  by_cases c:i<n
  ·rw[zu c] at h
   have e:i.toNat=j:=qT h;exact⟨by rw[seqIndex_of g c,e],by omega,by omega,c⟩
  ·rw[zk c] at h;cases h
 ·rw[zk g] at h
  by_cases c:-(n:Int)<=i
  ·rw[zu c] at h
   have e:(i+n).toNat=j:=qT h;exact⟨by rw[seqIndex_neg (by omega) c,e],by omega,c,by omega⟩
  ·rw[zk c] at h;cases h
theorem Wp{α:Type}{c:List α}{i:Int}{v:α}(h:atI c i=some v):∃j,seqIndex? i c.length=some j/\c[j]? =some v/\j<c.length/\ -(c.length:Int)<=i/\i<c.length:=by
 unfold atI at h;cases e:ixN c.length i with
 | none=>rw[e] at h;cases h
 | some j=>
  rw[e] at h;obtain⟨g,l,o,s⟩:=zcp e;exact⟨j,g,h,l,o,s⟩
theorem jA{α:Type}{xs:List α}{j:Nat}{v:α}(h:xs[j]? =some v):atI xs (j:Int)=some v:=by
 have c:j<xs.length:=(zU.mp h).1;have e:ixN xs.length (j:Int)=some j:=by
  unfold ixN;rw[zu (by omega),zu (by omega)];simp
 unfold atI;rw[e];exact h
def zhq(b:Expr):Prop:=∀o i,subscripted b false o i=operate [o,i] (getItem o i)
def IxR(X:Cx)(r:R2):Prop:=
 ∀(l c:Expr) (g:List 0#l) (s:Shared) (σ:St) (H:Hp) (x y:V) (v u:Value) (Q:VK),Inv X g σ H s->RelV x v->RelV y u->r x y H Q ->
  subscripted c false v u=operate [v,u] (getItem v u)->wpAny 0#b X.A (subscriptTail l c v u) (EP X g σ Q) X.xe s
def MtR(X:Cx)(id:String)(r:V->List V->Hp->VK->Prop):Prop:=
 ∀(c:List 0#l) (s:Shared) (σ:St) (H:Hp) (x:V) (l:List V) (v:Value) (g:List Value) (Q:VK),Inv X c σ H s->RelV x v->Vals l g->r x l H Q ->
  wpAny 0#b X.A (call (.builtin id) (v::g)) (EP X c σ Q) X.xe s
section
variable{X:Cx}{a b:Expr}{J L:TE}{G:Pos}
theorem zS{r:R2}(M:IxR X r)(A:PE X a J)(hb:PE X b L)(N:zhq b):PE X (.Subscript a b G) (tOp r J L):=by
 intro c s σ H Q I h;exact Subscript_ (zjx A hb I h fun v u s2 x y l w O U q=>M a b c s2 σ l x y v u Q w O U q (N _ _))
inductive ziA(K:W.Frag)(x:V)(y:V)(H:Hp)(Q:VK):Prop
 | mk (p c i v:_) (_:x=.ref p) (_:y=.int i) (_:SqL K H p c) (_:atI c i=some v) (_:Q v H):ziA K x y H Q
inductive ziz(K:W.Frag)(x:V)(y:V)(H:Hp)(Q:VK):Prop
 | mk (p c i v:_) (_:x=.ref p) (_:y=.int i) (_:SqT K H p c) (_:atI c i=some v) (_:Q v H):ziz K x y H Q
inductive zka(x:V)(y:V)(H:Hp)(Q:VK):Prop
 | mk (z i c:_) (_:x=.str z) (_:y=.int i) (_:z.length<=sizeLine) (_:atI z.cps.toList i=some c) (_:Q (.str ⟨#[c]⟩) H):zka  x y H Q
theorem qo:IxR X (ziA X.K):=by
 intro a0 Y c s σ H x y v u Q I rx ry h hs;obtain⟨p,xs,i,z,rfl,rfl,hq,he,q⟩:=h;cases rx;obtain⟨t,rfl⟩:=ry;obtain⟨N,r,O,hz⟩:=I.list hq;obtain⟨j,A,h2,h3,h4,h5⟩:=Wp he;obtain⟨w,ew,U⟩:=r.get h2;have hl:=r.length;have hn:=Qe;have l:EP X c σ Q w s:=⟨z,H,I,U,q⟩;by_cases h0:0<=i
 ·have M:i.toNat=j:=by
   rw[seqIndex_of h0 h5] at A;exact qT A
  exact item_listR O.isList h0 (by omega) (by rw[M];simpa using ew) l hs
 ·have M:(i+(N.toArray.size:Int)).toNat=j:=by
   rw[seqIndex_neg (by omega) h4] at A
   rw[zZ,<- hl];exact qT A
  exact subscriptTail_builtinR (x:=w) O.isList.typeIs slot_list_getitem.lookup
   (wpAny_getItem_list_neg (Q:=fun r s'=>r=w/\EP X c σ Q r s') O.isList (by omega) (by rw[zZ]<;>omega) (by omega) (by rw[M];simpa using ew) ⟨rfl,l⟩) hs
theorem qF:IxR X (ziz X.K):=by
 intro N M c s σ H x y v u Q I rx ry h hs;obtain⟨p,xs,i,z,rfl,rfl,hq,he,q⟩:=h;cases rx;obtain⟨t,rfl⟩:=ry;obtain⟨a0,r,O,hz⟩:=I.tuple hq;obtain⟨j,Y,h2,h3,h4,h5⟩:=Wp he;obtain⟨w,U,A⟩:=r.get h2;have hl:=r.length;have hn:=Qe;have l:EP X c σ Q w s:=⟨z,H,I,A,q⟩;exact subscriptTail_builtinR (x:=w) O.typeIs slot_tuple_getitem.lookup
  (getItem_tuple (j:=j) (Q:=fun r s'=>r=w/\EP X c σ Q r s') O (by omega) (by omega) (by rw[zZ,<- hl];exact Y) (by simpa using U) ⟨rfl,l⟩) hs
theorem zjn:IxR X zka:=by
 intro w l M s σ H x y v u Q I rx ry h hs;obtain⟨z,i,c,rfl,rfl,hz,Y,q⟩:=h;obtain⟨t,rfl⟩:=rx;obtain⟨t',rfl⟩:=ry;obtain⟨j,A,N,h3,O,U⟩:=Wp Y;have hl:z.cps.toList.length=z.length:=by simp[Str.length]
 rw[hl] at A O U;have hn:=Qe;exact tail_any (typeIs_str s z t) slot_str_getitem.lookup (getItem_str (c:=c) (by
  have e1:decide (i< -(2^63:Int))=false:=jb (by omega)
  have e2:decide (i≥2^63)=false:=jb (by omega)
  rw[e1,e2,Bool.or_false]) (by rw[A];simpa using N) ⟨.str ⟨#[c]⟩,H,I.tok _,⟨_,rfl⟩,q⟩) hs
theorem zaD(c:List Value)(n j:Nat)(u:Value):Obj.mapSeq (·.setIfInBounds j u) { cls:=.type "list",data:=.seq c.toArray n }={ cls:=.type "list",data:=.seq (c.set j u).toArray n }:=by
 simp[Obj.mapSeq]
theorem Inv.lst{l:List (Addr×Obj)}{σ:St}{H:Hp}{s:Shared}{p:Addr}{u:List V}(I:Inv X l σ H s)(h:H p=some (.lst u)) :
  ∃(c:List Value) (n:Nat),Vals u c/\s.heap.get? p=some { cls:=.type "list",data:=.seq c.toArray n }/\u.length<=sizeLine:=by
 obtain⟨z,c,n,r,e⟩:=I.hok p _ h;exact⟨c,n,r,e,z⟩
theorem Inv.lstUpd{l:List (Addr×Obj)}{σ:St}{H:Hp}{s:Shared}{p:Addr}{U M:List V}{w c:List Value}{n A:Nat}{f:Obj->Obj}(I:Inv X l σ H s)(h:H p=some (.lst U))
  (O:s.heap.get? p=some { cls:=.type "list",data:=.seq w.toArray n }) (N:f { cls:=.type "list",data:=.seq w.toArray n }={ cls:=.type "list",data:=.seq c.toArray A }) (r:Vals M c) (Q:M.length<=sizeLine) (t:Nat) :
  Inv X l σ (upd H p (.lst M)) { s with heap:=s.heap.update p f,toks:=t }:=by
 have e:(s.heap.update p f).get? p=some { cls:=.type "list",data:=.seq c.toArray A }:=by
  rw[xE f O (by rw[N]<;>rfl),N]
 refine I.write (x:=p) (e:=p) (by rw[h];trivial) (.inl rfl) (fun b u hb q=>(x6 _ _ (zG hb)).trans q) ⟨_,e⟩ ?_
 exact⟨Q,c,A,r,e⟩
inductive zh1(o:V)(i:V)(v:V)(H:Hp)(Q:Hp->Prop):Prop
 | mk (p c k j:_) (_:o=.ref p) (_:i=.int k) (_:H p=some (.lst c)) (_:ixN c.length k=some j) (_:Q (upd H p (.lst (c.set j v)))):zh1  o i v H Q
theorem ye:zkV X zh1:=by
 intro l s σ H o i v ov iv u Q I ro ri rv h;obtain⟨p,xs,k,j,rfl,rfl,hp,hj,q⟩:=h;cases ro;obtain⟨t,rfl⟩:=ri;obtain⟨c,n,r,M,hz⟩:=I.lst hp;obtain⟨w,h2,U,Y⟩:=zcp hj;have A:=r.length;have hn:=Qe;have N:Inv X l σ (upd H p (.lst (xs.set j v))) { s with heap:=s.heap.update p (Obj.mapSeq (·.setIfInBounds j u)) }:=
  I.lstUpd hp M (zaD c n j u) (r.set rv j) (by rw[yI];exact hz) s.toks
 by_cases O:0<=k
 ·have hk:k.toNat=j:=by
   rw[seqIndex_of O Y] at w;exact qT w
  exact PySem.W.ki_setAt M O (by omega) (by rw[zZ,<- A];exact Y) (by rw[hk];exact⟨_,N,q⟩)
 ·have hk:(k+(c.toArray.size:Int)).toNat=j:=by
   rw[seqIndex_neg (by omega) U] at w
   rw[zZ,<- A];exact qT w
  exact PySem.W.ki_setBack M (by omega) (by rw[zZ,<- A];exact U) (by omega) (by rw[hk];exact⟨_,N,q⟩)
theorem VP(lo c:Option Int)(n:Nat):(sliceBounds lo c none n).1=((HT.sIx n 0 lo:Nat):Int)/\(sliceBounds lo c none n).2.1=((HT.sIx n n c:Nat):Int)/\(sliceBounds lo c none n).2.2=1:=by
 refine⟨?_,?_,rfl⟩
 ·cases lo with
  | none=>simp[sliceBounds,HT.sIx]
  | some i=>
   simp only[sliceBounds,HT.sIx,Option.getD_none,show(1:Int)>0 by decide,if_true]
   by_cases h:i<0
   ·simp only[h,if_true]<;>omega
   ·simp only[h,if_false]<;>omega
 ·cases c with
  | none=>simp[sliceBounds,HT.sIx]
  | some i=>
   simp only[sliceBounds,HT.sIx,Option.getD_none,show(1:Int)>0 by decide,if_true]
   by_cases h:i<0
   ·simp only[h,if_true]<;>omega
   ·simp only[h,if_false]<;>omega
theorem XL(c:List Value)(lo l:Option Int):slicePick c.toArray lo l none=((c.drop (HT.sIx c.length 0 lo)).take (HT.sIx c.length c.length l-HT.sIx c.length 0 lo)).toArray:=by
 obtain⟨s,u,w⟩:=VP lo l c.toArray.size;unfold slicePick;rw[s,u,w];simp only[sliceRange_one,pick_run,zZ]<;>rfl
inductive zj9(K:W.Frag)(x:V)(lo:Option Int)(c:Option Int)(H:Hp)(Q:VK):Prop
 | mk (a l:_) (_:x=.ref a) (_:SqL K H a l) (_:∀p,H p=none->Q (.ref p) (upd H p (.lst (jF l lo c)))):zj9 K x lo c H Q
theorem Jg:SlR X (zj9 X.K):=by
 intro A s σ H x v vl vu lo u sl Q I rx M U Y h;obtain⟨a,c,rfl,hx,q⟩:=h;cases rx;obtain⟨O,r,w,N⟩:=I.list hx;have l:=r.length;refine⟨"list",_,slot_list_getitem.lookup,w.isList.typeIs,?_⟩
 refine wpAny_getItem_list_slice w.isList M U Y .none (by simp) ?_ (by rw[zZ]<;>omega)
 rw[XL,<- l];refine⟨.ref s.heap.objs.size,_,I.laid (t':=s.toks) (o:=.lst (jF c lo u)) (fun b ob q=>zN _ q) (zD _) ?_,rfl,q _ (I.hok.fresh (zD _))⟩
 exact⟨xa (QM c lo u) N,_,0,(r.drop (HT.sIx c.length 0 lo)).take (HT.sIx c.length c.length u-HT.sIx c.length 0 lo),zL _ rfl⟩
def wK:V->Bool
 | .non=>true
 | .bl _=>true
 | .int _=>true
 | .str _=>true
 | _=>false
def eqV:V->V->Bool
 | .non,.non=>true
 | .bl a,.bl b=>a==b
 | .bl a,.int b=>(if a then 1 else 0)==b
 | .int a,.bl b=>a==(if b then 1 else 0)
 | .int a,.int b=>a==b
 | .str a,.str b=>a==b
 | _,_=>false
theorem zfJ{A:Around}{s:Shared}{y x:V}{u v:Value}(H:RelV y u)(c:RelV x v)(I:wK y=true)(w:wK x=true):SeqAt.EqAt A s u v (eqV y x):=by
 cases y with
 | non=>
  cases H;cases x with
  | non=>cases c;exact SeqAt.EqAt.same _
  | bl b=>cases c;exact SeqAt.EqAt.none_bool b
  | int b=>obtain⟨t,rfl⟩:=c;exact SeqAt.EqAt.none_int b t
  | str b=>obtain⟨t,rfl⟩:=c;exact SeqAt.EqAt.none_str b t
  | _=>exact absurd (show false=true from w) qU
 | bl a=>
  cases H;cases x with
  | non=>cases c;exact SeqAt.EqAt.bool_none a
  | bl b=>cases c;exact SeqAt.EqAt.bool_bool a b
  | int b=>obtain⟨t,rfl⟩:=c;exact SeqAt.EqAt.bool_int a b t
  | str b=>obtain⟨t,rfl⟩:=c;exact SeqAt.EqAt.bool_str a b t
  | _=>exact absurd (show false=true from w) qU
 | int a=>
  obtain⟨l,rfl⟩:=H;cases x with
  | non=>cases c;exact SeqAt.EqAt.int_none a l
  | bl b=>cases c;exact SeqAt.EqAt.int_bool a l b
  | int b=>obtain⟨t,rfl⟩:=c;exact SeqAt.EqAt.int_int a l b t
  | str b=>obtain⟨t,rfl⟩:=c;exact SeqAt.EqAt.int_str a l b t
  | _=>exact absurd (show false=true from w) qU
 | str a=>
  obtain⟨l,rfl⟩:=H;cases x with
  | non=>cases c;exact SeqAt.EqAt.str_none a l
  | bl b=>cases c;exact SeqAt.EqAt.str_bool a l b
  | int b=>obtain⟨t,rfl⟩:=c;exact SeqAt.EqAt.str_int a l b t
  | str b=>obtain⟨t,rfl⟩:=c;exact SeqAt.EqAt.str_str a l b t
  | _=>exact absurd (show false=true from w) qU
 | _=>exact absurd (show false=true from I) qU
def eqU(x:V)(u:Value):Bool:=match u with
 | .none=>eqV .non x
 | .bool b=>eqV (.bl b) x
 | .int i _=>eqV (.int i) x
 | .str z _=>eqV (.str z) x
 | _=>false
theorem zfI{x y:V}{u:Value}(r:RelV y u)(f:wK y=true):eqU x u=eqV y x:=by
 cases y with
 | non=>cases r;rfl
 | bl b=>cases r;rfl
 | int i=>obtain⟨t,rfl⟩:=r;rfl
 | str z=>obtain⟨t,rfl⟩:=r;rfl
 | _=>exact absurd (show false=true from f) qU
theorem Ws{x:V}:∀{c:List V} {l:List Value},Vals c l->c.all wK=true->l.any (eqU x)=c.any fun y=>eqV y x
 | _,_,.nil,_=>rfl
 | y::c,u::l,.cons r t,f=>by
  rw[List.all_cons,jI] at f;rw[xX,xX,zfI r f.1,Ws t f.2]
theorem JW{A:Around}{s:Shared}{x:V}{v:Value}(H:RelV x v)(w:wK x=true):∀{l:List V} {c:List Value},Vals l c->l.all wK=true->∀u∈c,SeqAt.EqAt A s u v (eqU x u)
 | _,_,.nil,_=>fun u hu=>by cases hu
 | y::l,u::c,.cons r t,f=>fun I hu=>by
  rw[List.all_cons,jI] at f;rcases zC.mp hu with rfl | hu
  ·rw[zfI r f.1];exact zfJ r H f.1 w
  ·exact JW H w t f.2 I hu
def inV(x:V)(c:List V):Bool:=c.any fun y=>eqV y x
inductive rIn(K:W.Frag)(c:Bool)(x:V)(y:V)(H:Hp)(Q:VK):Prop
 | mk (p l:_) (_:y=.ref p) (_:(SqL K H p l\/SqT K H p l)) (_:wK x=true) (_:l.all wK=true) (_:Q (.bl (if c then !inV x l else inV x l)) H):rIn K c x y H Q
theorem Vh:OpR X (compareOp .In) (rIn X.K false):=by
 intro N s σ H x y v u Q I O Y h;obtain⟨p,xs,rfl,hq,M,fs,q⟩:=h;cases Y;rcases hq with hq | hq
 ·obtain⟨c,r,A,U⟩:=I.list hq
  refine SeqAt.in_listAt (eqU x) A.isList (fun w l=>JW O M r fs w (by simpa using l)) ⟨.bl _,H,I,rfl,?_⟩
  rw[show c.toArray.any (eqU x)=c.any (eqU x) by simp,Ws r fs]
  exact q
 ·obtain⟨c,r,A,U⟩:=I.tuple hq
  refine SeqAt.in_tupleAt (eqU x) A (fun w l=>JW O M r fs w (by simpa using l)) ⟨.bl _,H,I,rfl,?_⟩
  rw[show c.toArray.any (eqU x)=c.any (eqU x) by simp,Ws r fs]
  exact q
inductive vt(K:W.Frag)(l:List V)(H:Hp)(Q:VK):Prop
 | mk (p c:_) (_:l=[.ref p]) (_:(SqL K H p c\/SqT K H p c)) (_:Q (.int c.length) H):vt K l H Q
theorem zR:jE X (.builtin "len") (vt X.K):=by
 intro M s σ H xs us Q I r h;obtain⟨p,N,rfl,hq,q⟩:=h;obtain⟨u,rfl,U⟩:=vy r;cases U;have Y:=Qe;rcases hq with hq | hq
 ·obtain⟨l,A,w,O⟩:=I.list hq
  have c:=A.length;exact Calls.call_len_list w.isList (by simp only[zZ]<;>omega) ⟨.int N.length,H,I.tok _,⟨s.toks+1,by rw[zZ,c]⟩,q⟩
 ·obtain⟨l,A,w,O⟩:=I.tuple hq
  have c:=A.length;exact len_tuple w (by simp only[zZ]<;>omega) ⟨.int N.length,H,I.tok _,⟨s.toks+1,by rw[zZ,c]⟩,q⟩
inductive yN(c:List V)(H:Hp)(Q:VK):Prop
 | mk (z:_) (_:c=[.str z]) (_:z.length<=sizeLine) (_:Q (.int z.length) H):yN c H Q
theorem Wn:jE X (.builtin "len") (yN):=by
 intro c s σ H M A Q I r h;obtain⟨z,rfl,w,q⟩:=h;obtain⟨u,rfl,t,rfl⟩:=vy r;have l:=Qe;exact len_str (by omega) ⟨.int z.length,H,I.tok _,⟨_,rfl⟩,q⟩
inductive yM(K:W.Frag)(s:List V)(H:Hp)(Q:VK):Prop
 | mk (p c:_) (_:s=[.ref p]) (_:(SqL K H p c\/SqT K H p c)) (_:∀l,H l=none->Q (.ref l) (upd H l (.lst c))):yM K s H Q
theorem wD:jE X (.type "list") (yM X.K):=by
 intro Y s σ H xs us Q I r h;obtain⟨p,ys,rfl,hq,q⟩:=h;obtain⟨u,rfl,rx⟩:=vy r;cases rx;have M:∀(c:List Value),Vals ys c->ys.length<=sizeLine->∀(l:Heap) (w:Nat),(∀b o',s.heap.get? b=some o'->l.get? b=some o') ->
   l.get? s.heap.objs.size=some { cls:=.type "list",dict:=none,data:=.seq c.toArray w,slots:=#[] }->EP X Y σ Q (.ref s.heap.objs.size) { s with heap:=l }:=fun c A O l w U e=>
  ⟨.ref s.heap.objs.size,_,I.laid (t':=s.toks) U (zD _) (show ObjOk X.prog X.w _ l _ (.lst ys) from ⟨O,c,w,A,e⟩),rfl,q _ (I.hok.fresh (zD _))⟩
 rcases hq with hq | hq
 ·obtain⟨c,A,pl,O⟩:=I.list hq
  have N:=A.length;obtain⟨o,ho,hc,n,hd⟩:=pl.isList;exact call_list_seq p (.inl rfl) ho hc hd (fun l w U e=>M c A O l w U e) (by simp only[zZ]<;>omega)
 ·obtain⟨c,A,pl,O⟩:=I.tuple hq
  have N:=A.length;obtain⟨o,ho,hc,n,hd⟩:=pl;exact call_list_seq p (.inr rfl) ho hc hd (fun l w U e=>M c A O l w U e) (by simp only[zZ]<;>omega)
inductive wU(K:W.Frag)(s:List V)(H:Hp)(Q:VK):Prop
 | mk (p c:_) (_:s=[.ref p]) (_:((SqL K H p c/\∀l,H l=none->Q (.ref l) (upd H l (.tup c)))\/(SqT K H p c/\Q (.ref p) H))):wU K s H Q
theorem xf:jE X (.type "tuple") (wU X.K):=by
 intro c s σ H xs us Q I r h;obtain⟨p,Y,rfl,h⟩:=h;obtain⟨u,rfl,rx⟩:=vy r;cases rx;rcases h with ⟨hq,q⟩ | ⟨hq,q⟩
 ·obtain⟨l,M,A,U⟩:=I.list hq
  have O:=M.length;refine call_tuple_list A.isList (fun w kp=>?_) (by simp only[zZ]<;>omega)
  have N:Inv X c σ H { s with heap:=w }:=I.kept (t':=s.toks) kp;have I2:Inv X c σ (upd H w.objs.size (.tup Y)) { s with heap:=w.push { cls:=.type "tuple",data:=.seq l.toArray } }:=
   N.laid (t':=s.toks) (fun b o e=>zN _ e) (zD _) (show ObjOk X.prog X.w _ _ _ (.tup Y) from ⟨U,l,M,⟨IsTup.new _ _,_,zL _ rfl,rfl⟩⟩)
  exact⟨.ref w.objs.size,_,I2,rfl,q _ (N.hok.fresh (zD _))⟩
 ·obtain⟨l,M,A,U⟩:=I.tuple hq
  exact call_tuple_same A ⟨.ref p,H,I,rfl,q⟩
def tyV(K:W.Frag)(T:String)(x:V)(H:Hp):Prop:=match x with
 | .str _=>T = "str"
 | .int _=>T = "int"
 | .ref p=>(T = "list" /\ ∃l,SqL K H p l)\/(T = "tuple" /\ ∃o,K.lookup p=some o/\o.cls=.type "tuple" /\ o.dict=none) \/
   (T = "dict" /\ ((∃c,H p=some (.dK c))\/∃c,H p=some (.dT c)))\/(T = "set" /\ ∃S n,H p=some (.set S n))
 | _=>False
theorem zeb{u:List (Addr×Obj)}{σ:St}{H:Hp}{s:Shared}{T:String}{x:V}{v:Value}(I:Inv X u σ H s)(r:RelV x v)(ty:tyV X.K T x H) :
  s.TypeIs v T/\∀a,v=.ref a->∃A,s.heap.get? a=some A/\A.dict=none:=by
 cases x with
 | str z=>
  obtain⟨t,rfl⟩:=r;cases(show T = "str" from ty)
  exact⟨typeIs_str s z t,fun _ e=>nomatch e⟩
 | int i=>
  obtain⟨t,rfl⟩:=r;cases(show T = "int" from ty)
  exact⟨typeIs_int s i t,fun _ e=>nomatch e⟩
 | ref p=>
  cases r;rcases ty with ⟨rfl,O,hq⟩ | ⟨rfl,o,hk,hc,hd⟩ | ⟨rfl,hk⟩ | ⟨rfl,S,n,hk⟩
  ·obtain⟨N,_,M,_⟩:=I.list hq
   refine⟨M.isList.typeIs,fun a e=>?_⟩
   cases e;obtain⟨o,n,e,c,hd,_⟩:=M;exact⟨o,e,hd⟩
  ·refine⟨⟨o,I.kIn p o hk,hc⟩,fun a e=>?_⟩
   cases e;exact⟨o,I.kIn _ o hk,hd⟩
  ·have z:∃o,s.heap.get? p=some o/\o.ExactDict:=by
    rcases hk with ⟨w,hk⟩ | ⟨w,hk⟩
    ·obtain⟨_,_,_,_,o,_,_,e,l,_⟩:=I.hok p _ hk
     exact⟨o,e,l⟩
    ·obtain⟨_,_,_,_,o,_,_,e,l,_⟩:=I.hok p _ hk
     exact⟨o,e,l⟩
   obtain⟨o,e,l⟩:=z;refine⟨⟨o,e,l.1⟩,fun a e2=>?_⟩
   cases e2;exact⟨o,e,l.2.1⟩
  ·obtain⟨o,_,_,_,e,l,_⟩:=I.hok p _ hk
   refine⟨⟨o,e,l.1⟩,fun a e2=>?_⟩
   cases e2;exact⟨o,e,l.2.1⟩
 | _=>exact False.elim ty
def zld(K:W.Frag)(T:String)(r:V->List V->Hp->VK->Prop)(to:TE):TE:=fun σ H Q=>to σ H fun x c=>tyV K T x c/\r x [] c Q
def tBM(K:W.Frag)(T:String)(r:V->List V->Hp->VK->Prop)(to:TE)(t:TA):TE:=fun σ H Q=>to σ H fun x c=>tyV K T x c/\t σ c fun s l=>r x s l Q
variable{o e:Expr}{E:List Expr}{to:TE}{t:TA}{B:Str}{D g:Pos}{T id:String}{r:V->List V->Hp->VK->Prop}
theorem ziS(pa:PlainAttrs T)(w:Slot T B id)(A:typeOf (.builtin id)=pure (.type "method_descriptor"))(hm:MtR X id r)(ho:PE X o to)
  (l:attributeBase o B X.env (eval o X.env)=eval o X.env:=by rfl) (u:(D.endLine==g.line)=true:=by rfl):PE X (.Call (.Attribute o B D) [] [] g) (zld X.K T r to):=by
 intro c s σ H Q I h;refine wpAny_Call_method0_late l u (thn (ho c s σ H _ I h) fun v s1 ⟨x,O,M,N,ty,q1⟩=>?_)
 obtain⟨U,Y⟩:=zeb M N ty;exact⟨T,id,pa,w,A,U,Y,QC rfl (PySem.evalArgs_none (hm c s1 σ O x [] v [] Q M N .nil q1))⟩
theorem yi(pa:PlainAttrs T)(M:Slot T B id)(N:typeOf (.builtin id)=pure (.type "method_descriptor"))(hm:MtR X id r)(ho:PE X o to)(ha:PA X (e::E) t)
  (u:attributeBase o B X.env (eval o X.env)=eval o X.env:=by rfl)
  (A:((backTo g (starEach (e::E) X.env)).all (fun x=>!x.1)&&(backToKw g (keywordEach [] X.env)).all (fun x=>x.1.isSome)
   && decide ((e::E).length+([]:List Keyword).length+(if([]:List Keyword).isEmpty then 0 else 1)<30))=true:=by rfl)
  (w:(D.endLine==g.line)=true:=by rfl) (hs:starEach (e::E) X.env=(false,eval e X.env)::starEach E X.env:=by rfl) (l:(backTo g (starEach E X.env)).any (·.1)=false:=by rfl) :
  PE X (.Call (.Attribute o B D) (e::E) [] g) (tBM X.K T r to t):=by
 intro c s σ H Q I h;refine wpAny_Call_method_late u A w rfl (thn (ho c s σ H _ I h) fun v s1 ⟨x,H1,O,Y,ty,q1⟩=>?_)
 obtain⟨h1,h2⟩:=zeb O Y ty;refine⟨T,id,pa,M,N,h1,h2,?_⟩
 have U:=ha g c s1 σ H1 _ O q1;rw[hs] at U ⊢;refine QC (by show(false||(backTo g (starEach E X.env)).any (·.1))=false;rw[l]<;>rfl) (WL ?_)
 exact thn U fun us s2 ⟨vs,H2,I2,r2,q2⟩=>hm c s2 σ H2 x vs v us Q I2 Y r2 q2
end
def MtM(X:Cx)(id:String)(r:V->List V->Hp->VK->Prop):Prop:=
 ∀(c:List 0#l) (s:Shared) (σ:St) (H:Hp) (x:V) (l:List V) (v:Value) (g:List Value) (Q:VK),Inv X c σ H s->RelV x v->Vals l g->r x l H Q ->
  wpAny 0#b X.A (call (.builtin id) (v::g)) (EP X c σ Q) X.xe s
theorem Vals.one:∀{x:V} {c:List Value},Vals [x] c->∃u,c=[u]/\RelV x u
 | _,_,.cons r .nil=>⟨_,rfl,r⟩
def u9:=@Vals.one
theorem Vals.two:∀{x y:V} {c:List Value},Vals [x,y] c->∃u v,c=[u,v]/\RelV x u/\RelV y v
 | _,_,_,.cons r (.cons q .nil)=>⟨_,_,rfl,r,q⟩
section
variable{X:Cx}{c:List (Addr×Obj)}{σ:St}{H:Hp}{s:Shared}{l b:Addr}{o g t:List V}
theorem Inv.lset{w its':List Value}{n:Nat}{f:Array Value->Array Value}{E:Nat}(I:Inv X c σ H s)(A:H l=some (.lst o))
  (e:s.heap.get? l=some { cls:=.type "list",data:=.seq w.toArray n }) (B:f w.toArray=its'.toArray) (hv:Vals g its') (D:g.length<=sizeLine) :
  Inv X c σ (upd H l (.lst g)) { s with heap:=s.heap.update l (Obj.mapSeq f),toks:=E }:=by
 have q:=PySem.IsL.update e f;rw[B] at q;refine I.write (x:=l) (e:=l) (by rw[A];exact trivial) (.inl rfl) (fun G u hb hu=>(x6 s.heap (Obj.mapSeq f) (zG hb)).trans hu) ⟨_,q⟩ ?_
 exact⟨D,its',_,hv,q⟩
theorem Inv.lnew{u:List Value}{t':Nat}(I:Inv X c σ H s)(hv:Vals g u)(w:g.length<=sizeLine) :
  Inv X c σ (upd H s.heap.objs.size (.lst g)) { s with heap:=s.heap.push { cls:=.type "list",data:=.seq u.toArray },toks:=t' }:=
 I.laid (fun _ _ q=>zN _ q) (zD _) ⟨w,u,0,hv,zL _ rfl⟩
theorem Inv.fresh(I:Inv X c σ H s):H s.heap.objs.size=none:=I.hok.fresh (zD _)
theorem Inv.lstM(I:Inv X c σ H s)(w:H l=some (.lst o)):o.length<=sizeLine/\∃(u:List Value) (n:Nat),Vals o u/\o.length=u.length/\s.heap.get? l=some { cls:=.type "list",data:=.seq u.toArray n }:=by
 obtain⟨z,u,n,r,e⟩:=I.hok l _ w;exact⟨z,u,n,r,r.length,e⟩
end
section
variable{X:Cx}
inductive zb8(x:V)(g:List V)(H:Hp)(Q:VK):Prop
 | mk (l c y:_) (_:x=.ref l) (_:g=[y]) (_:H l=some (.lst c)) (_:c.length<sizeLine) (_:Q .non (upd H l (.lst (c++[y])))):zb8  x g H Q
theorem j3:MtM X "list.append" zb8:=by
 intro t s σ H x J v G Q I B A h;obtain⟨l,L,y,rfl,rfl,g,E,q⟩:=h;cases B;obtain⟨u,rfl,w⟩:=A.one;obtain⟨z,c,n,r,D,e⟩:=I.lstM g;refine call_meets F.slot_list_append ⟨_,e,rfl⟩ F.entry_list_append (F.args_list_append_2 _ _) (PySem.list_append l c.toArray n u (by rw[zZ];omega)) ⟨e,?_⟩
 refine⟨.non,_,I.lset (its':=c++[u]) g e (by simp) (r.append (.cons w .nil)) ?_,rfl,q⟩
 rw[qz,za8];omega
inductive zkc(x:V)(y:V)(H:Hp)(Q:VK):Prop
 | mk (l b c g:_) (_:x=.ref l) (_:y=.ref b) (_:H l=some (.lst c)) (_:H b=some (.lst g)) (_:c.length+g.length<=sizeLine) (_:∀p,H p=none->Q (.ref p) (upd H p (.lst (c++g)))):zkc  x y H Q
theorem ze5:OpR X (binaryOp .Add) zkc:=by
 intro o s σ H x y v u Q I E G h;obtain⟨l,b,O,U,rfl,rfl,A,w,L,q⟩:=h;cases E;cases G;obtain⟨z,g,n,r,J,e⟩:=I.lstM A;obtain⟨T,c,M,D,B,e2⟩:=I.lstM w;refine PySem.P.add_list e e2 ?_ (by rw[zZ,zZ];omega)
 have t:g.toArray++c.toArray=(g++c).toArray:=by simp
 rw[t];exact⟨.ref _,_,I.lnew (t':=s.toks) (r.append D) (by rw[qz];omega),rfl,q _ I.fresh⟩
end
section
variable{c:Program}{w:World}{A:Around}{E:Value->Shared->Prop}{s:Shared}
end
section
variable{X:Cx}
end
end L2
namespace Att
open PySem PySem.W PySem.Calls PyProof.Rows
theorem Q8{P:Params}{h:Heap}:∀(c:List Int) (g:List Value),WellAll P h g (c.map WData.int)->IntsAre g c:=by
 intro c;induction c with
 | nil=>
  intro g w;rw[List.map_nil] at w;cases w;exact .nil
 | cons n c l=>
  intro g w;rw[jV] at w;cases w with
  | cons a b=>
   cases a;exact .cons _ _ (l _ b)
theorem zdi{l:OpenLaw}{n:Nat}(I:l.most=some n){P:Params}{h:Heap}{args:List WData}{o:List Value}
  (g:l.row.toRowW.claim.pre args=true) (B:WellAll P h o args) :
  ∃a D c,o=[Value.ref a]/\args=[WData.list (c.map WData.int)]/\h.get? a=some { cls:=.type "list",data:=.seq D.toArray }/\IntsAre D c/\c.length<=n:=by
 have A:WShape.hasAll [] args [.list .int]=true:=(pre_splitW g).1;have hc:l.pre.holds [] { args:=args }=true:=(pre_splitW g).2;obtain⟨d,r,rfl,E,G⟩:=hasAllW_cons A;obtain rfl:=hasAllW_nil G;obtain⟨N,rfl,H⟩:=hasW_list E;obtain⟨c,rfl⟩:=items_int H;have t:c.length<=n:=by
  unfold OpenLaw.pre at hc;have u:(WTm.not (.lt (.lit (.int (n:Int))) (.len (.arg 0)))).holds [] { args:=[.list (c.map .int)] }=true:=by
   have u:=(holds_andW hc).1;rw[I] at u;exact u
  have w:=condW_of u (w_not (w_lt w_lit (w_len_list (w_arg rfl))));rw[zv] at w;refine Nat.le_of_not_lt fun q=>?_
  have L:(n:Int)<((c.length:Nat):Int):=by omega
  first
   | (rw[zT L] at w;exact absurd w (by decide))
   | (simp at w;omega)
 cases B with
 | cons w1 M=>
  cases M;cases w1 with
  | list J s=>exact⟨_,_,c,rfl,rfl,J,Q8 c _ s,t⟩
theorem zdo(l:OpenLaw)(args:List WData):l.row.toRowW.claim.post args (.bool true) args=true:=
 postW_of (r:=l.row.toRowW) (X:=(true==true))
  (show WShape.has [] (.bool true) .bool=true by first| rfl | decide | simp[WShape.has,WShape.arms,WShape.armsAll])
  (show(WTm.eq .res (.lit (.bool true))).value [] { args:=args,res:=some (.bool true),after:=args }=some (.bool (true==true)) from w_eq_bool (w_res rfl) w_lit) rfl
theorem attach_call{l:OpenLaw}{n:Nat}{q:Program}{c:List Str}{XP:(Str->Option Value)->Heap->Prop}{YP:World->Heap->Prop}{d:DefRec}
  (hn:l.most=some n) (N:d.params.defaults=[])
  (call:∀(w:World) (s₀ g:Shared) (I T:Str->Option Value) (A:Addr) (o:Obj) (U H s:Value) (a:Addr) (u:List Value) (J:List Int),
   Ground q c [] XP w s₀ I T g.heap->YP w g.heap ->
   g.heap.get? A=some o->o.data=.func (docDef d.name d.params d.body d.scope U H s)->g.heap.CodeRec H d.name->I d.name=some (.ref A) ->
   g.heap.get? a=some { cls:=.type "list",data:=.seq u.toArray }->IntsAre u J->J.length<=n->g.gens=#[] ->
   codeAny (model l.prog w) callerA (.call (.ref A) ⟨[.ref a],[]⟩) (fun r L=>r=.ok (.ret (.bool true))/\OldK g.heap L.heap/\L.os=g.os/\AllBare L.gens) g) :
  WalkO q c XP YP l.row.toRowW d [] (fun f u=>PySem.call f u):=by
 intro w s₀ g I T G Y A o U H s dV kV ho hd M hD O hg args a1 as E a0 a3 Q a2;obtain rfl:dV=.none:=Dflts.none hD N;obtain rfl:kV=.none:=Dflts.noKw hD;obtain⟨a,u,J,rfl,rfl,D,t,B⟩:=zdi hn E Q;refine enter_call (codeAny_mono (call w s₀ g I T A o U H s a u J G Y ho (fd_plain hd) M O D t B hg) fun r L hq=>?_)
 obtain⟨rfl,h2,h3,h4⟩:=hq;exact⟨.inl ⟨.bool true,.bool true,[],rfl,fun _=>rfl,.bool true,zdo l _,fun _=>⟨List.Pairwise.nil,fun _ hm=>(nomatch hm)⟩⟩,h2,h3,h4⟩
section
variable{c:Program}{w:World}{A:Around}{E:Value->Shared->Prop}{s:Shared}{K:Frag}
def ledger(h:Heap)(L d:Addr):List 0#l:=(List.range h.objs.size).filterMap fun a=>if a=L\/a=d then none else(h.get? a).map fun o=>(a,o)
end
end Att
namespace L2
open PySem PySem.Spec PyProof.Rows
theorem XV:∀{g:List Value} {c:List Int},IntsAre g c->Vals (c.map V.int) g
 | _,_,.nil=>.nil
 | _,_,.cons n t h=>.cons ⟨t,rfl⟩ (XV h)
def zjA(H:Hp):Prop:=∀b,H b=none\/∃o c,H b=some (.frz o (.lst c))
theorem zfv{P:Program}{w:World}{K:W.Frag}{U mb:Str->Option Value}{CX:CXT}{k:Nat}{fa a:Addr}{fd:FuncData}{x:Str}{sp:Sp}{c:Shared}{E:List Value}{Y:List Int}
  (KX:K.In c.heap) (N:c.heap.Ns mainGlobals U) (hb:c.heap.Ns builtinsNs mb) (a1:∀x:Str,x ≠ "__name__" -> mb x=bootBuiltins x) (M:c.heap.NoLimit) (hg:c.gens=#[])
  (ha:c.heap.get? a=some { cls:=.type "list",data:=.seq E.toArray }) (hi:IntsAre E Y) (hl:Y.length<=sizeLine) (hr:Room k callerA)
  (F:∀l:Heap,K.In l->l.Ns mainGlobals U->qA P w K U l CX k fa fd [x] sp) (D:∀(s:Shared) (u:Value),BindsTo s fd ⟨[u],[]⟩ [(x,u)])
  (a2:∀H:Hp,zjA H->SqL K H a (Y.map V.int)->sp [.ref a] H (fun v _=>v=.bl true) fun _ _ _=>False)
  (a0:∀H e t,CX [] H c (fun _ _ _=>False) e t->False) :
  codeAny (model P w) callerA (.call (.ref fa) ⟨[.ref a],[]⟩) (fun r t=>r=.ok (.ret (.bool true))/\OldK c.heap t.heap/\t.os=c.os/\AllBare t.gens) c:=by
 have rv:=XV hi;have T:=hi.length;have B:∀H:Hp,zjA H->SqL K H a (Y.map V.int)->HOk P w H c.heap->(∀b,H b≠none->b=a)->(H a≠none->K.lookup a=none) ->
   codeAny (model P w) callerA (.call (.ref fa) ⟨[.ref a],[]⟩) (fun r t=>r=.ok (.ret (.bool true))/\OldK c.heap t.heap/\t.os=c.os/\AllBare t.gens) c:=by
  intro H hO hS O hA hK;have g:∀{b:Addr} {o:Obj},c.heap.get? b=some o->H b=none->(Wh c.heap H).get? b=some o:=fun e n=>zfB e n
  have a3:∀{b:Addr} {o:Obj} {J:Array DictEntry} {I:Nat},c.heap.get? b=some o->o.data=.dict J I->H b=none:=fun {b o J I} e d=>by
   cases q:H b with
   | none=>rfl
   | some u=>
    have e':b=a:=hA b (by rw[q];simp)
    subst e';rw[ha] at e;cases e
    have d':Data.seq E.toArray _=Data.dict J I:=d;cases d'
  have A:∀{b:Addr} {m:Str->Option Value},c.heap.Ns b m->(Wh c.heap H).Ns b m:=fun {b m} ⟨o,J,I,e,d,r⟩=>⟨o,J,I,g e (a3 e d),d,r⟩
  have L:K.In (Wh c.heap H):=fun b o e=>g (KX b o e) (by
   cases q:H b with
   | none=>rfl
   | some u=>
    have e':b=a:=hA b (by rw[q];simp)
    subst e';rw[hK (by rw[q];simp)] at e;cases e)
  have hM:Mod K U (Wh c.heap H):=⟨L,A N,⟨mb,A hb,a1⟩,let ⟨mc,h1,h2⟩:=M;⟨mc,A h1,h2⟩⟩
  have e0:zhs P w K U (Wh c.heap H) callerA [] c H:=⟨rfl,hM,fun b o e=>zgR e,xJ (zdH _ _),trivial,fun b hb=>absurd (show b∈([]:List Addr) from hb) (by simp),O,.of_eq hg⟩
  refine codeAny_mono ((F _ L (A N)).run callerA [] c H ⟨[.ref a],[]⟩ [.ref a] [.ref a] _ _ hr e0 (D c (.ref a)) (.cons rfl .nil) (a2 H hO hS)) fun r t h=>?_
  cases r with
  | error e=>exact(a0 H e t h).elim
  | ok fl=>
   cases fl with
   | next=>exact False.elim h
   | brk=>exact False.elim h
   | cont=>exact False.elim h
   | ret u=>
    obtain⟨v,H',os,G,un,Q,r',q⟩:=h;have q':v=.bl true:=q;subst q';obtain rfl:u=Value.bool true:=r';refine⟨rfl,OldK.of_keep fun b o e=>?_,os,G⟩
    cases q:H b with
    | none=>exact un.keep b o e q (by intro z;exact absurd (show b∈([]:List Addr) from z) (by simp)) (by simp)
    | some u=>
     rcases hO b with z | ⟨ob,xs,z⟩
     ·rw[q] at z;cases z
     ·have z2:=un.frzs b ob _ z
      obtain⟨e1,_⟩:=O b _ z;obtain⟨e2,_⟩:=Q b _ z2;rw[e] at e1;cases e1
      exact e2
 cases hk:K.lookup a with
 | some o=>
  have e:=KX a o hk;rw[ha] at e;cases e;refine B (fun _=>none) (fun _=>.inl rfl) (.inr ⟨_,E.toArray,_,hk,rfl,rfl,rfl,by rw[zZ,T];exact hl,by simpa using rv⟩) (fun b u z=>by have z':(none:Option HO)=some u:=z;cases z') (fun b z=>absurd rfl z) fun z=>absurd rfl z
 | none=>
  refine B (fun b=>if b=a then some (.frz { cls:=.type "list",data:=.seq E.toArray } (.lst (Y.map V.int))) else none) (fun b=>?_) (.inl (.inr ⟨{ cls:=.type "list",data:=.seq E.toArray },zu rfl⟩)) (fun b u z=>?_) (fun b z=>?_) fun _=>hk
  ·by_cases hb:b=a
   ·exact .inr ⟨_,_,zu hb⟩
   ·exact .inl (zk hb)
  ·by_cases hb:b=a
   ·have z':=(zu hb).symm.trans z
    cases z';subst hb;exact⟨ha,by rw[zv];exact hl,E,_,rv,ha⟩
   ·have z':=(zk hb).symm.trans z
    cases z'
  ·by_cases hb:b=a
   ·exact hb
   ·exact absurd (zk hb) z
def ZP(s:Stmt):Arguments:=match s with
 | .FunctionDef _ a _ _ _ _ _ _ _ _=>a
 | _=>{ posonlyargs:=[],args:=[],vararg:=none,kwonlyargs:=[],kw_defaults:=[],kwarg:=none,defaults:=[] }
def yV(s:Stmt):List Stmt:=match s with
 | .FunctionDef _ _ b _ _ _ _ _ _ _=>b
 | _=>[]
def zy(s:Stmt):Scope:=match s with
 | .FunctionDef _ _ _ _ _ _ c _ _ _=>c
 | _=>{ kind:=.function,names:=[],isGenerator:=false,isCoroutine:=false }
abbrev CX0:CXT:=fun _ _ _ _ _ _=>False
abbrev E0:XK:=fun _ _ _=>False
theorem zki{X:Cx}:zbl CX0 X E0:=fun _ _ _ _ _ _ _ h=>h.elim
structure Fun(K:W.Frag)(x qual:Str)(st:Stmt)(f:Addr)(fd:FuncData):Prop where
 ex:∃(oc:Value) (od:Option Addr) (kV doc pm:Value) (an:Option Addr) (cdv ct:Value) (osl:Array (Option Value)),
  fd=PySem.W.fnOf x qual (ZP st) (yV st) (zy st) .none kV doc pm an cdv ct/\K.lookup f=some ⟨oc,od,.func fd,osl⟩/\PySem.W.codeIn K cdv qual=true
 kp:PySem.W.keepIn K (.ref f)=true
section
variable{P:Program}{w:World}{K:W.Frag}{g:Str->Option Value}{c:Heap}
theorem Fun.ok{x qual:Str}{st:Stmt}{f:Addr}{M:FuncData}{N J:List Str}{k:Nat}{L:Sp}(F:Fun K x qual st f M)(S:zE N J (zy st))(I:∀B H Q E,L B H Q E->B.length=J.length)
  (u:∀(o:Value) (A:Around) (l:List Env) (s:Shared) (H:Hp) (B:List V) (Q:VK) (E:XK),Room k (A.deeper (envOfC qual (zy st) s.heap.objs.size f o))->L B H Q E ->
   ∃t,PSs (zdO CX0 P w K g c N qual (zy st) f o A l s H E).nox (yV st) t/\t { nx:=fun _ O=>Q .non O,rt:=Q } (QG N B) H):qA P w K g c CX0 (k+1) f M J L:=by
 obtain⟨oc,od,kV,T,pm,an,o,ct,a0,rfl,Y,D⟩:=F.ex;refine zkO Y D S I fun A l s H B Q E U G=>?_
 obtain⟨t,h,q⟩:=u o A l s H B Q E U G;exact⟨t,h.nox,q⟩
theorem Fun.binds{x qual:Str}{st:Stmt}{f:Addr}{B:FuncData}{u:List Str}(F:Fun K x qual st f B)
  (h:∀(kV o t:Value) (s:Option Addr) (l ct:Value) (A:List Value),A.length=u.length->bindArgs (PySem.W.fnOf x qual (ZP st) (yV st) (zy st) .none kV o t s l ct) ⟨A,[]⟩=pure (u.zip A)):Binds K B u []:=by
 obtain⟨H,I,kV,o,t,s,l,ct,E,rfl,G,D⟩:=F.ex;exact .all (h kV o t s l ct)
end
theorem yn{A:Around}{k:Nat}(c:Room k A):A.units+1<cLine:=yK (Xx (by decide:1<=64) _) c.units
section
variable{X:Cx}
theorem pv(i:Nat){x:Str}{g:Pos}(l:X.N[i]? =some x:=by rfl)(hv:Vis X.env.scope x:=by first| exact Or.inl rfl | exact Or.inr 0#a | exact Or.inr 0#m)(hd:(x==("__debug__":Str))=false:=by decide)
  (c:(x==("__classdict__":Str))=false:=by decide):PE X (.Name x g) (zil i):=ziL l hv hd c
end
theorem ym{c A B:Prop}[Decidable c](g:c->A)(l:¬c->B):if c then A else B:=by
 by_cases h:c
 ·rw[zu h]
  exact g h
 ·rw[zk h]
  exact l h
def Same(H c:Hp):Prop:=∀b o,H b=some o->c b=some o
theorem Same.refl(H:Hp):Same H H:=fun _ _ h=>h
def u6:=@Same.refl
theorem Same.trans{H g l:Hp}(a:Same H g)(b:Same g l):Same H l:=fun c o h=>b c o (a c o h)
theorem Same.free{H c:Hp}(e:Same H c){l:Addr}(h:c l=Option.none):H l=Option.none:=by
 cases q:H l with
 | none=>rfl
 | some o=>
  rw[e l o q] at h;cases h
theorem Same.seq{K:W.Frag}{H c:Hp}{a:Addr}{g:List V}(e:Same H c)(h:SqL K H a g):SqL K c a g:=by
 rcases h with(h | ⟨o,h⟩) | h
 ·exact .inl (.inl (e _ _ h))
 ·exact .inl (.inr ⟨o,e _ _ h⟩)
 ·exact .inr h
end L2
namespace L2
inductive Ex1{c:Sort _}(P:c->Prop):Prop
 | mk (g:c) (h:P g):Ex1 P
inductive Ex2{c:Sort _}{g:Sort _}(P:c->g->Prop):Prop
 | mk (l:c) (o:g) (h:P l o):Ex2 P
inductive Ex3{c:Sort _}{g:Sort _}{l:Sort _}(P:c->g->l->Prop):Prop
 | mk (o:c) (s:g) (t:l) (h:P o s t):Ex3 P
inductive Ex4{c:Sort _}{g:Sort _}{l:Sort _}{o:Sort _}(P:c->g->l->o->Prop):Prop
 | mk (s:c) (t:g) (u:l) (w:o) (h:P s t u w):Ex4 P
inductive Ex6{c:Sort _}{g:Sort _}{l:Sort _}{o:Sort _}{s:Sort _}{t:Sort _}(P:c->g->l->o->s->t->Prop):Prop
 | mk (u:c) (w:g) (A:l) (B:o) (D:s) (E:t) (h:P u w A B D E):Ex6 P
inductive Ex9{c:Sort _}{g:Sort _}{l:Sort _}{o:Sort _}{s:Sort _}{t:Sort _}{u:Sort _}{w:Sort _}{A:Sort _}(P:c->g->l->o->s->t->u->w->A->Prop):Prop
 | mk (B:c) (D:g) (E:l) (G:o) (H:s) (I:t) (J:u) (L:w) (M:A) (h:P B D E G H I J L M):Ex9 P
inductive An2(c g:Prop):Prop
 | mk (l:c) (o:g):An2 c g
inductive An4(c g l o:Prop):Prop
 | mk (s:c) (t:g) (u:l) (w:o):An4 c g l o
inductive An5(c g l o s:Prop):Prop
 | mk (t:c) (u:g) (w:l) (A:o) (B:s):An5 c g l o s
inductive An6(c g l o s t:Prop):Prop
 | mk (u:c) (w:g) (A:l) (B:o) (D:s) (E:t):An6 c g l o s t
inductive An8(c g l o s t u w:Prop):Prop
 | mk (A:c) (B:g) (D:l) (E:o) (G:s) (H:t) (I:u) (J:w):An8 c g l o s t u w
theorem zkF{α:Type _}{g:List α}(h:g.length=1):∃c,g=[c]:=
 match g,h with
 | [c],_=>⟨c,rfl⟩
theorem zkE{α:Type _}{l:List α}(h:l.length=2):∃c g,l=[c,g]:=
 match l,h with
 | [c,g],_=>⟨c,g,rfl⟩
theorem zkD{α:Type _}{o:List α}(h:o.length=3):∃c g l,o=[c,g,l]:=
 match o,h with
 | [c,g,l],_=>⟨c,g,l,rfl⟩
theorem zkC{α:Type _}{s:List α}(h:s.length=4):∃c g l o,s=[c,g,l,o]:=
 match s,h with
 | [c,g,l,o],_=>⟨c,g,l,o,rfl⟩
theorem zkB{α:Type _}{t:List α}(h:t.length=5):∃c g l o s,t=[c,g,l,o,s]:=
 match t,h with
 | [c,g,l,o,s],_=>⟨c,g,l,o,s,rfl⟩
theorem zkA{α:Type _}{u:List α}(h:u.length=6):∃c g l o s t,u=[c,g,l,o,s,t]:=
 match u,h with
 | [c,g,l,o,s,t],_=>⟨c,g,l,o,s,t,rfl⟩
end L2
set_option maxHeartbeats 4000000
namespace L2
open PySem PySem.Spec PyProof.Rows
def qy(g:List (Str×Addr)):List (Str×NameKind)->List (Str×Addr)->List (Str×Addr)
 | [],c=>c
 | (n,k)::r,c=>qy g r (if(k==NameKind.free)=true then(n,(g.lookup n).getD 0)::c else c)
theorem zfO{env:Env}(names:List (Str×NameKind)):∀(g:List (Str×Addr)),(∀y∈names,y.2=NameKind.free->∃c,env.cells.lookup y.1=some c) ->
  (forIn names g fun(x:Str×NameKind) (o:List (Str×Addr))=>
   (if(x.2==NameKind.free)=true then(cellOf env x.1 >>= fun a=>(pure (ForInStep.yield ((x.1,a)::o)):Sem (ForInStep (List (Str×Addr))))) else pure (ForInStep.yield o)))=(pure (qy env.cells names g):Sem (List (Str×Addr))):=by
 induction names with
 | nil=>intro g _;rfl
 | cons y r s=>
  intro g h;obtain⟨n,k⟩:=y;rw[yH];by_cases hk:(k==NameKind.free)=true
  ·obtain⟨c,hc⟩:=h (n,k) jK (by simpa using hk)
   have e1:cellOf env n=pure c:=by
    unfold cellOf;rw[show env.cells.lookup n=some c from hc]
   simp only[hk,if_true,e1,pure_bind];rw[s _ fun z l=>h z (z9 _ l)]
   show _=pure (qy env.cells r (if(k==NameKind.free)=true then(n,(env.cells.lookup n).getD 0)::g else g))
   rw[zu hk,show env.cells.lookup n=some c from hc]
   all_goals rfl
  ·simp only[hk,pure_bind]
   simp only[jw,if_false,pure_bind];rw[s _ fun z l=>h z (z9 _ l)]
   show _=pure (qy env.cells r (if(k==NameKind.free)=true then(n,(env.cells.lookup n).getD 0)::g else g))
   rw[zk hk]
theorem Jp{g:Env}{scope:Scope}(h:∀y∈scope.names,y.2=NameKind.free->∃c,g.cells.lookup y.1=some c):closureFor scope g=pure (qy g.cells scope.names []):=by
 have e:=zfO (env:=g) scope.names [] h;unfold closureFor;refine Eq.trans ?_ (Eq.trans (congrArg (fun m=>m >>= fun l=>(pure l:Sem (List (Str×Addr)))) e) ?_)
 ·rfl
 ·simp
theorem wC{o:List (Str×Addr)}{x:Str}:∀(names:List (Str×NameKind)) (c:List (Str×Addr)),(qy o names c).lookup x=(if(names.any fun y=>y.2==NameKind.free&&x==y.1)=true then some ((o.lookup x).getD 0) else c.lookup x)
 | [],c=>by simp[qy]
 | (n,k)::r,c=>by
  unfold qy;rw[wC r];by_cases g:(r.any fun y=>y.2==NameKind.free&&x==y.1)=true
  ·rw[zu g,zu (by rw[xX,g,Bool.or_true])]
  ·rw[zk g]
   by_cases hk:(k==NameKind.free)=true
   ·rw[zu hk]
    by_cases hx:(x==n)=true
    ·rw[zu (by rw[xX];simp only[hk,hx,Bool.and_self,Bool.true_or])]
     have e:x=n:=by simpa using hx
     subst e;simp[jg]
    ·rw[zk (by rw[xX];simp only[hk,hx,Wx,Ww];exact g)]
     have l:(x==n)=false:=by simpa using hx
     simp[jg,l]
   ·rw[zk hk,zk (by rw[xX];simp only[hk,Bool.false_and,Ww];exact g)]
abbrev qm(X:Cx)(c:List Str)(scope:Scope)(C:Addr)(s:Shared)(H:Hp)(ex:List Addr):Cx where
 prog:=X.prog
 w:=X.w
 K:=X.K
 mg:=X.mg
 base:=X.base
 A:=X.A
 N:=c
 s₀:=s
 H₀:=H
 env:=compEnvC scope (qy X.env.cells scope.names []) C X.env
 outer:=X.stack
 stack:=X.stack
 ex:=ex
 fn:=fun _=>false
 calm:=X.calm
 pn:=[]
 xe:=fun _ _=>False
abbrev ZC(l:List Expr)(g:Env):Sem Bool:=
 forIn l true fun(c:Expr) (r:Bool)=>if r=true then(isTrue c g (eval c g) >>= fun ok=>(pure (ForInStep.yield ok):Sem (ForInStep Bool))) else pure (ForInStep.yield r)
theorem Xh{c:Program}{w:World}{A:Around}{R:Result->Shared->Prop}{s:Shared}{o T B:Expr}{D:List Expr}{scope:Scope}{H:Pos}{L l:Value}{g:Env}(J:Nat->Shared->Prop)
  (I:∀n s,J n s->wpAny 0#e A (pyNext L) (fun r s1=>match r with
   | none=>R (.ok .next) s1
   | some v=>wpAny 0#e A (letOwnedTupleGo T L v) (fun _ s2=>wpAny 0#e A (assign T g v) (fun _ s3=>
     wpAny 0#e A (ZC D g) (fun ok M=>
      if ok=true then wpAny 0#e A (eval o g) (fun x N=>
       wpAny 0#e A (call (.builtin "list.append") [l,x]) (fun _ O=>∃m,m<n/\J m O) 0#r N) 0#r M
      else ∃m,m<n/\J m M) 0#r s3) 0#r s2) 0#r s1) 0#r s)
  (n:Nat) (h:J n s):codeAny 0#e A (.compLoop (.ListComp o [⟨T,B,D,0⟩] scope H) 0 L l g) R s:=by
 have G:∀{α:Type} {t:Sem α} {Q:α->Shared->Prop} {E:Value->Shared->Prop} {s:Shared},wpAny 0#e A t Q 0#r s->wpAny 0#e A t Q E s:=fun x=>jt x (fun _ _ q=>q) fun _ _ q=>q.elim
 refine codeAny_loop rfl J (fun k u hJ=>?_) n h
 show wpAny _ A ((compTurn (.ListComp o [⟨T,B,D,0⟩] scope H) 0 L l g).onRaise (fun x=>do noteFrame x g;theTreesLotGoes x)) _ _ u
 refine wpAny_noted ?_
 rw[compTurn_list];refine zf (wF (zf (G (jt (I k u hJ) (fun r s1 Y=>?_) fun _ _ q=>q))))
 cases r with
 | none=>exact zx Y
 | some v=>
  refine zf (G (jt Y (fun _ s2 h2=>zf (G (jt h2 (fun _ s3 h3=>zf (G (jt h3 (fun ok M h4=>?_) fun _ _ q=>q))) fun _ _ q=>q))) fun _ _ q=>q))
  cases ok with
  | false=>exact zx ⟨rfl,h4⟩
  | true=>
   have U:wpAny 0#e A (eval o g) (fun x N=>wpAny 0#e A (call (.builtin "list.append") [l,x]) (fun _ O=>∃m,m<k/\J m O) 0#r N) 0#r M:=h4
   refine zf (zf (G (jt U (fun x N h5=>zf (G (jt h5 (fun _ O h6=>zx (zx ⟨rfl,h6⟩)) fun _ _ q=>q))) fun _ _ q=>q)))
def PF(X:Cx)(g:List Expr)(t:TT):Prop:=
 ∀(c:List 0#l) (s:Shared) (σ:St) (H:Hp) (Q:Bool->Hp->Prop),Inv X c σ H s->t σ H Q->wpAny 0#b X.A (ZC g X.env) (TP X c σ Q) X.xe s
def zkQ:TT:=fun _ H Q=>Q true H
theorem qE{X:Cx}:PF X [] zkQ:=fun c s σ H Q I h=>zx ⟨H,I,h⟩
theorem JL{X:Cx}{c:Expr}{t:TT}(hc:PT X c t):PF X [c] t:=by
 intro g s σ H Q I h;unfold ZC;simp only[yH,Zo,if_true];refine zf (zf (thn (hc g s σ H Q I h) fun ok s1 q=>zx (zx q)))
theorem Jm{P:Program}{w:World}{H:Hp}{h g:Heap}{C:Addr}(x:HOk P w H h)(l:H C=none)(k:∀b o,b≠C->h.get? b=some o->g.get? b=some o):HOk P w H g:=fun b u e=>by
 refine(x b u e).stay (fun c v hc q=>k c v ?_ q) (fun _ q=>q) fun _ _ q=>q
 rcases hc with z | z
 ·rw[z];exact zo e l
 ·exact zo z l
theorem we{P:Program}{w:World}{H:Hp}{h:Heap}{a:Addr}{o:HO}(x:HOk P w H h)(l:H a=none)(g:ObjOk P w (upd H a o) h a o):HOk P w (upd H a o) h:=fun b u e=>by
 by_cases hb:b=a
 ·subst hb;rw[ze] at e;cases e;exact g
 ·rw[zq hb] at e
  exact(x b u e).stay (fun c v _ q=>q) (fun c q=>by rw[zq (zo q l)];exact q) fun c s q=>by rw[zq (zo q l)];exact q
theorem yb{fs c:List Addr}{H s:Hp}{h t:Heap}{a:Addr}{o:HO}(u:Un fs c H s h t)(w:a∈c)(g:H a=none):Un fs c H (upd s a o) h t where
 keep:=u.keep
 slot:=u.slot
 free:=fun b l q n hx=>by
  have hb:b≠a:=fun z=>hx (by rw[z];exact w)
  rw[zq hb];exact u.free b l q n hx
 there:=u.there
 tups:=fun b B q=>by rw[zq (zo q g)];exact u.tups b B q
 frzs:=fun b l v q=>by rw[zq (zo q g)];exact u.frzs b l v q
 tbls:=fun b A q=>by rw[zq (zo q g)];exact u.tbls b A q
theorem VI{fs l:List Addr}{H g:Hp}{h s t:Heap}{C:Addr}(u:Un fs l H g h s)(c:h.objs.size<=C)(k:∀b o,b≠C->s.get? b=some o->t.get? b=some o):Un fs l H g h t where
 keep:=fun b o q n hb hx=>k b o (zP (jz (zH q) c)) (u.keep b o q n hb hx)
 slot:=fun b o q n hb hx=>let ⟨A,e⟩:=u.slot b o q n hb hx;⟨A,k b _ (zP (jz (zH q) c)) e⟩
 free:=u.free
 there:=fun b o q hx=>let ⟨w,e⟩:=u.there b o q hx;⟨w,k b _ (zP (jz (zH q) c)) e⟩
 tups:=u.tups
 frzs:=u.frzs
 tbls:=u.tbls
def QP(sn on:List (Str×NameKind))(N c:List Str)(g:List Nat):Bool:=
 sn.all (fun y=>y.2 != .cell&&(y.2 != .local||sn.lookup y.1==some .local)&&(y.2 != .free||(on.lookup y.1==some .cell||on.lookup y.1==some .free)))&&c.length==g.length
  && (c.zip g).all fun p=>sn.lookup p.1==some .free&&N[p.2]? ==some p.1
structure zgf(sn on:List (Str×NameKind))(N fr:List Str)(js:List Nat):Prop where
 cell:∀y∈sn,y.2≠NameKind.cell
 loc:∀y∈sn,y.2=NameKind.local->sn.lookup y.1=some .local
 free:∀y∈sn,y.2=NameKind.free->on.lookup y.1=some .cell\/on.lookup y.1=some .free
 len:fr.length=js.length
 fr:∀(k:Nat) (x:Str),fr[k]? =some x->sn.lookup x=some .free/\∃j:Nat,js[k]? =some j/\N[j]? =some x
theorem Y7{sn on:List (Str×NameKind)}{N g:List Str}{c:List Nat}(h:QP sn on N g c=true):zgf sn on N g c:=by
 unfold QP at h;rw[jI,jI,vF,vF] at h;obtain⟨⟨l,t⟩,u⟩:=h;have o:g.length=c.length:=by simpa using t
 refine⟨fun y hy=>?_,fun y hy e=>?_,fun y hy e=>?_,o,fun k x e=>?_⟩
 ·have:=l y hy
  simp only[jI,bne_iff_ne] at this;exact this.1.1
 ·have:=l y hy
  simp only[jI,WA,bne_iff_ne,xp] at this;exact this.1.2.resolve_left fun z=>z e
 ·have:=l y hy
  simp only[jI,WA,bne_iff_ne,xp] at this;exact this.2.resolve_left fun z=>z e
 ·have hk:k<g.length:=(zU.mp e).1
  have s:k<c.length:=by omega
  have w:(x,c[k])∈g.zip c:=by
   refine qw (i:=k) ?_
   rw[zfZ];exact⟨e,by simp[s]⟩
  have:=u _ w;simp only[jI,xp] at this;exact⟨this.1,c[k],by simp[s],this.2⟩
def upS(n:Nat)(c:List Nat)(σ:St):St:=List.replicate n none++c.map fun j=>(σ[j]?).join
def tLC(O:TI)(n:Nat)(w:List Nat)(g:TG)(M:TT)(L:TE):TE:=fun σ H Q=>O σ H fun J E=>
 ∃W:Nat->Nat->List V->Hp->Prop,(∃m,W 0 m [] E)/\∀i m l c,W i m l c ->
  (J.stop i c/\l.length<=sizeLine/\∀D,c D=none->Q (.ref D) (upd c D (.lst l))) \/
  (J.go i c/\∃N:List V->Hp->Prop,(∀B s,N B s->∃A,A<m/\W (i+1) A B s)/\∀x t,J.yld i c x t->g x (upS n w σ) t fun o G=>o.drop n=(upS n w σ).drop n/\M o G fun b u=>
   if b=true then L o u fun y I=>l.length<sizeLine/\N (l++[y]) I else N l u)
theorem xv{c:Env}{x:Str}{l:NameKind}:∀{names:List (Str×NameKind)},(names.map fun(n,k)=>if 0#g then(n,NameKind.cell) else(n,k)).lookup x=some l ->
  ∃k,names.lookup x=some k/\(l=k\/(k=.free/\l=.cell))
 | [],h=>by simp at h
 | (n,k)::r,h=>by
  by_cases hx:(x==n)=true
  ·refine⟨k,by simp[jg,hx],?_⟩
   have h:List.lookup x ((if 0#g=true then(n,NameKind.cell) else(n,k))::_)=some l:=h
   by_cases hc:0#g=true
   ·rw[zu hc,jg,hx] at h
    simp only[jI,xp] at hc;exact .inr ⟨hc.1.1,(qT h).symm⟩
   ·rw[zk hc,jg,hx] at h
    exact .inl (qT h).symm
  ·have g:(x==n)=false:=by simpa using hx
   have h:List.lookup x ((if 0#g=true then(n,NameKind.cell) else(n,k))::_)=some l:=h
   have o:(r.map fun(n,k)=>if 0#g then(n,NameKind.cell) else(n,k)).lookup x=some l:=by
    by_cases hc:0#g=true
    ·rw[zu hc,jg,g] at h;exact h
    ·rw[zk hc,jg,g] at h;exact h
   obtain⟨s,e,z⟩:=xv o;exact⟨s,by rw[jg,g];exact e,z⟩
theorem x9{env:Env}{x:Str}:∀{names:List (Str×NameKind)},names.lookup x=some .free->∃c,(names.map fun(n,k)=>if(k==NameKind.free&&env.scope.kind==.function&&env.kindOf n==some .cell) then(n,NameKind.cell) else(n,k)).lookup x=some c/\(c=.cell\/c=.free)
 | [],h=>by simp at h
 | (n,k)::r,h=>by
  by_cases hx:(x==n)=true
  ·rw[jg,hx] at h
   cases(qT h);show ∃c,List.lookup x ((if(NameKind.free==NameKind.free&&env.scope.kind==.function&&env.kindOf n==some .cell)=true then(n,NameKind.cell) else(n,NameKind.free))::_)=some c/\_
   by_cases hc:(NameKind.free==NameKind.free&&env.scope.kind==.function&&env.kindOf n==some .cell)=true
   ·rw[zu hc];exact⟨.cell,by simp[jg,hx],.inl rfl⟩
   ·rw[zk hc];exact⟨.free,by simp[jg,hx],.inr rfl⟩
  ·have g:(x==n)=false:=by simpa using hx
   rw[jg,g] at h;obtain⟨c,e,z⟩:=x9 (env:=env) (names:=r) h;refine⟨c,?_,z⟩
   show List.lookup x ((if(k==NameKind.free&&env.scope.kind==.function&&env.kindOf n==some .cell)=true then(n,NameKind.cell) else(n,k))::_)=some c
   by_cases hc:(k==NameKind.free&&env.scope.kind==.function&&env.kindOf n==some .cell)=true
   ·rw[zu hc,jg,g];exact e
   ·rw[zk hc,jg,g];exact e
theorem zO{g:List (Str×Addr)}{names:List (Str×NameKind)}{x:Str}{c:Addr}(h:(qy g names []).lookup x=some c)(s:∀y∈names,y.2=NameKind.free->∃c,g.lookup y.1=some c):g.lookup x=some c:=by
 rw[wC] at h;by_cases l:(names.any fun y=>y.2==NameKind.free&&x==y.1)=true
 ·rw[zu l] at h
  obtain⟨y,hy,e⟩:=Qv.mp l;simp only[jI,xp] at e;obtain⟨t,o⟩:=s y hy e.1;rw[<- e.2] at o;rw[o] at h ⊢;exact h
 ·rw[zk l] at h
  cases h
theorem xo{c:List (Str×Addr)}{names:List (Str×NameKind)}{x:Str}(h:names.lookup x=some .free):(qy c names []).lookup x=some ((c.lookup x).getD 0):=by
 rw[wC,zu];exact Qv.mpr ⟨(x,.free),vI h,by simp⟩
theorem xO{n:Nat}{c:List Nat}{σ:St}{i:Nat}{v:V}(h:(upS n c σ)[i]? =some (some v)):n<=i/\((upS n c σ).drop n)[i-n]? =some (some v)/\∃j:Nat,c[i-n]? =some j/\σ[j]? =some (some v):=by
 unfold upS at h ⊢;by_cases s:i<n
 ·rw[wv (by simpa using s),List.getElem?_replicate] at h
  split at h<;>cases h
 ·have e:(List.replicate n (none:Option V)++c.map fun j=>(σ[j]?).join).drop n=c.map fun j=>(σ[j]?).join:=by
   rw[List.drop_append_of_le_length (by simp)];simp
  rw[vh (by simpa using s),xF] at h
  refine⟨by omega,by rw[e];exact h,?_⟩
  rw[zY] at h;cases g:c[i-n]? with
  | none=>rw[g] at h;cases h
  | some j=>
   rw[g] at h;have h:(σ[j]?).join=some v:=qT h;refine⟨j,rfl,?_⟩
   cases l:σ[j]? with
   | none=>rw[l] at h;cases h
   | some o=>rw[l] at h;exact congrArg some h
theorem Jd{n:Nat}{c:List Nat}{σ:St}:(upS n c σ).length=n+c.length:=by unfold upS;simp
section
variable{X:Cx}{w E t:Expr}{A:List Expr}{scope:Scope}{G:Pos}{O:TI}{g:TG}{M:TT}{L:TE}
theorem zd0{N:List (Addr×Obj)}{σ:St}{H:Hp}{s:Shared}{fp:List Addr}(own fr:List Str)(js:List Nat)(I:Inv X N σ H s)(B:zgf scope.names X.env.scope.names X.N fr js)(hk:scope.kind=.function)
  (f2:∀b∈fp,jZ X N H b) (fl:∀b∈fp,b<s.heap.objs.size) {D C:Addr} (hD:D=s.heap.objs.size) {T h1:Heap} (e3:T=s.heap.push { cls:=.type "list",dict:=none,data:=.seq ([]:List Value).toArray }) (hC:C=T.objs.size)
  {m:Str->Option Value} (a4:h1.Ns C m) (k4:∀b o,T.get? b=some o->h1.get? b=some o) {t4:Nat} :
  Inv (qm X (own++fr) scope C { s with heap:=T } H (D::fp)) [] (upS own.length js σ) H { s with heap:=h1,toks:=t4 }:=by
 have k3:∀b o,s.heap.get? b=some o->T.get? b=some o:=fun b o e=>by rw[e3];exact zN _ e
 have Y:Inv X N σ H { s with heap:=T }:=I.kept (t':=s.toks) k3;have hz:T.objs.size=s.heap.objs.size+1:=by rw[e3,qJ]
 have J:∀y∈scope.names,y.2=NameKind.free->∃c,X.env.cells.lookup y.1=some c:=fun y hy e=>I.ok.has y.1 (B.free y hy e)
 have Q:∀x c,X.env.cells.lookup x=some c->c<s.heap.objs.size:=fun x c e=>by
  obtain⟨v,q⟩:=I.cell x c e;exact q.lt
 refine⟨⟨I.ok.mod,hk,I.ok.glob,I.ok.blt,xJ hC.symm,fun x y c e1 e2=>?_,fun x hx=>?_,fun x c hf=>(nomatch hf),fun hc=>I.ok.hd hc,I.ok.frames,.inl rfl,fun b hb=>?_,Y.bs,xa I.ok.bsz Y.sz,fun b o e hb=>?_,fun b hb hf=>?_,Y.stack,Y.stkFree⟩,
  rfl,I.bare,Un.kept k4,⟨m,a4,fun i x v e1 e2 a5=>?_⟩,fun x c e=>?_,?_,fun x c e=>?_,fun p hp=>absurd (show p∈([]:List 0#l) from hp) (by simp),Y.hok.kept k4,?_⟩
 ·exact I.ok.inj x y c (zO e1 J) (zO e2 J)
 ·obtain⟨k,e,z⟩:∃k,scope.names.lookup x=some k/\(k=.free):=by
   rcases hx with hx | hx
   ·obtain⟨k,e,z⟩:=xv hx
    rcases z with z | z
    ·subst z;exact absurd rfl (B.cell _ (vI e))
    ·exact⟨k,e,z.1⟩
   ·obtain⟨k,e,z⟩:=xv hx
    rcases z with z | z
    ·subst z;exact⟨_,e,rfl⟩
    ·exact⟨k,e,z.1⟩
  subst z;exact⟨_,xo e⟩
 ·rcases zC.mp hb with z | hb
  ·subst z
   refine⟨by rw[hD,hC,hz];exact zP (xg _),fun x c e=>?_⟩
   have:=Q x c (zO e J);rw[hD];exact zP this
  ·refine⟨by rw[hC,hz];exact zP (xt (fl b hb)),fun x c e=>?_⟩
   exact(f2 b hb).2.2.2.2.1 x c (zO e J)
 ·rcases zC.mp hb with z | hb
  ·have:=zH (I.bk b o e)
   rw[z,hD] at this;exact jW _ this
  ·rcases(f2 b hb).2.2.2.1 with z | z
   ·exact I.ok.noex b o e z
   ·exact absurd (jz (zH (I.ok.bs b o e).1) z) (jW _)
 ·have a1:=zC.mp (I.stkSub b hf)
  rcases zC.mp hb with z | hb
  ·rcases a1 with y | y
   ·have:=I.lt
    rw[<- y,z,hD] at this;exact jW _ this
   ·exact I.nofs (a:=b) (by rw[z,hD];exact zD _) y
  ·rcases a1 with y | y
   ·exact(f2 b hb).2.1 y
   ·exact(f2 b hb).2.2.1 y
 ·obtain⟨hn,_,j,ej,es⟩:=xO e2
  have ex:fr[i-own.length]? =some x:=by rw[vh hn] at e1;exact e1
  obtain⟨U,j',a0,eN⟩:=B.fr _ x ex;have:j'=j:=by rw[ej] at a0;exact(qT a0).symm
  subst this;have a2:=B.free _ (vI U) rfl;obtain⟨m0,_,hl⟩:=I.loc;obtain⟨u,r,l⟩:=hl j' x v eN es (by rcases a2 with z | z;exact .inr (.inl z);exact .inr (.inr z))
  refine⟨u,r,.inr ?_⟩
  rcases l with ⟨kl,_⟩ | ⟨_,c,ec,o,eo,ed⟩
  ·have a3:X.env.scope.names.lookup x=some .local:=kl
   rcases a2 with z | z
   ·exact absurd (z.symm.trans a3) (by decide)
   ·exact absurd (z.symm.trans a3) (by decide)
  ·obtain⟨k',e',z⟩:=x9 (env:=X.env) U
   have eq:(qy X.env.cells scope.names []).lookup x=some c:=by rw[xo U,ec];rfl
   refine⟨?_,c,eq,o,k4 c o (k3 c o eo),ed⟩
   rcases z with z | z
   ·subst z;exact .inl e'
   ·subst z;exact .inr e'
 ·obtain⟨v,o,eo,ed⟩:=I.cell x c (zO e J)
  exact⟨v,o,k4 c o (k3 c o eo),ed⟩
 ·exact Y.hok.fresh (xJ hC.symm)
 ·exact I.freeC x c (zO e J)
 ·rw[Jd,<- B.len]
  show _=(own++fr).length;rw[qz]
inductive LcJ(Y:Cx)(D:Addr)(B:Nat->Heap->Prop)(u:List Addr)(c:List 0#l)(σ:St)(W:Nat->Nat->List V->Hp->Prop)(n:Nat)(s:Shared):Prop
 | mk (i:Nat) (H:List V) (l:List Value) (o:Hp) (z:Nat) (_:Inv Y c σ o s) (_:B i s.heap) (_:∀b∈u,o b=none) (_:o D=none) (_:s.heap.get? D=some { cls:=.type "list",data:=.seq l.toArray z }) (_:Vals H l) (_:W i n H o):LcJ Y D B u c σ W n s
inductive LcE(Y:Cx)(D:Addr)(c:List 0#l)(σ:St)(N:List V->Hp->Prop)(s:Shared):Prop
 | mk (u:List V) (l:List Value) (o:Hp) (z:Nat) (_:Inv Y c σ o s) (_:o D=none) (_:s.heap.get? D=some { cls:=.type "list",data:=.seq l.toArray z }) (_:Vals u l) (_:N u o):LcE Y D c σ N s
theorem zg3{Y:Cx}{D it:Addr}{B:List Addr}{tn:Nat->Heap->Prop}{J:It}{c:List 0#l}{σ4:St}{Kp:St->Prop}{W:Nat->Nat->List V->Hp->Prop}{N:List V->Hp->Prop}{n:Nat}{Q:Shared}
  (hc:Y.calm=true) (hx:Y.xe=fun _ _=>False) (hg:PG Y E g) (hf:PF Y A M) (he:PE Y w L) (T:Jb Y.prog Y.w Y.K E J B it tn)
  (fD:∀s:Hp,s D=none->jZ Y c s D) (f2:∀b∈B,∀s:Hp,s b=none->jZ Y c s b) (nD:∀b∈B,D≠b) (bk:∀σ9 s s',Inv Y c σ9 s s'->Kp σ9->Inv Y c σ4 s s')
  (ak:∀i m zs H7,W i m zs H7->(J.stop i H7/\N zs H7)\/(J.go i H7/\∃N2:List V->Hp->Prop,(∀zs s,N2 zs s->∃m',m'<m/\W (i+1) m' zs s)/\∀x H8,J.yld i H7 x H8->g x σ4 H8 fun σ9 H9=>Kp σ9/\M σ9 H9 fun b U=>
    if b=true then L σ9 U fun y al=>zs.length<sizeLine/\N2 (zs++[y]) al else N2 zs U)) (j:LcJ Y D tn B c σ4 W n Q) :
  wpAny (model Y.prog Y.w) Y.A (pyNext (.ref it)) (fun r s1=>match r with
   | none=>LcE Y D c σ4 N s1
   | some v=>wpAny (model Y.prog Y.w) Y.A (letOwnedTupleGo E (.ref it) v) (fun _ s2=>wpAny (model Y.prog Y.w) Y.A (assign E Y.env v) (fun _ s3=>
     wpAny (model Y.prog Y.w) Y.A (ZC A Y.env) (fun ok s4=>
      if ok=true then wpAny (model Y.prog Y.w) Y.A (eval w Y.env) (fun x Q=>
       wpAny (model Y.prog Y.w) Y.A (call (.builtin "list.append") [.ref D,x]) (fun _ s6=>∃m,m<n/\LcJ Y D tn B c σ4 W m s6) 0#r Q) 0#r s4
      else ∃m,m<n/\LcJ Y D tn B c σ4 W m s4) 0#r s3) 0#r s2) 0#r s1) 0#r Q:=by
 unfold PG at hg;unfold PF at hf;unfold PE at he
 rw[hx] at hg hf he;obtain⟨i,ys,H,H5,z5,I5,aj,af,ao,ai,a7,w5⟩:=j;have ae:=I5.pinned (fp:=[D]) (fun b hb=>by rw[zW.mp hb];exact fD _ ao) (fun b hb=>by rw[zW.mp hb];exact⟨_,ai,fun v q=>nomatch q⟩)
 have mD:(D,({ cls:=.type "list",data:=.seq H.toArray z5 }:Obj))∈c++zX [D] Q.heap:=qG _ (qP (zW.mpr rfl) ai);have ab:∀{s:Hp},(∀b∈B,s b=none)->∀b∈B,jZ Y (c++zX [D] Q.heap) s b:=fun hn b hb=>by
  obtain⟨a1,a2,a3,a4,a5,a6⟩:=f2 b hb _ (hn b hb);refine⟨a1,a2,a3,a4,a5,fun p hp=>?_⟩
  rcases ja.mp hp with q | q
  ·exact a6 p (vg _ q)
  ·rcases ja.mp q with q | q
   ·exact a6 p (qG _ q)
   ·rw[zW.mp (v0 q).1];exact nD b hb
 rcases ak i n ys H5 w5 with ⟨stop,q⟩ | ⟨go,N2,hN,step⟩
 ·refine thn (T.done Y rfl rfl rfl hc i _ Q _ H5 _ ae (ab af) aj stop) fun r s6 ⟨hr,I6⟩=>?_
  subst hr;obtain⟨o6,as,_⟩:=I6.pin (D,_) (qG _ mD);exact⟨ys,H,H5,z5,I6.unpinned,as,o6,a7,q⟩
 ·refine thn (T.item Y rfl rfl rfl hc i _ Q _ H5 _ ae (ab af) aj go) fun r s6 ⟨u,hr,h6⟩=>?_
  subst hr;refine thn h6 fun _ s7 ⟨x,H7,I7,r7,y7,a8,an⟩=>?_
  refine thn (hg _ s7 _ H7 x u _ (I7.pinned (ab an) (T.obj _ _ a8)) r7 (step x H7 y7)) fun _ s8 ⟨σ8,H8,I8,ap,q8⟩=>?_
  refine thn (hf _ s8 σ8 H8 _ I8 q8) fun ok s9 ⟨H9,I9,q9⟩=>?_
  have ac:=qG Y.pn (vg (zX B s7.heap) mD);have mF:∀b∈B,∀o,s7.heap.get? b=some o->(b,o)∈Y.pn++((c++zX [D] Q.heap)++zX B s7.heap):=fun b hb o e=>qG _ (qG _ (qP hb e))
  generalize hP:(c++zX [D] Q.heap)++zX B s7.heap=P at I9 ac mF he;have aa:∀{s:Hp} {s':Shared},Inv Y P σ8 s s'->Inv Y c σ4 s s':=fun {s s'} J=>by subst hP;exact bk _ _ _ (J.unpinned).unpinned ap
  have ag:∀{s:Hp} {s':Shared},Inv Y P σ8 s s'->∀b∈B,s b=none:=fun {s s'} J b hb=>by
   obtain⟨o,e,_⟩:=T.obj _ _ a8 b hb;exact(J.pin (b,o) (mF b hb o e)).2.1
  cases ok with
  | false=>
   obtain⟨m',hm,w'⟩:=hN _ _ (show N2 ys H9 by simpa using q9)
   obtain⟨o9,au,_⟩:=I9.pin (D,_) ac;exact⟨m',hm,i+1,ys,H,H9,z5,aa I9,T.keep _ _ _ a8 fun b hb o e=>(I9.pin (b,o) (mF b hb o e)).1,ag I9,au,o9,a7,w'⟩
  | true=>
   refine thn (he _ s9 σ8 H9 (fun y H6=>ys.length<sizeLine/\N2 (ys++[y]) H6) I9 (by simpa using q9)) fun yv ax ⟨y,U,a0,aw,aq,ay⟩=>?_
   obtain⟨m',hm,w'⟩:=hN _ _ ay;obtain⟨av,I,_⟩:=a0.pin (D,_) ac;refine wpAny_list_append_plain (l:=D) (items:=H.toArray) (hsz:=by rw[zZ,<- a7.length];exact vp aq) ⟨_,av⟩ fun b0 ah a9=>?_
   obtain⟨az,am⟩:=ah;obtain⟨d0,d1,d2,d3,d4,d5⟩:=fD _ I;refine⟨m',hm,i+1,ys++[y],H++[yv],U,az,?_,T.keep _ _ _ a8 fun b hb o e=>a9.extBut b o (zG (nD b hb)) (a0.pin (b,o) (mF b hb o e)).1,ag a0,I,?_,a7.append (.cons aw .nil),w'⟩
   ·exact(aa a0).turned (t':=ax.toks) (it:=D) (fun b o hb e=>a9.extBut b o hb e) I d1 d3 d4 d5
   ·rw[am];simp
theorem zic{use:Option (Value->Sem Unit)}{Qx:Value->Shared->Prop}{cp:Pos}{rest:List Comprehension}{l:List 0#l}{s:Shared}{σ:St}{H:Hp}{Q:VK}{Tl:It->(Nat->Nat->List V->Hp->Prop)->Prop}(own fr:List Str)(js:List Nat)(hk:scope.kind=.function)(hb:QP scope.names X.env.scope.names X.N fr js=true)(hi:PI X E t O)
  (hs:∀x,foldedSetIterable t X.env x=pure x) (I:Inv X l σ H s) (h:O σ H fun J H1=>∃W:Nat->Nat->List V->Hp->Prop,(∃m,W 0 m [] H1)/\Tl J W)
  (a7:∀(C D it:Addr) (u:List Addr) (tn:Nat->Heap->Prop) (J:It) (W:Nat->Nat->List V->Hp->Prop) (N:Hp) (s3 s4:Shared) (m0:Nat) (R:Result->Shared->Prop),(∀b∈D::u,∀H':Hp,H' b=none->jZ (qm X (own++fr) scope C s3 N (D::u)) [] H' b)->(∀b∈u,D≠b) ->
   Jb X.prog X.w X.K E J u it tn->Tl J W->LcJ (qm X (own++fr) scope C s3 N (D::u)) D tn u [] (upS own.length js σ) W m0 s4 ->
   (∀Y,LcE (qm X (own++fr) scope C s3 N (D::u)) D [] (upS own.length js σ) (fun ys H5=>ys.length<=sizeLine/\∀D,H5 D=none->Q (.ref D) (upd H5 D (.lst ys))) Y->R (.ok .next) Y) ->
   codeAny 0#b X.A (.compLoop (.ListComp w (⟨E,t,A,0⟩::rest) scope G) 0 (.ref it) (.ref D) (compEnvC scope (qy X.env.cells scope.names []) C X.env)) R s4)
  (a9:∀(Y:Shared) (D C:Addr) (H6:Hp) (m:Str->Option Value),Y.heap.Ns C m->(∀h7:Heap,(∀b o,b≠C->Y.heap.get? b=some o->h7.get? b=some o)->Inv X l σ H6 { Y with heap:=h7 })->jZ X l H6 C->Q (.ref D) H6->compPost 0#b X.A X.xe use Qx (.ref D) C (.ok .next) Y) :
  wpAny 0#b X.A (comprehension (.ListComp w (⟨E,t,A,0⟩::rest) scope G) scope X.env cp (newList []) false (eval t X.env) use) Qx X.xe s:=by
 have B:=Y7 hb;have a0:∀y∈scope.names,y.2=NameKind.free->∃c,X.env.cells.lookup y.1=some c:=fun y hy e=>I.ok.has y.1 (B.free y hy e)
 refine wpAny_comprehension_free rfl hs (Jp a0) hk (fun y hy e=>B.loc y hy e) (thn (hi l s σ H _ I h) fun v s1 h1=>thn h1 fun ai s2 h2=>?_)
 obtain⟨it,u,tn,J,N,e,I2,T,a4,f2,W,⟨m0,w0⟩,tl⟩:=h2;subst e;have fl:∀b∈u,b<s2.heap.objs.size:=fun b hb=>let ⟨o,e,_⟩:=T.obj _ _ a4 b hb;zH e
 refine jY (wpAny_newFunctionEnv B.cell (by intro y hy;simp at hy) (fun h1 a2 a3=>?_) hk)
 dsimp only at a2 a3 ⊢;generalize e3:s2.heap.push { cls:=.type "list",dict:=none,data:=.seq ([]:List Value).toArray }=U at a2 a3 ⊢;have k3:∀b o,s2.heap.get? b=some o->U.get? b=some o:=fun b o e=>by rw[<- e3];exact zN _ e
 have k4:∀b o,U.get? b=some o->h1.get? b=some o:=fun b o e=>a3.extBut b o (zP (zH e)) (zN _ e)
 have I4:Inv (qm X (own++fr) scope U.objs.size { s2 with heap:=U } N (s2.heap.objs.size::u)) [] (upS own.length js σ) N { s2 with heap:=h1,toks:=s2.toks+([]:List (Str×Value)).length }:=
  zd0 own fr js I2 B hk f2 fl rfl e3.symm rfl a2 k4
 have I3:Inv X l σ N { s2 with heap:=U }:=I2.kept (t':=s2.toks) k3;have hz:U.objs.size=s2.heap.objs.size+1:=by rw[<- e3,qJ]
 have a1:s2.heap.objs.size≠U.objs.size:=by rw[hz];exact zP (xg _)
 have a5:h1.get? s2.heap.objs.size=some { cls:=.type "list",data:=.seq ([]:List Value).toArray }:=k4 _ _ (by rw[<- e3];exact zL _ rfl)
 have ab:=(I3.fpOk (b:=U.objs.size) (zD _) (I3.hok.fresh (zD _))).2;have dN:N s2.heap.objs.size=none:=I2.hok.fresh (zD _);have dO:=I2.fpOk (b:=s2.heap.objs.size) (zD _) dN;have fD:∀b∈u,s2.heap.objs.size≠b:=fun b hb=>jH (fl b hb)
 generalize s2.heap.objs.size=D at *
 generalize eC:U.objs.size=C at *
 have hx:∀b,jZ X l N b->∀x c,(qy X.env.cells scope.names []).lookup x=some c->c≠b:=fun b hb x c e=>hb.2.2.2.2.1 x c (zO e a0)
 have ag:∀b∈D::u,b∉frs X.stack:=I4.ok.exfs;have nC:∀b∈D::u,b≠C:=fun b hb=>by
  rcases zC.mp hb with z | hb
  ·rw[z];exact a1
  ·exact(I4.ok.exf b (z9 _ hb)).1
 have all:∀b∈D::u,jZ X l N b:=fun b hb=>by
  rcases zC.mp hb with z | hb
  ·rw[z];exact dO
  ·exact f2 b hb
 have aa:∀b∈D::u,∀H':Hp,H' b=none->jZ (qm X (own++fr) scope C { s2 with heap:=U } N (D::u)) [] H' b:=fun b hb H' hn=>
  ⟨hn,nC b hb,ag b hb,.inl hb,fun x c e=>hx b (all b hb) x c e,fun p h=>absurd h (by simp)⟩
 have go:∀s4:Shared,s4={ s2 with heap:=h1,toks:=s2.toks+([]:List (Str×Value)).length } ->
   codeAny 0#b X.A (.compLoop (.ListComp w (⟨E,t,A,0⟩::rest) scope G) 0 (.ref it) (.ref D) (compEnvC scope (qy X.env.cells scope.names []) C X.env)) (compPost 0#b X.A X.xe use Qx (.ref D) C) s4:=by
  intro s4 e4;subst e4;refine a7 C D it u tn J W N _ _ m0 _ aa fD T tl ⟨0,[],[],N,0,I4,T.keep _ _ _ a4 fun b hb o e=>k4 b o (k3 b o e),fun b hb=>(f2 b hb).1,dN,a5,.nil,w0⟩ fun Y h6=>?_
  obtain⟨ys,af,H5,z5,I6,a8,o6,ah,a6,q⟩:=h6;obtain⟨m6,ae,_⟩:=I6.loc;have ac:upd H5 D (.lst ys) C=none:=by rw[zq (zG a1)];exact I6.free
  refine a9 Y D C (upd H5 D (.lst ys)) m6 ae (fun h7 k7=>?_) ⟨ac,ab⟩ (q D a8)
  refine I3.call' (s':={ Y with heap:=h7 }) (ch:=D::u) I6.os (yb (VI I6.base (xJ eC) k7) jK dN) (we (Jm I6.hok I6.free k7) a8 ⟨a6,af,z5,ah,k7 D _ a1 o6⟩) I6.bare fun b hb=>?_
  obtain⟨_,g1,_,g3,g4,g5⟩:=all b hb;exact⟨g3,g1,g4,g5⟩
 exact codeAny_compStart_list (go _ rfl) (T.self X.A 0 _ _ _ (T.keep _ _ _ a4 fun b hb o e=>k4 b o (k3 b o e)) (go _ rfl))
theorem zea{Y:Cx}{c:List (Addr×Obj)}{n:Nat}{l:List Nat}{σ u:St}{o:Hp}{s:Shared}(B:(upS n l σ).length=Y.N.length)(J:Inv Y c u o s)(hd:u.drop n=(upS n l σ).drop n):Inv Y c (upS n l σ) o s:=by
 refine J.weak (B.trans J.len.symm) fun k v e=>?_
 obtain⟨D,e1,_⟩:=xO e;rw[<- hd,Xw] at e1;rw[<- e1];congr 1
 omega
theorem zcm{C D it:Addr}{c:List Addr}{tn:Nat->Heap->Prop}{J:It}{W:Nat->Nat->List V->Hp->Prop}{U:Hp}{s3 s4:Shared}{m0 n:Nat}{R:Result->Shared->Prop}{B:List Nat}{σ:St}{l:List Str}{N:List V->Hp->Prop}(hc:X.calm=true)
  (hg:∀C s H ex,PG (qm X l scope C s H ex) E g) (hf:∀C s H ex,PF (qm X l scope C s H ex) A M) (he:∀C s H ex,PE (qm X l scope C s H ex) w L) (a0:∀b∈D::c,∀u:Hp,u b=none->jZ (qm X l scope C s3 U (D::c)) [] u b) (fD:∀b∈c,D≠b) (T:Jb X.prog X.w X.K E J c it tn)
  (a1:∀i m o H7,W i m o H7->(J.stop i H7/\N o H7)\/(J.go i H7/\∃N2:List V->Hp->Prop,(∀o u,N2 o u->∃m',m'<m/\W (i+1) m' o u)/\∀x H8,J.yld i H7 x H8->g x (upS n B σ) H8 fun σ9 H9=>σ9.drop n=(upS n B σ).drop n/\M σ9 H9 fun b Q=>
    if b=true then L σ9 Q fun y a2=>o.length<sizeLine/\N2 (o++[y]) a2 else N2 o Q))
  (j:LcJ (qm X l scope C s3 U (D::c)) D tn c [] (upS n B σ) W m0 s4) (a3:∀s6,LcE (qm X l scope C s3 U (D::c)) D [] (upS n B σ) N s6->R (.ok .next) s6) :
  codeAny 0#b X.A (.compLoop (.ListComp w [⟨E,t,A,0⟩] scope G) 0 (.ref it) (.ref D) (compEnvC scope (qy X.env.cells scope.names []) C X.env)) R s4:=by
 have hl:=(let ⟨_,_,_,_,_,I,_,_,_,_,_,_⟩:=j;I.len:(upS n B σ).length=l.length)
 refine Xh (LcJ (qm X l scope C s3 U (D::c)) D tn c [] (upS n B σ) W) (fun k s5 j=>jt (zg3 (Y:=qm X l scope C s3 U (D::c)) hc rfl (hg _ _ _ _) (hf _ _ _ _) (he _ _ _ _) T (a0 D jK) (fun b hb=>a0 b (z9 _ hb)) fD (fun σ9 u s' J hd=>zea hl J hd) a1 j) (fun r s6 h6=>?_) fun _ _ q=>q) m0 j
 cases r with
 | some v=>exact h6
 | none=>exact a3 s6 h6
theorem zeX(own l:List Str)(N:List Nat)(hc:X.calm=true)(hk:scope.kind=.function)(hb:QP scope.names X.env.scope.names X.N l N=true)(hi:PI X E t O)
  (hg:∀C s H c,PG (qm X (own++l) scope C s H c) E g) (hf:∀C s H c,PF (qm X (own++l) scope C s H c) A M) (he:∀C s H c,PE (qm X (own++l) scope C s H c) w L)
  (hs:∀x,foldedSetIterable t X.env x=pure x:=by intro _;rfl):PE X (.ListComp w [⟨E,t,A,0⟩] scope G) (tLC O own.length N g M L):=by
 intro U s σ H Q I h;rw[eval_ListComp];exact zic (rest:=[]) own l N hk hb hi hs I h (fun C D it fp tn J W H2 s3 s4 m0 R a b T tl j u=>zcm hc hg hf he a b T tl j u) fun s6 D C Y m hn all _ q=>⟨m,hn,fun h7 B=>⟨.ref D,Y,all h7 fun b o hb e=>B.extBut b o hb e,rfl,q⟩⟩
end
section
variable{X:Cx}{g:List (Addr×Obj)}{σ:St}{H:Hp}{s:Shared}
theorem Jl{ch:List Addr}{h':Heap}{t':Nat}{T:Addr}{w:List V}{its:List Value}(I:Inv X g σ H s)(t:∀b∈ch,jZ X g H b)(A:s.heap.objs.size<=T)
  (k:∀b o,b∉ch->s.heap.get? b=some o->h'.get? b=some o) (N:w.length<=sizeLine) (Y:Vals w its) (U:TupX h' T its.toArray) :
  Inv X g σ (upd H T (.tup w)) { s with heap:=h',toks:=t' }:=by
 have l:H T=none:=I.hok.fresh A;have ne:∀b o,s.heap.get? b=some o->b≠T:=fun b o e=>zP (jz (zH e) A)
 have B:∀b u,H b=some u->b∉ch:=fun b u e hb=>by rw[(t b hb).1] at e;cases e
 refine I.step (g':=s.gens) (d':=s.drawn) (ch:=ch) (fun b hb=>?_) (fun b o _ _ hc e _=>k b o hc e) (fun b o _ _ hc e _=>⟨o.slots,k b o hc e⟩) (fun b o _ e n=>by rw[zq (ne b o e)];exact n) (fun b o hc e=>⟨o,k b o hc e⟩)
  (fun b xs e=>by rw[zq (zo e l)];exact e) (fun b o u e=>by rw[zq (zo e l)];exact e) (fun b ps e=>⟨#[],by rw[zq (zo e l),e];simp⟩) (fun m O=>?_) (fun b u e=>?_) I.bare
 ·obtain⟨_,G,_,J,L,M⟩:=t b hb
  exact⟨J,G,L,M⟩
 ·obtain⟨o,E,D,Q,r⟩:=O
  exact⟨o,E,D,k _ o (fun z=>(t _ z).2.1 rfl) Q,r⟩
 ·by_cases hb:b=T
  ·subst hb
   rw[ze] at e;cases e;exact⟨N,its,Y,U⟩
  ·rw[zq hb] at e
   refine(I.hok b u e).stay (fun c v hc q=>k c v ?_ q) (fun c q=>by rw[zq (zo q l)];exact q) fun c xs q=>by rw[zq (zo q l)];exact q
   rcases hc with z | z
   ·rw[z];exact B b u e
   ·exact B c _ z
end
def Ite(K:W.Frag)(a:Addr):It:=
 ⟨fun i H=>∃c x,SqL K H a c/\c[i]? =some x,fun i H x g=>∃T y,x=.ref T/\H T=none/\g=upd H T (.tup [.int i,y])/\∀c,SqL K H a c->c[i]? =some y,fun i H=>∃c,SqL K H a c/\c.length<=i⟩
theorem zc8{P:Program}{w:World}{K:W.Frag}{Q:List Expr}{kk:Nat}{ab:Pos}(a e t:Addr)(L:e≠t) :
  Jb P w K (.Tuple Q kk ab) (Ite K a) [e,t] e (fun i h=>(∃G,IsEnum h e t i G)/\h.IsListIter t a i) where
 mem:=by simp
 obj:=fun i h st b hb=>by
  obtain⟨⟨G,g⟩,⟨o,ho,c,d⟩⟩:=st;rcases zC.mp hb with z | z
  ·subst z;exact⟨_,g,fun v q=>nomatch q⟩
  ·rw[zW.mp z];exact⟨o,ho,fun v q=>by rw[d] at q;cases q⟩
 keep:=fun i h h' st k=>by
  obtain⟨⟨G,g⟩,hi⟩:=st;exact⟨⟨G,k e (by simp) _ g⟩,hi.at fun o q=>k t (by simp) o q⟩
 item:=by
  intro X hP hw hK hc i a1 s σ H E I hf st hg;subst hP hw hK;obtain⟨⟨G,g⟩,l⟩:=st;obtain⟨xs,x,hq,hx⟩:=hg;obtain⟨B,rv,p,hz⟩:=I.list hq;obtain⟨u,hu,ru⟩:=rv.get hx;have O:=p.isList;have U:a≠t:=fun z=>by
   obtain⟨o,e1,J,_⟩:=O;obtain⟨o',e2,c2,_⟩:=l;rw[z,e2] at e1;cases e1;rw[c2] at J;exact absurd (Qq J) (by decide)
  have a3:e≠a:=fun z=>by
   obtain⟨o,e1,J,_⟩:=O;rw[<- z,g] at e1;cases e1;exact absurd (Qq J) (by decide)
  have D:=Draws.list (prog:=X.prog) (w:=X.w) (A:=X.A.in1) (I.ok.hd hc) t a U B.toArray;have hi:i<B.toArray.size:=by
   have h1:=(zU.mp hu).1;simpa using h1
  refine wpAny_pyNext_enum_itemD D g ⟨l,O⟩ hi L (by simp[L,a3]) fun x' h' tk a2 Y a0 hT af hk=>?_
  have ex:x'=u:=by
   have N:B[i]? =some x':=by simpa using a2
   rw[hu] at N;exact(qT N).symm
  subst ex;refine⟨_,rfl,wpAny_letOwnedTupleGo_enum Y fun N a7 M=>?_⟩
  have eT:s.heap.objs.size≠e:=jH (zH g);have k2:∀b o,b∉[e,t]->s.heap.get? b=some o->N.get? b=some o:=fun b o hb q=>by
   have n1:b≠e:=fun z=>hb (by simp[z])
   have n2:b≠t:=fun z=>hb (by simp[z])
   exact(M.2 b n1).trans (hk b o n1 n2 q)
  have aa:N.IsListIter t a (i+1):=a0.1.extBut M.extBut (zG L);refine⟨.ref s.heap.objs.size,upd H s.heap.objs.size (.tup [.int i,x]),?_,rfl,⟨_,x,rfl,I.hok.fresh (zD _),rfl,fun ys hy=>by rw[I.list_inj hy hq];exact hx⟩,⟨⟨_,by simpa using a7⟩,aa⟩,fun b hb=>?_⟩
  ·refine Jl (s:=s) (h':=N) (t':=tk+1) (its:=[.int i tk,x']) I hf (zD _) k2 (by rw[sizeLine_eq];exact(by decide:2<=16777216)) (.cons ⟨tk,rfl⟩ (.cons ru .nil)) (TupX.by ((M.2 _ eT).trans hT))
  ·have a4:b<s.heap.objs.size:=by
    rcases zC.mp hb with z | z
    ·rw[z];exact zH g
    ·rw[zW.mp z]
     obtain⟨o',e',_⟩:=l;exact zH e'
   rw[zq (zP a4)];exact(hf b hb).1
 done:=by
  intro X hP hw hK hc i a1 s σ H E I hf st hg;subst hP hw hK;obtain⟨⟨G,g⟩,l⟩:=st;obtain⟨xs,hq,hx⟩:=hg;obtain⟨B,rv,p,hz⟩:=I.list hq;have O:=p.isList;have U:a≠t:=fun z=>by
   obtain⟨o,e1,J,_⟩:=O;obtain⟨o',e2,c2,_⟩:=l;rw[z,e2] at e1;cases e1;rw[c2] at J;exact absurd (Qq J) (by decide)
  obtain⟨f0,f1,f2,f3,f4,f5⟩:=hf t (by simp)
  have a8:B.toArray.size<=i:=by
   have:=rv.length;simp only[zZ];omega
  have hT:s.TypeIs (.ref e) "enumerate" :=⟨_,g,rfl⟩;unfold pyNext;refine zf (yF (y9 (name:=Str.ofString "__next__") hT F.slot_enumerate_next (xD F.slot_enumerate_next hT F.entry_enumerate_next ?_ (F.args_enumerate_next_1 _))))
  show wpAny _ _ (field (.ref e) 2 >>= _) _ _ _;refine zf (jG g rfl (x:=.ref t) rfl (zf (wpAny_nextOf_list_end (I.ok.hd hc) l O (by simpa using a8) fun h' x a6 a9=>?_)))
  obtain⟨o,ho,a5⟩:=a9;refine zf (yz (T:= "StopIteration") (b:=true) ⟨o,ho,a5⟩ isSubtype_stop ?_)
  exact zx ⟨rfl,I.turned (t':=s.toks) (fun b o hb q=>a6 b o hb q) f0 f1 f3 f4 f5⟩
 self:=fun _ _ _ _ _ st h=>let ⟨⟨_,g⟩,_⟩:=st;wpAny_pyIter_enum g h
section
variable{X:Cx}
def zkM(K:W.Frag)(g:TA):TI:=fun σ H R=>g σ H fun l c=>∃a,l=[.ref a]/\(∃o,SqL K c a o)/\R (Ite K a) c
theorem yQ{l:Expr}{D:TA}{p t tp:Pos}{g:List Expr}{T:Nat}(hg:Gl X "enumerate")(M:X.mg "enumerate" = none)(J:PA X [l] D)(N:starEach [l] X.env=[(false,eval l X.env)]:=by rfl) :
  PI X (.Tuple g T tp) (.Call (.Name "enumerate" p) [l] [] t) (zkM X.K D):=by
 intro c s σ H R I h;refine Call_ (vP I hg M boot_enumerate (Xk (thn (J t c s σ H _ I h) fun us s1 ⟨vs,A,w,r1,Y⟩=>?_) N rfl))
 obtain⟨a,e,⟨xs,hq⟩,q⟩:=Y;subst e;obtain⟨u,rfl,ru⟩:=vy r1;cases ru;obtain⟨Q,rv,U,hz⟩:=w.list hq;refine call_enumerate_list U.isList fun G B L O hk=>wpAny_pyIter_enum B ?_
 have E:Inv X c σ A { s1 with heap:=G }:=w.kept (t':=s1.toks) hk;refine⟨s1.heap.objs.size+1,[s1.heap.objs.size+1,s1.heap.objs.size],_,_,A,rfl,E,zc8 a _ _ (Nat.succ_ne_self _),⟨⟨_,B⟩,L⟩,fun b hb=>?_,q⟩
 have o:s1.heap.objs.size<=b:=by
  rcases zC.mp hb with z | z
  ·rw[z];exact vn _
  ·rw[zW.mp z];exact zD _
 exact w.fpOk o (w.hok.fresh o)
theorem J8{K:W.Frag}{a:Addr}{xs:List V}{g:TG}{w:TS}{D:XT}{σ:St}{H:Hp}(Pv:Nat->St->Hp->Prop)(A:Pv 0 σ H)(G:∀i σ H,i<=xs.length->Pv i σ H->SqL K H a xs)
  (I:∀i x σ H T,xs[i]? =some x->Pv i σ H->H T=none->g (.ref T) σ (upd H T (.tup [.int i,x])) fun t o=>w { D with nx:=Pv (i+1),ct:=Pv (i+1),bk:=D.nx } t o) (hd:∀σ H,Pv xs.length σ H->D.nx σ H) :
  ∃W:Nat->Nat->St->Hp->Prop,(∃m,W 0 m σ H)/\∀i m σ H,W i m σ H ->
   ((Ite K a).stop i H/\D.nx σ H)\/((Ite K a).go i H/\∃N:St->Hp->Prop,(∀s c,N s c->∃u,u<m/\W (i+1) u s c)/\∀x c,(Ite K a).yld i H x c->g x σ c fun t o=>w { D with nx:=N,ct:=N,bk:=D.nx } t o):=by
 refine⟨fun i m σ H=>m=xs.length-i/\i<=xs.length/\Pv i σ H,⟨xs.length,by simp,qB _,A⟩,?_⟩
 rintro i m σ H ⟨rfl,E,p⟩;have q:=G i σ H E p;by_cases l:i<xs.length
 ·refine .inr ⟨⟨xs,xs[i],q,by simp[l]⟩,Pv (i+1),fun s c J=>⟨xs.length-(i+1),by omega,rfl,l,J⟩,fun x c y=>?_⟩
  obtain⟨T,z,e1,B,e2,y⟩:=y;subst e1 e2;exact I i z σ H T (y xs q) p B
 ·have e:i=xs.length:=by omega
  subst e;exact .inl ⟨⟨xs,q,zD _⟩,hd σ H p⟩
inductive Q3(K:W.Frag)(g:List V)(H:Hp)(Q:VK):Prop
 | mk (p:Addr) (c:List Bool) (_:g=[.ref p]) (_:SqL K H p (c.map V.bl)) (_:Q (.bl (c.all id)) H):Q3 K g H Q
theorem j4(hc:X.calm=true):jE X (.builtin "all") (Q3 X.K):=by
 intro N s σ H xs us Q I r h;obtain⟨p,c,rfl,hq,q⟩:=h;obtain⟨u,rfl,J⟩:=vy r;cases J;obtain⟨g,L,pl,hz⟩:=I.list hq;have E:=pl.isList;have G:p≠s.heap.objs.size:=by
  obtain⟨o,e,_⟩:=E;exact zP (zH e)
 refine call_all_walk (wpAny_pyIter_list E ?_)
 refine⟨s.heap.objs.size,_,_,_,_,_,fun i=>c.getD i true,rfl,Zj (prog:=X.prog) (w:=X.w) (A:=X.A.in1) (I.ok.hd hc) _ p G g.toArray,⟨⟨_,zL _ rfl,rfl,rfl⟩,E.push _⟩,?_,fun h' tk hk=>?_⟩
 ·intro i v s' T E' D hQ
  have D:g.toArray[i]? =some v:=D;have e1:g[i]? =some v:=by simpa using D
  have l:i<c.length:=by
   have h1:=(zU.mp e1).1;have h2:=L.length;rw[zv] at h2;omega
  have e2:(c.map V.bl)[i]? =some (.bl c[i]):=by simp[l]
  obtain⟨u',M,J⟩:=L.get e2;rw[e1] at M;cases M;cases J;have U:c.getD i true=c[i]:=by simp[l]
  have t:T (c.getD i true) s':=hQ;rw[U] at t;exact yA t
 ·have k:∀b o,s.heap.get? b=some o->h'.get? b=some o:=fun b o e=>hk b o (by simp;exact zP (zH e)) (zN _ e)
  have Y:(List.range g.toArray.size).all (fun i=>c.getD i true)=c.all id:=by
   have B:g.toArray.size=c.length:=by
    have:=L.length;rw[zv] at this;simp only[zZ];omega
   rw[B,vU,vF,vF];constructor
   ·intro h b hb
    obtain⟨i,l,rfl⟩:=za7.mp hb;have:=h i (qt.mpr l);simpa [l] using this
   ·intro h i l
    have l:=qt.mp l;have:=h c[i] (xB l);simpa [l] using this
  exact⟨.bl (c.all id),H,I.kept k,by rw[Y];rfl,q⟩
end
def SqK(K:W.Frag)(g:Bool)(H:Hp)(a:Addr)(c:List V):Prop:=match g with
 | true=>SqL K H a c
 | false=>SqT K H a c
def SeqK(g:Bool)(h:Heap)(a:Addr)(c:Array Value):Prop:=match g with
 | true=>h.IsList a c
 | false=>h.IsTuple a c
def ItrK(g:Bool)(h:Heap)(c a:Addr)(i:Nat):Prop:=match g with
 | true=>h.IsListIter c a i
 | false=>h.IsTupleIter c a i
theorem SeqK.at{g:Bool}{h l:Heap}{a:Addr}{c:Array Value}(x:SeqK g h a c)(k:∀o,h.get? a=some o->l.get? a=some o):SeqK g l a c:=by
 cases g with
 | true=>exact Heap.IsList.at x k
 | false=>obtain⟨o,e,r⟩:=(show h.IsTuple a c from x);exact⟨o,k o e,r⟩
theorem ItrK.at{g:Bool}{h l:Heap}{c a:Addr}{i:Nat}(x:ItrK g h c a i)(k:∀o,h.get? c=some o->l.get? c=some o):ItrK g l c a i:=by
 cases g with
 | true=>exact Heap.IsListIter.at x k
 | false=>obtain⟨o,e,r⟩:=(show h.IsTupleIter c a i from x);exact⟨o,k o e,r⟩
theorem ItrK.obj{l:Bool}{h:Heap}{g a:Addr}{i:Nat}(x:ItrK l h g a i):∃o,h.get? g=some o/\(o.cls=.type "list_iterator" \/ o.cls=.type "tuple_iterator")/\∀v,o.data≠.cell v:=by
 cases l with
 | true=>obtain⟨o,e,c,d⟩:=(show h.IsListIter g a i from x);exact⟨o,e,.inl c,fun v q=>by rw[d] at q;cases q⟩
 | false=>obtain⟨o,e,c,d⟩:=(show h.IsTupleIter g a i from x);exact⟨o,e,.inr c,fun v q=>by rw[d] at q;cases q⟩
theorem SeqK.cls{l:Bool}{h:Heap}{a:Addr}{g:Array Value}(x:SeqK l h a g):∃o,h.get? a=some o/\(o.cls=.type "list" \/ o.cls=.type "tuple")/\∃n,o.data=.seq g n:=by
 cases l with
 | true=>obtain⟨o,e,c,n,d⟩:=(show h.IsList a g from x);exact⟨o,e,.inl c,n,d⟩
 | false=>obtain⟨o,e,c,n,d⟩:=(show h.IsTuple a g from x);exact⟨o,e,.inr c,n,d⟩
section
variable{l:Program}{w:World}{A:Around}{E:Value->Shared->Prop}{s:Shared}
theorem Ze{B:Bool}{g a:Addr}{i:Nat}{t:Array Value}{x:Value}{Q:Value->Shared->Prop}(J:ItrK B s.heap g a i)(L:SeqK B s.heap a t)(hx:t[i]? =some x)
  (I:∀D,ItrK B D g a (i+1)->Heap.SameBut g s.heap D->Q x { s with heap:=D }):wpAny (model l w) A (Builtin.SmallTypes.nextOf (.ref g)) Q E s:=by
 cases B with
 | true=>exact Zz J L hx I
 | false=>
  have c:s.heap.IsTupleIter g a i:=J;obtain⟨o,u,hc,hd⟩:=id c;obtain⟨N,H,_,nl,G⟩:=(show s.heap.IsTuple a t from L)
  unfold Builtin.SmallTypes.nextOf;refine zf (y9 (name:=Str.ofString "__next__") c.typeIs WS (xD WS c.typeIs zf5 ?_ (zf7 _)))
  show wpAny _ _ (field (.ref g) 0 >>= _) _ _ _;refine zf (jG u hd (x:=.ref a) rfl ?_)
  show wpAny _ _ (if(Value.ref a==Value.none)=true then _ else _) _ _ _;rw[zk (show ¬((Value.ref a==Value.none)=true) from qU)]
  show wpAny _ _ (field (.ref g) 1 >>= _) _ _ _;refine zf (jG u hd (x:=.int i 0) rfl ?_)
  show wpAny _ _ (seqItems? (.ref a) >>= _) _ _ _;refine zf (jO H G ?_);simp only[vG,hx]
  refine zf (yG u hd (by simp) (zx ⟨x,rfl,zx (I _ (show Heap.IsTupleIter _ _ _ _ from ?_) (yC ..))⟩))
  refine⟨_,xE _ u (Obj.isFreed_of_fields (za0 hd _)),(Obj.cls_mapFields ..).trans hc,?_⟩;rw[za0 hd];simp[rawInt]
theorem Vj{I:Bool}{t a:Addr}{i:Nat}{g:Array Value}{Q:Value->Shared->Prop}(D:A.handled=none)(L:ItrK I s.heap t a i)(M:SeqK I s.heap a g)(hx:g[i]? =none)
  (J:∀u e,Heap.ExtBut t s.heap u->(∃o,u.get? e=some o/\o.cls=.type "StopIteration")->E (.ref e) { s with heap:=u }):wpAny (model l w) A (Builtin.SmallTypes.nextOf (.ref t)) Q E s:=by
 cases I with
 | true=>exact wpAny_nextOf_list_end D L M hx J
 | false=>
  have c:s.heap.IsTupleIter t a i:=L;obtain⟨o,G,hc,hd⟩:=id c;obtain⟨O,H,_,nl,B⟩:=(show s.heap.IsTuple a g from M)
  unfold Builtin.SmallTypes.nextOf;refine zf (y9 (name:=Str.ofString "__next__") c.typeIs WS (xD WS c.typeIs zf5 ?_ (zf7 _)))
  show wpAny _ _ (field (.ref t) 0 >>= _) _ _ _;refine zf (jG G hd (x:=.ref a) rfl ?_)
  show wpAny _ _ (if(Value.ref a==Value.none)=true then _ else _) _ _ _;rw[zk (show ¬((Value.ref a==Value.none)=true) from qU)]
  show wpAny _ _ (field (.ref t) 1 >>= _) _ _ _;refine zf (jG G hd (x:=.int i 0) rfl ?_)
  show wpAny _ _ (seqItems? (.ref a) >>= _) _ _ _;refine zf (jO H B ?_);simp only[vG,hx]
  refine zf (xS (zf (yG G hd (by simp) ?_)));show wpAny _ _ (newExc (.type "StopIteration") [] >>= _) _ _ _
  refine zf ?_;simp only[newExc,newTuple];refine zf (jY ?_ (by size_fits))
  refine zf (m:=firstArgMember _ _) (yD (a:=Value.none) (by first| rfl | (simp only[firstArgMember];rfl)) (jY ?_ (by size_fits)))
  simp only[raiseNew];refine zf (wpAny_handled ?_);first| rw[show A.in1.handled=none from D] | rw[D]
  exact zf (zx (Qn (J _ _ (((yC ..).extBut.push _).push _) ⟨_,zL _ rfl,rfl⟩)))
structure VE(k1 k2:Bool)(h:Heap)(z TI TO i1 i2 a1 a2:Addr)(i:Nat):Prop where
 zz:IsZip h z TI TO .none
 ti:IsPair h TI (.ref i1) (.ref i2)
 to:∃a b,IsPair h TO a b
 r1:ItrK k1 h i1 a1 i
 r2:ItrK k2 h i2 a2 i
structure zcD(z TI TO i1 i2:Addr):Prop where
 a:TI≠z
 b:TO≠z
 c:i1≠z
 d:i2≠z
 e:TI≠TO
 f:TI≠i1
 g:TI≠i2
 h:TO≠i1
 i:TO≠i2
 j:i1≠i2
theorem zcE{k1 k2:Bool}{z TI TO u I a1 a2:Addr}{i:Nat}{xs ys:Array Value}{x y:Value}{Q:Option Value->Shared->Prop}(N:zcD z TI TO u I)(Z:VE k1 k2 s.heap z TI TO u I a1 a2 i)
  (l1:SeqK k1 s.heap a1 xs) (l2:SeqK k2 s.heap a2 ys) (m1:∀b∈[z,TO,u,I],a1≠b) (m2:∀b∈[z,TO,u,I],a2≠b) (hx:xs[i]? =some x) (hy:ys[i]? =some y)
  (hQ:∀J,IsZip J z TI TO (rawInt s.heap.objs.size)->IsPair J TI (.ref u) (.ref I)->(∃a b,IsPair J TO a b)->ItrK k1 J u a1 (i+1)->ItrK k2 J I a2 (i+1)->IsPair J s.heap.objs.size x y->J.objs.size=s.heap.objs.size+1 ->
   (∀c o,c∉[z,TO,u,I]->s.heap.get? c=some o->J.get? c=some o)->Q (some (.ref s.heap.objs.size)) { s with heap:=J }):wpAny (model l w) A (pyNext (.ref z)) Q E s:=by
 obtain⟨hz,a7,⟨a,b,ab⟩,h1,h2⟩:=Z;have hT:s.TypeIs (.ref z) "zip" :=⟨_,hz,rfl⟩;unfold pyNext;refine zf (yF (y9 (name:=Str.ofString "__next__") hT wH (xD wH hT WC ?_ (WG _))))
 show wpAny _ _ (field (.ref z) 2 >>= _) _ _ _;refine zf (jG hz rfl (x:=.bool false) rfl ?_)
 show wpAny _ _ (field (.ref z) 3 >>= _) _ _ _;refine zf (jG hz rfl (x:=.ref TI) rfl (zf (jO a7 rfl ?_)))
 show wpAny _ _ (Builtin.SmallTypes.ownedTupleIsFree (.ref z) >>= _) _ _ _;refine zf ?_
 unfold Builtin.SmallTypes.ownedTupleIsFree;refine zf (jG hz rfl (x:=.none) rfl (zx ?_));simp only[if_true]
 refine zf (xS (zf (jG hz rfl (x:=.ref TO) rfl (zf (wu hz (by simp) fun g1 a4 D=>?_)))))
 replace a4:IsZip g1 z TI TO .ellipsis:=a4
 refine zf ?_;simp only[WB,Wz,yH,Zo]
 refine zf (zf (yE ?_));show wpAny _ _ (Builtin.SmallTypes.nextOf (.ref u) >>= _) _ _ _
 refine zf (Ze (h1.at fun o e=>D.extBut _ o N.c e) (l1.at fun o e=>D.extBut _ o (m1 z (by simp)) e) hx fun g2 a9 L=>zx ?_)
 have T:IsPair g2 TO a b:=L.extBut _ _ N.h (D.extBut _ _ N.b ab);refine zf (jO T rfl (zf (wpAny_updateSeq_pair T fun g3 B M=>?_)))
 replace B:IsPair g3 TO x b:=B
 refine zf (xC (zx ?_));refine zf (zf (yE ?_));show wpAny _ _ (Builtin.SmallTypes.nextOf (.ref I) >>= _) _ _ _
 have Y:∀c o,c∉[z,TO,u]->s.heap.get? c=some o->g3.get? c=some o:=fun c o hc e=>M.extBut _ o 0#j (L.extBut _ o 0#j (D.extBut _ o 0#j e))
 refine zf (Ze (h2.at fun o e=>Y _ o (by simp[N.d,zG N.i,zG N.j]) e) (l2.at fun o e=>Y _ o (by simp[m2 z (by simp),m2 TO (by simp),m2 u (by simp)]) e) hy fun g4 aa G=>zx ?_)
 have U:IsPair g4 TO x b:=G.extBut _ _ N.i B;refine zf (jO U rfl (zf (wpAny_updateSeq_pair U fun g t H=>?_)))
 replace t:IsPair g TO x y:=t
 refine zf (xC (zx (zx (zf (jO t rfl (zf (wpAny_newTuple ?_)))))))
 have zs:g.objs.size=s.heap.objs.size:=by rw[H.1,G.1,M.1,L.1,D.1]
 have a8:IsZip g z TI TO .ellipsis:=H.extBut _ _ (zG N.b) (G.extBut _ _ (zG N.d) (M.extBut _ _ (zG N.b) (L.extBut _ _ (zG N.c) a4)));have k5:∀c o,c∉[z,TO,u,I]->s.heap.get? c=some o->g.get? c=some o:=fun c o hc e=>H.extBut _ o 0#j (G.extBut _ o 0#j (Y c o (fun q=>hc (by simp at q ⊢;rcases q with q | q | q<;>simp[q])) e))
 have r1:ItrK k1 g u a1 (i+1):=a9.at fun o e=>H.extBut _ o (zG N.h) (G.extBut _ o N.j (M.extBut _ o (zG N.h) e))
 have r2:ItrK k2 g I a2 (i+1):=aa.at fun o e=>H.extBut _ o (zG N.i) e
 have zl:z<g.objs.size:=zH a8;show wpAny _ _ (Builtin.SmallTypes.ownedTupleHandOut (.ref z) (.ref g.objs.size) >>= _) _ _ _;refine zf ?_;unfold Builtin.SmallTypes.ownedTupleHandOut
 have ac:IsZip (g.push { cls:=.type "tuple",data:=.seq #[x,y] }) z TI TO .ellipsis:=zN _ a8;refine zf (wu ac (by simp) fun g7 a5 a0=>?_)
 replace a5:IsZip g7 z TI TO (rawInt g.objs.size):=a5
 refine wu a5 (by simp) fun g8 O a3=>?_
 replace O:IsZip g8 z TI TO (rawInt g.objs.size):=O
 have up:∀c o,c≠z->g.get? c=some o->g8.get? c=some o:=fun c o c1 e=>a3.extBut _ o c1 (a0.extBut _ o c1 (zN _ e))
 have a6:IsPair g8 g.objs.size x y:=a3.extBut _ _ (jH zl) (a0.extBut _ _ (jH zl) (zL _ rfl));have z8:g8.objs.size=g.objs.size+1:=by rw[a3.1,a0.1,qJ]
 rw[zs] at O a6 z8;refine zx ⟨_,rfl,zx ?_⟩;show Q (some (.ref g.objs.size)) _;rw[zs]
 exact hQ g8 O (up _ _ N.a (k5 _ _ (by simp[N.a,N.e,N.f,N.g]) a7)) ⟨_,_,up _ _ N.b t⟩ (r1.at fun o e=>up _ o N.c e) (r2.at fun o e=>up _ o N.d e) a6 z8 fun c o hc e=>up c o 0#j (k5 c o hc e)
theorem zd4{k1 k2:Bool}{z TI TO I O a1 a2:Addr}{i:Nat}{xs ys:Array Value}{Q:Option Value->Shared->Prop}(hh:A.handled=none)(N:zcD z TI TO I O)(Z:VE k1 k2 s.heap z TI TO I O a1 a2 i)
  (l1:SeqK k1 s.heap a1 xs) (l2:SeqK k2 s.heap a2 ys) (m1:∀b∈[z,TO,I,O],a1≠b) (m2:∀b∈[z,TO,I,O],a2≠b) (U:xs[i]? =none\/ys[i]? =none)
  (hQ:∀h',(∀c o,c∉[z,TO,I,O]->s.heap.get? c=some o->h'.get? c=some o)->Q none { s with heap:=h' }):wpAny (model l w) A (pyNext (.ref z)) Q E s:=by
 obtain⟨M,a5,⟨a,b,a6⟩,h1,h2⟩:=Z;have hT:s.TypeIs (.ref z) "zip" :=⟨_,M,rfl⟩;unfold pyNext;refine zf (yF (y9 (name:=Str.ofString "__next__") hT wH (xD wH hT WC ?_ (WG _))))
 show wpAny _ _ (field (.ref z) 2 >>= _) _ _ _;refine zf (jG M rfl (x:=.bool false) rfl ?_)
 show wpAny _ _ (field (.ref z) 3 >>= _) _ _ _;refine zf (jG M rfl (x:=.ref TI) rfl (zf (jO a5 rfl ?_)))
 show wpAny _ _ (Builtin.SmallTypes.ownedTupleIsFree (.ref z) >>= _) _ _ _;refine zf ?_
 unfold Builtin.SmallTypes.ownedTupleIsFree;refine zf (jG M rfl (x:=.none) rfl (zx ?_));simp only[if_true]
 refine zf (xS (zf (jG M rfl (x:=.ref TO) rfl (zf (wu M (by simp) fun g1 G t=>?_)))))
 replace G:IsZip g1 z TI TO .ellipsis:=G
 refine zf ?_;simp only[WB,Wz,yH,Zo]
 refine zf (zf (yE ?_));show wpAny _ _ (Builtin.SmallTypes.nextOf (.ref I) >>= _) _ _ _
 cases hx:xs[i]? with
 | none=>
  refine zf (Vj hh (h1.at fun o e=>t.extBut _ o N.c e) (l1.at fun o e=>t.extBut _ o (m1 z (by simp)) e) hx fun g2 e u he=>?_)
  obtain⟨oe,g,B⟩:=he;have a3:IsZip g2 z TI TO .ellipsis:=u _ _ (zG N.c) G;have L:e≠z:=fun q=>by subst q;rw[a3] at g;cases g;exact absurd (Qq B) (by decide)
  refine wu a3 (by simp) fun g3 aa D=>?_
  refine zf (yz (T:= "StopIteration") (b:=true) ⟨oe,D.extBut _ _ L g,B⟩ isSubtype_stop (zx (hQ _ fun c o hc q=>?_)))
  exact D.extBut _ o 0#j (u _ o 0#j (t.extBut _ o 0#j q))
 | some x=>
  have hy:ys[i]? =none:=by rcases U with q | q;rw[hx] at q;cases q;exact q
  refine zf (Ze (h1.at fun o e=>t.extBut _ o N.c e) (l1.at fun o e=>t.extBut _ o (m1 z (by simp)) e) hx fun g2 a9 u=>zx ?_)
  have H:IsPair g2 TO a b:=u.extBut _ _ N.h (t.extBut _ _ N.b a6);refine zf (jO H rfl (zf (wpAny_updateSeq_pair H fun g3 a7 D=>?_)))
  have J:∀c o,c∉[z,TO,I]->s.heap.get? c=some o->g3.get? c=some o:=fun c o hc e=>D.extBut _ o 0#j (u.extBut _ o 0#j (t.extBut _ o 0#j e))
  refine zf (xC (zx ?_));refine zf (zf (yE ?_));show wpAny _ _ (Builtin.SmallTypes.nextOf (.ref O) >>= _) _ _ _
  refine zf (Vj hh (h2.at fun o e=>J _ o (by simp[N.d,zG N.i,zG N.j]) e) (l2.at fun o e=>J _ o (by simp[m2 z (by simp),m2 TO (by simp),m2 I (by simp)]) e) hy fun g4 e Y he=>?_)
  obtain⟨oe,g,B⟩:=he;have a4:IsZip g4 z TI TO .ellipsis:=Y _ _ (zG N.d) (D.extBut _ _ (zG N.b) (u.extBut _ _ (zG N.c) G));have L:e≠z:=fun q=>by subst q;rw[a4] at g;cases g;exact absurd (Qq B) (by decide)
  refine wu a4 (by simp) fun g5 ab a0=>?_
  refine zf (yz (T:= "StopIteration") (b:=true) ⟨oe,a0.extBut _ _ L g,B⟩ isSubtype_stop (zx (hQ _ fun c o hc q=>?_)))
  exact a0.extBut _ o 0#j (Y _ o 0#j (J c o (fun q=>hc (by simp at q ⊢;rcases q with q | q | q<;>simp[q])) q))
abbrev zh(h:Heap)(c g:Obj):Heap:=((((h.push c).push g).push { cls:=.type "tuple",data:=.seq #[.ref h.objs.size,.ref (h.push c).objs.size] }).push { cls:=.type "tuple",data:=.seq #[.none,.none] }).push
 { cls:=.type "zip",data:=.fields #[.none,.bool false,.bool false,.ref ((h.push c).push g).objs.size,.ref (((h.push c).push g).push { cls:=.type "tuple",data:=.seq #[.ref h.objs.size,.ref (h.push c).objs.size] }).objs.size] }
theorem zjC{J L:Bool}{H I:Addr}{h:Heap}{t u:Obj}(U:∀g:Heap,g.get? h.objs.size=some t->ItrK J g h.objs.size H 0)(Y:∀(g:Heap) (n:Addr),g.get? n=some u->ItrK L g n I 0)(Q:t.isFreed=false)(T:u.isFreed=false) :
  VE J L (zh h t u) (h.objs.size+4) (h.objs.size+2) (h.objs.size+3) h.objs.size (h.objs.size+1) H I 0/\(∀c o,h.get? c=some o->(zh h t u).get? c=some o)/\(zh h t u).objs.size=h.objs.size+5:=by
 have B:(h.push t).objs.size=h.objs.size+1:=qJ ..;have D:((h.push t).push u).objs.size=h.objs.size+2:=by rw[qJ,B]
 have G:(((h.push t).push u).push { cls:=.type "tuple",data:=.seq #[.ref h.objs.size,.ref (h.push t).objs.size] }).objs.size=h.objs.size+3:=by rw[qJ,D]
 have O:((((h.push t).push u).push { cls:=.type "tuple",data:=.seq #[.ref h.objs.size,.ref (h.push t).objs.size] }).push { cls:=.type "tuple",data:=.seq #[.none,.none] }).objs.size=h.objs.size+4:=by rw[qJ,G]
 have N:(zh h t u).get? (h.objs.size+4)=some _:=O▸zL _ rfl;have q4:(zh h t u).get? (h.objs.size+3)=some _:=G▸zN _ (zL _ rfl);have M:(zh h t u).get? (h.objs.size+2)=some _:=D▸zN _ (zN _ (zL _ rfl));have q2:(zh h t u).get? (h.objs.size+1)=some u:=B▸zN _ (zN _ (zN _ (zL _ T)));have q1:(zh h t u).get? h.objs.size=some t:=zN _ (zN _ (zN _ (zN _ (zL _ Q))));rw[D,G] at N;rw[B] at M;exact⟨⟨N,M,⟨_,_,q4⟩,U _ q1,Y _ _ q2⟩,fun c o e=>zN _ (zN _ (zN _ (zN _ (zN _ e)))),by rw[qJ,O]⟩
theorem zd3{k1 k2:Bool}{u H:Addr}{xs ys:Array Value} :
  PySem.Meets (Builtin.«zip.__new__» ⟨[.type "zip",.ref u,.ref H],[]⟩) (fun _ R s=>SeqK k1 s.heap u xs/\SeqK k2 s.heap H ys /\
   ∀O,VE k1 k2 O (s.heap.objs.size+4) (s.heap.objs.size+2) (s.heap.objs.size+3) s.heap.objs.size (s.heap.objs.size+1) u H 0->(∀c o,s.heap.get? c=some o->O.get? c=some o)->O.objs.size=s.heap.objs.size+5->R (.ok (.ret (.ref (s.heap.objs.size+4)))) { s with heap:=O }):=
 .of_wp fun l w A R s hq=>by
  obtain⟨t,g,d,J,os⟩:=s;obtain⟨N,G,Y⟩:=hq;have Q:=sub_zip;have D:∀{I L:Obj},(∀g:Heap,g.get? t.objs.size=some I->ItrK k1 g t.objs.size u 0)->(∀(g:Heap) (n:Addr),g.get? n=some L->ItrK k2 g n H 0)->I.isFreed=false->L.isFreed=false ->
    R (.ok (.ret (.ref ((((t.push I).push L).push { cls:=.type "tuple",data:=.seq #[.ref t.objs.size,.ref (t.push I).objs.size] }).push { cls:=.type "tuple",data:=.seq #[.none,.none] }).objs.size))) ⟨zh t I L,g,d,J,os⟩:=fun {I L} p1 p2 T U=>by
   obtain⟨A,B,C⟩:=zjC p1 p2 T U;have e:((((t.push I).push L).push { cls:=.type "tuple",data:=.seq #[.ref t.objs.size,.ref (t.push I).objs.size] }).push { cls:=.type "tuple",data:=.seq #[.none,.none] }).objs.size=t.objs.size+4:=by
    rw[qJ,qJ,qJ,qJ]
   rw[e];exact Y _ A B C
  cases k1 with
  | true=>
   have M:Heap.IsList (Shared.heap ⟨t,g,d,J,os⟩) u xs:=N;cases k2 with
   | true=>
    have L2:Heap.IsList (Shared.heap ⟨t.push { cls:=.type "list_iterator",data:=.fields #[.ref u,.int 0 0] },g,d,J,os⟩) H ys:=Xt G _;wp_walk using wpAny_pyIter_list M,wpAny_pyIter_list L2
    exact⟨_,rfl,D (fun g e=>⟨_,e,rfl,rfl⟩) (fun g n e=>⟨_,e,rfl,rfl⟩) rfl rfl⟩
   | false=>
    have L2:Heap.IsTuple (Shared.heap ⟨t.push { cls:=.type "list_iterator",data:=.fields #[.ref u,.int 0 0] },g,d,J,os⟩) H ys:=Heap.IsTuple.push G _;wp_walk using wpAny_pyIter_list M,wpAny_pyIter_tuple L2
    exact⟨_,rfl,D (fun g e=>⟨_,e,rfl,rfl⟩) (fun g n e=>⟨_,e,rfl,rfl⟩) rfl rfl⟩
  | false=>
   have M:Heap.IsTuple (Shared.heap ⟨t,g,d,J,os⟩) u xs:=N;cases k2 with
   | true=>
    have L2:Heap.IsList (Shared.heap ⟨t.push { cls:=.type "tuple_iterator",data:=.fields #[.ref u,.int 0 0] },g,d,J,os⟩) H ys:=Xt G _;wp_walk using wpAny_pyIter_tuple M,wpAny_pyIter_list L2
    exact⟨_,rfl,D (fun g e=>⟨_,e,rfl,rfl⟩) (fun g n e=>⟨_,e,rfl,rfl⟩) rfl rfl⟩
   | false=>
    have L2:Heap.IsTuple (Shared.heap ⟨t.push { cls:=.type "tuple_iterator",data:=.fields #[.ref u,.int 0 0] },g,d,J,os⟩) H ys:=Heap.IsTuple.push G _;wp_walk using wpAny_pyIter_tuple M,wpAny_pyIter_tuple L2
    exact⟨_,rfl,D (fun g e=>⟨_,e,rfl,rfl⟩) (fun g n e=>⟨_,e,rfl,rfl⟩) rfl rfl⟩
theorem zdS{t u:Bool}{B D:Addr}{H I:Array Value}{Q:Value->Shared->Prop}(J:SeqK t s.heap B H)(L:SeqK u s.heap D I)
  (h:∀g,VE t u g (s.heap.objs.size+4) (s.heap.objs.size+2) (s.heap.objs.size+3) s.heap.objs.size (s.heap.objs.size+1) B D 0->(∀c o,s.heap.get? c=some o->g.get? c=some o)->g.objs.size=s.heap.objs.size+5 ->
   Q (.ref (s.heap.objs.size+4)) { s with heap:=g }):wpAny (model l w) A (call (.type "zip") [.ref B,.ref D]) Q E s:=by
 refine callType_new F.called_zip (by decide) (F.typeCall_zip_2 _ _) (F.newCall_zip_2 _ _) (fun G=>F.args_object_init_3 G _ _) F.entry_zip_new (zd3 (k1:=t) (k2:=u) (xs:=H) (ys:=I)) ⟨J,L,fun g Z k z=>?_⟩
 exact⟨⟨_,Z.zz,rfl⟩,h g Z k z⟩
end
theorem Inv.seqK{X:Cx}{g:List (Addr×Obj)}{σ:St}{H:Hp}{s:Shared}{l:Bool}{a:Addr}{o:List V}(I:Inv X g σ H s)(h:SqK X.K l H a o):∃c:List Value,Vals o c/\SeqK l s.heap a c.toArray/\o.length<=sizeLine:=by
 cases l with
 | true=>obtain⟨c,r,p,z⟩:=I.list h;exact⟨c,r,p.isList,z⟩
 | false=>obtain⟨c,r,p,z⟩:=I.tuple h;exact⟨c,r,p,z⟩
theorem Inv.seqK_inj{X:Cx}{c:List (Addr×Obj)}{σ:St}{H:Hp}{s:Shared}{g:Bool}{a:Addr}{o t:List V}(I:Inv X c σ H s)(h:SqK X.K g H a o)(l:SqK X.K g H a t):o=t:=by
 cases g with
 | true=>exact I.list_inj h l
 | false=>exact I.tuple_inj h l
theorem SqK.ne_fp{X:Cx}{c:List (Addr×Obj)}{σ:St}{H:Hp}{s:Shared}{kd:Bool}{a b:Addr}{g:List V}(I:Inv X c σ H s)(h:SqK X.K kd H a g)(f:jZ X c H b):a≠b:=fun z=>by
 have t:∀o,X.K.lookup a=some o->False:=fun o e=>by
  have l:=I.mod.kin a o e;rcases f.2.2.2.1 with q | q
  ·exact I.ok.noex a o l (by rw[z];exact q)
  ·have:=zH (I.ok.bs a o l).1
   rw[z] at this;exact jW _ (jz this q)
 cases kd with
 | true=>
  rcases(show SqL X.K H a g from h) with(q | ⟨o,q⟩) | ⟨o,_,_,q,_⟩
  ·rw[z,f.1] at q;cases q
  ·rw[z,f.1] at q;cases q
  ·exact t o q
 | false=>
  rcases(show SqT X.K H a g from h) with(q | ⟨o,q⟩) | ⟨o,_,_,q,_⟩
  ·rw[z,f.1] at q;cases q
  ·rw[z,f.1] at q;cases q
  ·exact t o q
def Itz(K:W.Frag)(s t:Bool)(l o:Addr):It:=
 ⟨fun i H=>∃c g x y,SqK K s H l c/\SqK K t H o g/\c[i]? =some x/\g[i]? =some y,
  fun i H x w=>∃T u v,x=.ref T/\H T=none/\w=upd H T (.tup [u,v])/\(∀c,SqK K s H l c->c[i]? =some u)/\∀g,SqK K t H o g->g[i]? =some v,
  fun i H=>∃c g,SqK K s H l c/\SqK K t H o g/\(c.length<=i\/g.length<=i)⟩
theorem zec{P:Program}{w:World}{K:W.Frag}{M:List Expr}{kk:Nat}{a8:Pos}{k1 k2:Bool}{a1 a2 z TI TO B D:Addr}(N:zcD z TI TO B D) :
  Jb P w K (.Tuple M kk a8) (Itz K k1 k2 a1 a2) [z,TI,TO,B,D] z (fun i h=>VE k1 k2 h z TI TO B D a1 a2 i) where
 mem:=by simp
 obj:=fun i h Z b hb=>by
  obtain⟨a,U,q⟩:=Z.to;have e1:=Z.r1.obj;have e2:=Z.r2.obj;simp only[zC,x5,or_false] at hb;rcases hb with r | r | r | r | r
  ·subst r;exact⟨_,Z.zz,fun v q=>nomatch q⟩
  ·subst r;exact⟨_,Z.ti,fun v q=>nomatch q⟩
  ·subst r;exact⟨_,q,fun v q=>nomatch q⟩
  ·subst r;obtain⟨o,e,_,d⟩:=e1;exact⟨o,e,d⟩
  ·subst r;obtain⟨o,e,_,d⟩:=e2;exact⟨o,e,d⟩
 keep:=fun i h L Z k=>by
  obtain⟨a,U,q⟩:=Z.to;exact⟨k _ (by simp) _ Z.zz,k _ (by simp) _ Z.ti,⟨a,U,k _ (by simp) _ q⟩,Z.r1.at fun o e=>k _ (by simp) o e,Z.r2.at fun o e=>k _ (by simp) o e⟩
 item:=by
  intro X hP hw Y hc i T s σ H E I A Z hg;subst hP hw Y;obtain⟨xs,ys,x,y,g,l,hx,hy⟩:=hg;obtain⟨O,G,p1,a6⟩:=I.seqK g;obtain⟨Q,J,p2,a7⟩:=I.seqK l;obtain⟨u1,a4,a9⟩:=G.get hx;obtain⟨u2,a5,aa⟩:=J.get hy;have sub:∀b∈[z,TO,B,D],b∈[z,TI,TO,B,D]:=fun b hb=>by
   simp only[zC,x5,or_false] at hb ⊢;rcases hb with r | r | r | r<;>simp[r]
  refine zcE N Z p1 p2 (fun b hb=>g.ne_fp I (A b (sub b hb))) (fun b hb=>l.ne_fp I (A b (sub b hb))) (by simpa using a4) (by simpa using a5) fun h1 zz ti to r1 r2 hT ac hk=>?_
  refine⟨_,rfl,wpAny_letOwnedTupleGo_zip zz fun h2 ab t=>?_⟩
  have zl:z<s.heap.objs.size:=zH Z.zz;obtain⟨ta,tb,to⟩:=to;refine⟨.ref s.heap.objs.size,upd H s.heap.objs.size (.tup [x,y]),?_,rfl,⟨_,x,y,rfl,I.hok.fresh (zD _),rfl,fun af L=>by rw[I.seqK_inj L g];exact hx,fun ag L=>by rw[I.seqK_inj L l];exact hy⟩,
   ⟨ab,t.extBut _ _ N.a ti,⟨ta,tb,t.extBut _ _ N.b to⟩,r1.at fun o e=>t.extBut _ o N.c e,r2.at fun o e=>t.extBut _ o N.d e⟩,fun b hb=>?_⟩
  ·exact Jl (s:=s) (h':=h2) (t':=s.toks) (ch:=[z,TO,B,D]) (its:=[u1,u2]) I (fun b hb=>A b (sub b hb)) (zD _) (fun b o hb e=>t.extBut _ o (fun q=>hb (by simp[q])) (hk b o hb e)) (by rw[sizeLine_eq];exact(by decide:2<=16777216)) (.cons a9 (.cons aa .nil))
    (TupX.by (t.extBut _ _ (jH zl) hT))
  ·have a0:b<s.heap.objs.size:=by
    have e1:=Z.r1.obj;have e2:=Z.r2.obj;obtain⟨a,U,q⟩:=Z.to;simp only[zC,x5,or_false] at hb;rcases hb with r | r | r | r | r
    ·subst r;exact zl
    ·subst r;exact zH Z.ti
    ·subst r;exact zH q
    ·subst r;obtain⟨o,e,_⟩:=e1;exact zH e
    ·subst r;obtain⟨o,e,_⟩:=e2;exact zH e
   rw[zq (zP a0)];exact(A b hb).1
 done:=by
  intro X hP hw Y hc i T s σ H E I A Z hg;subst hP hw Y;obtain⟨xs,ys,g,l,a3⟩:=hg;obtain⟨O,G,p1,a6⟩:=I.seqK g;obtain⟨Q,J,p2,a7⟩:=I.seqK l;have sub:∀b∈[z,TO,B,D],b∈[z,TI,TO,B,D]:=fun b hb=>by
   simp only[zC,x5,or_false] at hb ⊢;rcases hb with r | r | r | r<;>simp[r]
  have tr:∀b u,H b=some u->b∉[z,TO,B,D]:=fun b u e hb=>by rw[(A b (sub b hb)).1] at e;cases e
  refine zd4 (I.ok.hd hc) N Z p1 p2 (fun b hb=>g.ne_fp I (A b (sub b hb))) (fun b hb=>l.ne_fp I (A b (sub b hb))) ?_ fun L hk=>⟨rfl,?_⟩
  ·have l1:=G.length
   have l2:=J.length;rcases a3 with q | q
   ·exact .inl (by simp;omega)
   ·exact .inr (by simp;omega)
  ·refine I.step (g':=s.gens) (d':=s.drawn) (t':=s.toks) (ch:=[z,TO,B,D]) (fun b hb=>?_) (fun b o _ _ hc e _=>hk b o hc e) (fun b o _ _ hc e _=>⟨o.slots,hk b o hc e⟩) (fun _ _ _ _ n=>n) (fun b o hc e=>⟨o,hk b o hc e⟩)
    (fun _ _ e=>e) (fun _ _ _ e=>e) (fun b ps e=>⟨#[],by rw[e];simp⟩) (fun m hm=>?_) (fun b u e=>?_) I.bare
   ·obtain⟨_,g1,_,g3,g4,g5⟩:=A b (sub b hb)
    exact⟨g3,g1,g4,g5⟩
   ·obtain⟨o,es,ep,ho,r⟩:=hm
    exact⟨o,es,ep,hk _ o (fun z=>(A _ (sub _ z)).2.1 rfl) ho,r⟩
   ·refine(I.hok b u e).stay (fun c v hc q=>hk c v ?_ q) (fun _ q=>q) fun _ _ q=>q
    rcases hc with z | z
    ·rw[z];exact tr b u e
    ·exact tr c _ z
 self:=fun _ _ _ _ _ Z h=>wpAny_pyIter_zip Z.zz h
section
variable{X:Cx}
def zli(K:W.Frag)(t:TA):TI:=fun σ H R=>t σ H fun u c=>∃o s g l,u=[.ref g,.ref l]/\(∃w,SqK K o c g w)/\(∃A,SqK K s c l A)/\R (Itz K o s g l) c
theorem V0{l m:Expr}{M:TA}{p A tp:Pos}{o:List Expr}{kk:Nat}(hg:Gl X "zip")(U:X.mg "zip" = none)(T:PA X [l,m] M)(Y:starEach [l,m] X.env=[(false,eval l X.env),(false,eval m X.env)]:=by rfl)(w:starEach [m] X.env=[(false,eval m X.env)]:=by rfl) :
  PI X (.Tuple o kk tp) (.Call (.Name "zip" p) [l,m] [] A) (zli X.K M):=by
 intro c s σ H R I h;refine Call_ (vP I hg U boot_zip (Xk (thn (T A c s σ H _ I h) fun us s1 ⟨vs,G,g,r1,q1⟩=>?_) (by rw[Y,w]) (by rw[w];rfl)))
 obtain⟨k1,k2,a1,a2,e,⟨xs,B⟩,⟨ys,D⟩,q⟩:=q1;subst e;obtain⟨u,u',rfl,ru,E⟩:=Jr r1;cases ru;cases E;obtain⟨J,a5,p1,a3⟩:=g.seqK B;obtain⟨L,a6,p2,a4⟩:=g.seqK D;refine zdS p1 p2 fun Q Z hk a0=>wpAny_pyIter_zip Z.zz ?_
 have O:Inv X c σ G { s1 with heap:=Q }:=g.kept (t':=s1.toks) hk;have N:zcD (s1.heap.objs.size+4) (s1.heap.objs.size+2) (s1.heap.objs.size+3) s1.heap.objs.size (s1.heap.objs.size+1):=by
  constructor<;>(intro e;have e':(_:Nat)=_:=e;omega)
 refine⟨s1.heap.objs.size+4,_,_,_,G,rfl,O,zec N,Z,fun b hb=>?_,q⟩
 have t:s1.heap.objs.size<=b:=by
  simp only[zC,x5,or_false] at hb;rcases hb with r | r | r | r | r<;>(rw[r];first| exact Nat.le_add_right _ _ | exact zD _)
 exact g.fpOk t (g.hok.fresh t)
end
def TyN(K:W.Frag)(H:Hp)(x:V)(T:String):Prop:=match x with
 | .non=>T = "NoneType"
 | .bl _=>T = "bool"
 | .int _=>T = "int"
 | .str _=>T = "str"
 | .ref a=>(T = "list" /\ ∃c,SqL K H a c)\/(T = "tuple" /\ ∃c,SqT K H a c)
 | _=>False
def zeg(T C:String):Bool:=T==C||(T == "bool" && C == "int")
def Je:List String:=["NoneType","bool","int","str","list","tuple"]
def ZR:List String:=["bool","int","str","list","tuple","dict"]
theorem zco{K:W.Frag}:∀T∈Je,∀C∈ZR,PySem.W.kitOne K (.type T) (.type C)=some (zeg T C):=by
 intro T g C c;simp only[Je,ZR,zC,x5,or_false] at g c;rcases g with rfl | rfl | rfl | rfl | rfl | rfl<;>rcases c with rfl | rfl | rfl | rfl | rfl | rfl<;>kernel_rfl
theorem YQ{K:W.Frag}{T:String}(c:T∈Je):∀{Cs:List String},(∀C∈Cs,C∈ZR)->PySem.W.kitAny K (.type T) (Cs.map Value.type)=some (Cs.any fun C=>zeg T C)
 | [],_=>rfl
 | C::r,h=>by
  have o:=YQ (K:=K) c (Cs:=r) fun g l=>h g (z9 _ l)
  show(match PySem.W.kitOne K (.type T) (.type C) with | some true=>some true | some false=>PySem.W.kitAny K (.type T) (r.map Value.type) | none=>none)=_
  rw[zco T c C (h C jK),xX];cases zeg T C with
  | true=>rfl
  | false=>rw[o];rfl
theorem TyN.mem{K:W.Frag}{H:Hp}{x:V}{T:String}(h:TyN K H x T):T∈Je:=by
 cases x with
 | non=>cases(show T=_ from h);decide
 | bl _=>cases(show T=_ from h);decide
 | int _=>cases(show T=_ from h);decide
 | str _=>cases(show T=_ from h);decide
 | ref a=>rcases(show _\/_ from h) with ⟨e,_⟩ | ⟨e,_⟩<;>(subst e;decide)
 | _=>exact(show False from h).elim
section
variable{X:Cx}{c:List (Addr×Obj)}{σ:St}{H:Hp}{s:Shared}
theorem zcn{x:V}{u:Value}{T:String}(I:Inv X c σ H s)(g:RelV x u)(ty:TyN X.K H x T):∃P:Heap->Prop,P s.heap/\PySem.W.KitX X.K u (.type T) P/\u≠.builtin "__main__.__loader__#opaque" :=by
 cases x with
 | non=>cases(show u=Value.none from g);cases(show T=_ from ty);exact⟨_,True.intro,PySem.W.kitx_none,fun z=>nomatch z⟩
 | bl y=>cases(show u=Value.bool y from g);cases(show T=_ from ty);exact⟨_,True.intro,PySem.W.kitx_bool,fun z=>nomatch z⟩
 | int i=>obtain⟨t,q⟩:=(show ∃t,u=Value.int i t from g);cases q;cases(show T=_ from ty);exact⟨_,True.intro,PySem.W.kitx_int,fun z=>nomatch z⟩
 | str y=>obtain⟨t,q⟩:=(show ∃t,u=Value.str y t from g);cases q;cases(show T=_ from ty);exact⟨_,True.intro,PySem.W.kitx_str,fun z=>nomatch z⟩
 | ref a=>
  cases(show u=Value.ref a from g)
  rcases(show _\/_ from ty) with ⟨e,w,hx⟩ | ⟨e,w,hx⟩
  ·subst e
   obtain⟨l,r,⟨o,n,e1,e2,_⟩,_⟩:=I.list hx;exact⟨_,⟨o,e1,e2⟩,PySem.W.kitx_list,fun z=>nomatch z⟩
  ·subst e
   obtain⟨l,r,⟨o,e1,e2,_⟩,_⟩:=I.tuple hx;exact⟨_,⟨o,e1,e2⟩,PySem.W.kitx_tuple,fun z=>nomatch z⟩
 | _=>exact(show False from ty).elim
end
section
variable{X:Cx}
theorem zbo:∀{g:List String} {c:List Value},Vals (g.map V.ty) c->c=g.map Value.type
 | [],c,r=>by cases r;rfl
 | C::r,c,h=>by
  cases h with
  | cons l o=>rw[zbo o,show _=Value.type C from l];rfl
inductive XG(K:W.Frag)(c:List V)(H:Hp)(Q:VK):Prop
 | mk (x T C:_) (_:c=[x,.ty C]) (_:TyN K H x T) (_:C∈ZR) (_:Q (.bl (zeg T C)) H):XG K c H Q
theorem qY:jE X (.builtin "isinstance") (XG X.K):=by
 intro g s σ H E D Q I r h;obtain⟨x,T,C,rfl,ty,l,q⟩:=h;obtain⟨u,B,rfl,w,c⟩:=Jr r;cases(show B=Value.type C from c)
 obtain⟨P,o,Z,t⟩:=zcn I w ty;exact PySem.W.kia_one Z I.kIn o (zco T ty.mem C l) t fun A=>⟨.bl _,H,I.tok A,rfl,q⟩
inductive Q0(K:W.Frag)(g:List V)(H:Hp)(Q:VK):Prop
 | mk (x:V) (T:String) (p:Addr) (c:List String) (_:g=[x,.ref p]) (_:TyN K H x T) (_:H p=some (.tup (c.map V.ty))) (_:(∀C∈c,C∈ZR)) (_:Q (.bl (c.any fun C=>zeg T C)) H):Q0 K g H Q
theorem Vv:jE X (.builtin "isinstance") (Q0 X.K):=by
 intro w s σ H xs us Q I r h;obtain⟨x,T,p,O,rfl,ty,G,B,q⟩:=h;obtain⟨u,N,rfl,L,t⟩:=Jr r;cases(show N=Value.ref p from t)
 obtain⟨P,D,Z,E⟩:=zcn I L ty;obtain⟨l,J,⟨o,e1,e2,n,g⟩,_⟩:=I.tuple (u5 G);obtain⟨c,U,A,Y⟩:=o;have e2:c=.type "tuple" :=e2;have g:A=.seq l.toArray n:=g;subst e2 g;rw[zbo J] at e1;exact PySem.W.kia_tup Z I.kIn D e1 (YQ ty.mem B) E fun M=>⟨.bl _,H,I.tok M,rfl,q⟩
end
inductive Dat where
 | non | bl (b:Bool) | int (i:Int) | str (x:Str) | lst (c:List Dat) | tup (c:List Dat)
mutual
def Rep(K:W.Frag)(H:Hp):Dat->V->Prop
 | .non,v=>v=.non
 | .bl b,v=>v=.bl b
 | .int i,v=>v=.int i
 | .str x,v=>v=.str x
 | .lst g,v=>∃a c,v=.ref a/\SqL K H a c/\Reps K H g c
 | .tup g,v=>∃a c,v=.ref a/\SqT K H a c/\Reps K H g c
def Reps(K:W.Frag)(H:Hp):List Dat->List V->Prop
 | [],c=>c=[]
 | d::g,c=>∃x r,c=x::r/\Rep K H d x/\Reps K H g r
end
theorem Same.sqT{K:W.Frag}{H c:Hp}{a:Addr}{g:List V}(e:Same H c)(h:SqT K H a g):SqT K c a g:=by
 rcases h with(h | ⟨o,h⟩) | h
 ·exact .inl (.inl (e _ _ h))
 ·exact .inl (.inr ⟨o,e _ _ h⟩)
 ·exact .inr h
mutual
theorem Rep.same{K:W.Frag}{H l:Hp}(e:Same H l):∀{d:Dat} {v:V},Rep K H d v->Rep K l d v
 | .non,_,h=>h
 | .bl _,_,h=>h
 | .int _,_,h=>h
 | .str _,_,h=>h
 | .lst _,_,h=>by
  obtain⟨a,g,e1,e2,c⟩:=h;exact⟨a,g,e1,e.seq e2,Reps.same e c⟩
 | .tup _,_,h=>by
  obtain⟨a,g,e1,e2,c⟩:=h;exact⟨a,g,e1,e.sqT e2,Reps.same e c⟩
theorem Reps.same{K:W.Frag}{H c:Hp}(e:Same H c):∀{g:List Dat} {l:List V},Reps K H g l->Reps K c g l
 | [],_,h=>h
 | _::_,_,h=>by
  obtain⟨x,r,e1,e2,o⟩:=h;exact⟨x,r,e1,Rep.same e e2,Reps.same e o⟩
end
theorem Reps.len{K:W.Frag}{H:Hp}:∀{c:List Dat} {g:List V},Reps K H c g->g.length=c.length
 | [],_,h=>by rw[show _=_ from h];rfl
 | _::_,_,h=>by
  obtain⟨x,r,e1,e2,l⟩:=h;rw[e1,jJ,jJ,Reps.len l]
theorem Reps.get{K:W.Frag}{H:Hp}:∀{c:List Dat} {g:List V} {i:Nat} {x:V},Reps K H c g->g[i]? =some x->∃d,c[i]? =some d/\Rep K H d x
 | [],_,_,_,h,e=>by rw[show _=_ from h] at e;simp at e
 | d::c,_,i,x,h,e=>by
  obtain⟨y,r,e1,e2,o⟩:=h;subst e1;cases i with
  | zero=>simp at e;subst e;exact⟨d,rfl,e2⟩
  | succ i=>
   obtain⟨l,s,t⟩:=Reps.get (i:=i) o (by simpa using e)
   exact⟨l,by simpa using s,t⟩
theorem zd{H:Hp}{a:Addr}{o:HO}(h:H a=none):Same H (upd H a o):=fun b u e=>by rw[zq (zo e h)];exact e
def zdK:List V->List V->Bool
 | [],[]=>true
 | x::c,y::g=>eqV x y&&zdK c g
 | _,_=>false
theorem J9:∀(c g:List V),(((List.range (min c.length g.length)).all fun j=>eqV (c.getD j .non) (g.getD j .non))&&(c.length==g.length))=zdK c g
 | [],[]=>rfl
 | [],y::g=>by simp[zdK]
 | x::c,[]=>by simp[zdK]
 | x::c,y::g=>by
  have l:=J9 c g;have e1:min (x::c).length (y::g).length=min c.length g.length+1:=by simp only[jJ];omega
  rw[e1,List.range_succ_eq_map,List.all_cons,List.all_map];unfold zdK;rw[<- l,Bool.and_assoc];congr 1
  have e2:((x::c).length==(y::g).length)=(c.length==g.length):=by
   rw[vU];simp
  rw[e2];congr 1
section
variable{X:Cx}
end
structure Dfn(P:Program)(w:World)(K:W.Frag)(mg:Str->Option Value)(base:Heap)(x:Str)(k:Nat)(ps:List Str)(sp:Sp):Prop where
 ex:∃f fd,qA P w K mg base CX0 k f fd ps sp/\mg x=some (.ref f)/\PySem.W.keepIn K (.ref f)=true/\Binds K fd ps []
section
variable{X:Cx}{x:Str}{k:Nat}{o:List Str}{l:Sp}{p g:Pos}{e:Expr}{c:List Expr}{t:TA}
theorem zi(D:Dfn X.prog X.w X.K X.mg X.base x k o l)(A:Room k X.A)(hg:Gl X x)(u:PA X (e::c) t)(hd:(x==("__debug__":Str))=false:=by decide)
  (B:starEach (e::c) X.env=(false,eval e X.env)::starEach c X.env:=by rfl) (s:(backTo g (starEach c X.env)).any (·.1)=false:=by rfl):PE X (.Call (.Name x p) (e::c) [] g) (zhw l [] E0 t):=by
 obtain⟨f,E,F,w,hk,hb⟩:=D.ex;exact zgF F A hg w hk hb .nil zki u hd B s
end
theorem ifT{b:Bool}{A B:Prop}(h:b=true)(q:A):if b=true then A else B:=by rw[zu h];exact q
theorem ifF{b:Bool}{A B:Prop}(h:b=false)(q:B):if b=true then A else B:=by rw[zk (by rw[h];exact qU)];exact q
theorem JZ{K:W.Frag}{k1 k2:Bool}{t w:Addr}{xs ys:List V}{g:TG}{Q:TT}{O:TE}{A:St}{n:Nat}{R:List V->Hp->Prop}{H:Hp}(Pv:Nat->List V->Hp->Prop)(U:Pv 0 [] H)
  (Y:∀i c H,Pv i c H->SqK K k1 H t xs/\SqK K k2 H w ys)
  (hs:∀i x y c H T,xs[i]? =some x->ys[i]? =some y->Pv i c H->H T=none->g (.ref T) A (upd H T (.tup [x,y])) fun o E=>o.drop n=A.drop n/\Q o E fun b s=>
   if b=true then O o s fun v G=>c.length<sizeLine/\Pv (i+1) (c++[v]) G else Pv (i+1) c s)
  (hd:∀c H,Pv (min xs.length ys.length) c H->c.length<=sizeLine/\R c H) :
  ∃W:Nat->Nat->List V->Hp->Prop,(∃m,W 0 m [] H)/\∀i m c l,W i m c l ->
   ((Itz K k1 k2 t w).stop i l/\c.length<=sizeLine/\R c l) \/
   ((Itz K k1 k2 t w).go i l/\∃N:List V->Hp->Prop,(∀c B,N c B->∃M,M<m/\W (i+1) M c B)/\∀x D,(Itz K k1 k2 t w).yld i l x D->g x A D fun o E=>o.drop n=A.drop n/\Q o E fun b s=>
    if b=true then O o s fun y G=>c.length<sizeLine/\N (c++[y]) G else N c s):=by
 refine⟨fun i m c l=>m=min xs.length ys.length-i/\i<=min xs.length ys.length/\Pv i c l,⟨_,rfl,qB _,U⟩,?_⟩
 rintro i m c l ⟨rfl,hi,p⟩;obtain⟨J,L⟩:=Y i c l p;by_cases I:i<min xs.length ys.length
 ·have l1:i<xs.length:=by omega
  have l2:i<ys.length:=by omega
  refine .inr ⟨⟨xs,ys,xs[i],ys[i],J,L,by simp[l1],by simp[l2]⟩,Pv (i+1),fun a0 B p'=>⟨_,by omega,rfl,I,p'⟩,fun x D y=>?_⟩
  obtain⟨T,u,v,e1,hT,e2,y1,y2⟩:=y;subst e1 e2;exact hs i u v c l T (y1 xs J) (y2 ys L) p hT
 ·have e:i=min xs.length ys.length:=by omega
  subst e;obtain⟨z1,z2⟩:=hd c l p;exact .inl ⟨⟨xs,ys,J,L,by omega⟩,z1,z2⟩
theorem YN{lo:Int}{N n:Nat}{g:TG}{I:TT}{G:TE}{u:St}{R:List V->Hp->Prop}{H:Hp}(Pv:Nat->List V->Hp->Prop)(J:Pv 0 [] H)
  (L:∀i c H,i<N->Pv i c H->g (.int (lo+i)) u H fun s B=>s.drop n=u.drop n/\I s B fun b t=>if b=true then G s t fun v D=>c.length<sizeLine/\Pv (i+1) (c++[v]) D else Pv (i+1) c t)
  (hd:∀c H,Pv N c H->c.length<=sizeLine/\R c H) :
  ∃W:Nat->Nat->List V->Hp->Prop,(∃m,W 0 m [] H)/\∀i m c l,W i m c l ->
   ((Itr lo N).stop i l/\c.length<=sizeLine/\R c l) \/
   ((Itr lo N).go i l/\∃M:List V->Hp->Prop,(∀c w,M c w->∃E,E<m/\W (i+1) E c w)/\∀x A,(Itr lo N).yld i l x A->g x u A fun s B=>s.drop n=u.drop n/\I s B fun b t=>
    if b=true then G s t fun y D=>c.length<sizeLine/\M (c++[y]) D else M c t):=by
 refine⟨fun i m c l=>m=N-i/\i<=N/\Pv i c l,⟨_,rfl,qB _,J⟩,?_⟩
 rintro i m c l ⟨rfl,Y,p⟩;by_cases o:i<N
 ·refine .inr ⟨o,Pv (i+1),fun U w O=>⟨_,by omega,rfl,o,O⟩,fun x A y=>?_⟩
  obtain⟨e1,e2⟩:=y;subst e1 e2;exact L i c _ o p
 ·have e:i=N:=by omega
  subst e;obtain⟨Q,T⟩:=hd c l p;exact .inl ⟨zD _,Q,T⟩
def Zi(sn on:List (Str×NameKind))(N own c:List Str)(g:List Nat):Bool:=
 QP sn on N c g&&own.all (fun x=>sn.lookup x==some .local)&&decide (own++c).Nodup
theorem wq{sn on:List (Str×NameKind)}{N own c:List Str}{g:List Nat}(h:Zi sn on N own c g=true):QP sn on N c g=true/\(∀x∈own,sn.lookup x=some .local)/\(own++c).Nodup:=by
 unfold Zi at h;rw[jI,jI,vF] at h;exact⟨h.1.1,fun x hx=>by simpa using h.1.2 x hx,jy h.2⟩
section
variable{X:Cx}{g c:Expr}{l:List Expr}{scope:Scope}{o t D E:Pos}{A:TI}{w:TT}{u:TE}{x y:Str}{B:Nat}
theorem vK{G:List Str}{C:Addr}{s:Shared}{H:Hp}{I:List Addr}{i:Nat}(J:scope.names.lookup x=some .local)(M:G.Nodup)(L:G[i]? =some x):PG (qm X G scope C s H I) (.Name x t) (xY i):=
 zB (X:=qm X G scope C s H I) M L (.inl (lookup_relabel_local J)) (.inr (lookup_relabel_local J))
theorem jQ(I:List Str)(J:List Nat)(hc:X.calm=true)(hk:scope.kind=.function)(hb:Zi scope.names X.env.scope.names X.N [x] I J=true)(T:PI X (.Name x t) c A)
  (Q:∀C s H G,PF (qm X ([x]++I) scope C s H G) l w) (O:∀C s H G,PE (qm X ([x]++I) scope C s H G) g u)
  (U:∀x,foldedSetIterable c X.env x=pure x:=by intro _;rfl):PE X (.ListComp g [⟨.Name x t,c,l,0⟩] scope o) (tLC A 1 J (xY 0) w u):=by
 obtain⟨L,M,N⟩:=wq hb;exact zeX [x] I J hc hk L T (fun C s H G=>vK (M x (by simp)) N rfl) Q O U
theorem vM(I:List Str)(J:List Nat)(hc:X.calm=true)(hk:scope.kind=.function)(hb:Zi scope.names X.env.scope.names X.N [x,y] I J=true)(T:PI X (.Tuple [.Name x t,.Name y D] B E) c A)
  (Q:∀C s H G,PF (qm X ([x,y]++I) scope C s H G) l w) (O:∀C s H G,PE (qm X ([x,y]++I) scope C s H G) g u)
  (U:∀x,foldedSetIterable c X.env x=pure x:=by intro _;rfl):PE X (.ListComp g [⟨.Tuple [.Name x t,.Name y D] B E,c,l,0⟩] scope o) (tLC A 2 J (zaF X.K 2 (wf (xY 0) (wf (xY 1) zdI))) w u):=by
 obtain⟨N,L,M⟩:=wq hb;refine zeX [x,y] I J hc hk N T (fun C s H G=>?_) Q O U
 exact jP (X:=qm X ([x,y]++I) scope C s H G) hc (zI (vK (L x (by simp)) M rfl) (zI (vK (L y (by simp)) M rfl) jd))
end
def tWk(t:TS):TS:=fun D σ H=>∃J:St->Hp->Prop,t { D with nx:=J } σ H/\∀g c,J g c->D.nx g c
theorem VX{X:Cx}{st:Stmt}{t:TS}(h:PS X st t):PS X st (tWk t):=by
 intro c s σ H D I w;obtain⟨J,A,B⟩:=w;refine thn (h c s σ H _ I A) fun f s1 q=>?_
 cases f with
 | next=>obtain⟨l,g,o,z⟩:=q;exact⟨l,g,o,B l g z⟩
 | brk=>exact q
 | cont=>exact q
 | ret u=>exact q
def Dat.ok:Nat->Dat->Prop
 | n+1,.lst c=>c.length<=1000000/\∀d∈c,Dat.ok n d
 | n+1,.tup c=>c.length<=1000000/\∀d∈c,Dat.ok n d
 | 0,.lst _=>False
 | 0,.tup _=>False
 | _,_=>True
def Dat.tyN:Dat->String
 | .non=> "NoneType" | .bl _=> "bool" | .int _=> "int" | .str _=> "str" | .lst _=> "list" | .tup _=> "tuple"
theorem Rep.ty{K:W.Frag}{H:Hp}{d:Dat}{v:V}(h:Rep K H d v):TyN K H v d.tyN:=by
 cases d with
 | non=>rw[show v=_ from h];exact rfl
 | bl b=>rw[show v=_ from h];exact rfl
 | int b=>rw[show v=_ from h];exact rfl
 | str b=>rw[show v=_ from h];exact rfl
 | lst g=>obtain⟨a,c,rfl,e,_⟩:=h;exact .inl ⟨rfl,c,e⟩
 | tup g=>obtain⟨a,c,rfl,e,_⟩:=h;exact .inr ⟨rfl,c,e⟩
mutual
def Dat.py:Dat->PyData
 | .non=>.none
 | .bl b=>.bool b
 | .int i=>.int i
 | .str x=>.str x
 | .lst c=>.list (Dat.pys c)
 | .tup c=>.tuple (Dat.pys c)
def Dat.pys:List Dat->List PyData
 | []=>[]
 | d::c=>d.py::Dat.pys c
end
mutual
def Dat.shw:Dat->Bool
 | .int i=>decide (i.natAbs<1000000000000)
 | .str x=>x.cps.toList.all fun c=>decide (c<1000000)
 | .lst g=>Dat.shws g
 | .tup g=>Dat.shws g
 | _=>true
def Dat.shws:List Dat->Bool
 | []=>true
 | d::c=>d.shw&&Dat.shws c
end
mutual
def Dat.blk:Dat->Nat
 | .str x=>x.cps.size
 | .lst c=>Dat.blks c
 | .tup c=>Dat.blks c
 | _=>0
def Dat.blks:List Dat->Nat
 | []=>0
 | d::c=>d.blk+1+Dat.blks c
end
mutual
theorem Dat.py_blk:∀d:Dat,d.py.bulk=d.blk
 | .non=>rfl
 | .bl _=>rfl
 | .int _=>rfl
 | .str _=>rfl
 | .lst c=>Dat.pys_blk c
 | .tup c=>Dat.pys_blk c
theorem Dat.pys_blk:∀c:List Dat,PyData.bulkAll (Dat.pys c)=Dat.blks c
 | []=>rfl
 | d::c=>by
  show PyData.bulk d.py+1+PyData.bulkAll (Dat.pys c)=d.blk+1+Dat.blks c;rw[Dat.py_blk d,Dat.pys_blk c]
end
theorem zch{n:Nat}(h:n<1000000000000):n.log2<1920:=by
 by_cases c:n=0
 ·rw[c];decide
 ·exact Zm ((Nat.log2_lt c).mpr (Zm h (by decide:1000000000000<2^40))) (by decide)
mutual
theorem Dat.py_short:∀d:Dat,d.shw=true->d.py.leavesShort 13=true/\d.py.showable=true/\d.py.hasDict=false
 | .non,_=>⟨rfl,rfl,rfl⟩
 | .bl _,_=>⟨rfl,rfl,rfl⟩
 | .int i,h=>by
  have g:i.natAbs<1000000000000:=jy h;refine⟨zT (PyData.shown_int_le g),zT (zch g),rfl⟩
 | .str x,h=>by
  refine⟨?_,rfl,rfl⟩
  have g:(x.cps.toList.all fun c=>decide (c<1000000))=true:=h
  show(x.cps.toList.all fun c=>decide (c<16^8))=true
  rw[vF] at g ⊢;intro c hc;have:=jy (g c hc);exact zT (by omega)
 | .lst l,h=>Dat.pys_short l h
 | .tup l,h=>Dat.pys_short l h
theorem Dat.pys_short:∀c:List Dat,Dat.shws c=true->PyData.leavesShortAll 13 (Dat.pys c)=true/\PyData.showableAll (Dat.pys c)=true/\PyData.hasDictAll (Dat.pys c)=false
 | [],_=>⟨rfl,rfl,rfl⟩
 | d::c,h=>by
  have g:(d.shw&&Dat.shws c)=true:=h;rw[jI] at g;obtain⟨l,o,s⟩:=Dat.py_short d g.1;obtain⟨t,u,w⟩:=Dat.pys_short c g.2;refine⟨?_,?_,?_⟩
  ·show(PyData.leavesShort 13 d.py&&PyData.leavesShortAll 13 (Dat.pys c))=true
   rw[l,t];rfl
  ·show(PyData.showable d.py&&PyData.showableAll (Dat.pys c))=true
   rw[o,u];rfl
  ·show(PyData.hasDict d.py||PyData.hasDictAll (Dat.pys c))=false
   rw[s,w];rfl
end
mutual
theorem Rep.reads{X:Cx}{g:List (Addr×Obj)}{σ:St}{H:Hp}{s:Shared}(I:Inv X g σ H s):∀{d:Dat} {v:V} {u:Value},Rep X.K H d v->RelV v u->∃l,Reads s.heap u d.py l
 | .non,v,u,h,r=>by cases(show v=_ from h);cases(show u=_ from r);exact⟨_,.none⟩
 | .bl b,v,u,h,r=>by cases(show v=_ from h);cases(show u=_ from r);exact⟨_,.bool b⟩
 | .int i,v,u,h,r=>by cases(show v=_ from h);obtain⟨t,rfl⟩:=r;exact⟨_,.int i t⟩
 | .str x,v,u,h,r=>by cases(show v=_ from h);obtain⟨t,rfl⟩:=r;exact⟨_,.str x t⟩
 | .lst E,v,u,h,r=>by
  obtain⟨a,J,rfl,hx,A⟩:=h;cases(show u=_ from r)
  obtain⟨B,D,G,_⟩:=I.list hx;obtain⟨o,e,c,n,w⟩:=G.isList;obtain⟨l,q⟩:=Reps.reads I A D;exact⟨_,.list e c w (by simpa using q)⟩
 | .tup E,v,u,h,r=>by
  obtain⟨a,J,rfl,hx,A⟩:=h;cases(show u=_ from r)
  obtain⟨B,D,⟨o,e,c,n,w⟩,_⟩:=I.tuple hx;obtain⟨l,q⟩:=Reps.reads I A D;exact⟨_,.tuple e c w (by simpa using q)⟩
theorem Reps.reads{X:Cx}{c:List (Addr×Obj)}{σ:St}{H:Hp}{s:Shared}(I:Inv X c σ H s):∀{o:List Dat} {g:List V} {l:List Value},Reps X.K H o g->Vals g l->∃t,ReadsAll s.heap l (Dat.pys o) t
 | [],g,l,h,r=>by cases(show g=_ from h);cases r;exact⟨_,.nil⟩
 | d::o,g,l,h,r=>by
  obtain⟨x,J,rfl,u,w⟩:=h;cases r with
  | cons D E=>
   obtain⟨t,A⟩:=Rep.reads I u D;obtain⟨G,B⟩:=Reps.reads I w E;exact⟨_,.cons A B⟩
end
section
variable{X:Cx}
inductive QS(K:W.Frag)(g:List V)(H:Hp)(Q:VK):Prop
 | mk (p:Addr) (c:List Int) (_:g=[.ref p]) (_:SqL K H p (c.map V.int)) (_:(∀z∈c,0<=z/\z<=1000000)) (_:c.length<=100000) (_:Q (.int c.sum) H):QS K g H Q
theorem yW(hc:X.calm=true):jE X (.builtin "sum") (QS X.K):=by
 intro Y s σ H xs us Q I r h;obtain⟨p,c,rfl,hq,U,hn,q⟩:=h;obtain⟨u,rfl,ru⟩:=vy r;cases(show u=_ from ru)
 obtain⟨g,rv,pl,_⟩:=I.list hq;have E:=pl.isList;have G:p≠s.heap.objs.size:=by
  obtain⟨o,e,_⟩:=E;exact zP (zH e)
 have D:g.length=c.length:=by have:=rv.length;rw[zv] at this;omega
 have J:∀j,j<=c.length->0<=(c.take j).sum/\(c.take j).sum<=1000000*(j:Int):=by
  intro j;induction j with
  | zero=>intro _;simp
  | succ j ih=>
   intro T;have:=ih (by omega)
   have e:c.take (j+1)=c.take j++[c[j]'(by omega)]:=by rw[ZX]
   have b:=U (c[j]'(by omega)) (xB _)
   rw[e,Wy];simp only[Wv,List.sum_nil];constructor
   ·omega
   ·have:(1000000:Int)*((j+1:Nat):Int)=1000000*(j:Int)+1000000:=by omega
    omega
 refine call_sum_walk (wpAny_pyIter_list E ?_)
 refine⟨s.heap.objs.size,_,_,_,_,_,fun i=>c.getD i 0,rfl,Zj (prog:=X.prog) (w:=X.w) (A:=X.A.in1) (I.ok.hd hc) _ p G g.toArray,⟨⟨_,zL _ rfl,rfl,rfl⟩,E.push _⟩,fun b hb=>?_,fun i v hP=>?_,fun j T=>?_,fun h' tk t' hk=>?_⟩
 ·have L:(s.heap.push { cls:=.type "list_iterator",data:=.fields #[.ref p,.int 0 0] }).objs.size=s.heap.objs.size+1:=qJ ..
  show b<(s.heap.push _).objs.size;rw[L];rcases zC.mp hb with z | z
  ·rw[z];exact xg _
  ·rw[zW.mp z]
   obtain⟨o,e,_⟩:=E;exact xt (zH e)
 ·have e1:g[i]? =some v:=by simpa using hP
  have O:i<c.length:=by have h1:=(zU.mp e1).1;omega
  obtain⟨u',N,M⟩:=rv.get (i:=i) (x:=.int c[i]) (by simp[O])
  rw[e1] at N;cases N
  obtain⟨t,e⟩:=M;exact⟨t,by rw[e];simp[O]⟩
 ·have B:j<c.length:=by simp only[zZ] at T;omega
  have a1:=U c[j] (xB B);have a2:=J (j+1) (by omega)
  have l:(2:Int)^63=9223372036854775808:=by decide
  refine⟨?_,?_⟩
  ·show InLong (c.getD j 0)
   rw[show c.getD j 0=c[j] by simp[B]]
   unfold InLong;rw[l];omega
  ·rw[preSum_getD]
   unfold InLong;rw[l];have:((j+1:Nat):Int)<=100000:=by omega
   omega
 ·have k:∀b o,s.heap.get? b=some o->h'.get? b=some o:=fun b o e=>hk b o (by simp;exact zP (zH e)) (zN _ e)
  refine⟨.int c.sum,H,I.kept k,⟨t',?_⟩,q⟩
  rw[preSum_getD];have:c.take g.toArray.size=c:=by rw[zZ,D,jX]
  rw[this]
end
def Its(x:Str):It:=⟨fun i _=>i<x.cps.size,fun i H v g=>g=H/\∃c,x.cps[i]? =some c/\v=.str ⟨#[c]⟩,fun i _=>x.cps.size<=i⟩
theorem W5{P:Program}{w:World}{K:W.Frag}{tg:Expr}(A:Addr)(x:Str)(t:Tok)(ty:String)(G:ty = "str_ascii_iterator" \/ ty = "str_iterator"):Jb P w K tg (Its x) [A] A (fun i h=>h.IsStrIter A ty x t i) where
 mem:=by simp
 obj:=fun i h st b hb=>by
  have e:b=A:=by simpa using hb
  subst e;obtain⟨o,e,c,d⟩:=st;exact⟨o,e,fun v z=>by rw[d] at z;cases z⟩
 keep:=fun i h B st k=>let ⟨o,e,r⟩:=st;⟨o,k A (by simp) o e,r⟩
 item:=by
  intro X hP hw hK hc i g s σ H E I Q st hg;subst hP hw hK;obtain⟨J,L,f2,M,N,O⟩:=Q A (by simp)
  rcases G with rfl | rfl
  ·refine(Walks.strAscii (prog:=X.prog) (w:=X.w) (I.ok.hd hc) A x t).item i s _ _ hg st fun v B U hv l kk=>?_
   obtain⟨c,u,D,rfl⟩:=hv;have Y:Inv X g σ H { s with heap:=B,toks:=U }:=I.turned (fun b o hb e=>kk b o (by simpa using hb) e) J L M N O
   obtain⟨o,e,c1,d⟩:=id l;exact⟨_,rfl,YS (s:={ s with heap:=B,toks:=U }) e c1 d (by decide) ⟨.str ⟨#[c]⟩,H,Y,⟨u,rfl⟩,⟨rfl,c,D,rfl⟩,l,fun b hb=>(Q b hb).1⟩⟩
  ·refine(Walks.strWide (prog:=X.prog) (w:=X.w) (I.ok.hd hc) A x t).item i s _ _ hg st fun v B U hv l kk=>?_
   obtain⟨c,u,D,rfl⟩:=hv;have Y:Inv X g σ H { s with heap:=B,toks:=U }:=I.turned (fun b o hb e=>kk b o (by simpa using hb) e) J L M N O
   obtain⟨o,e,c1,d⟩:=id l;exact⟨_,rfl,YS (s:={ s with heap:=B,toks:=U }) e c1 d (by decide) ⟨.str ⟨#[c]⟩,H,Y,⟨u,rfl⟩,⟨rfl,c,D,rfl⟩,l,fun b hb=>(Q b hb).1⟩⟩
 done:=by
  intro X hP hw hK hc i g s σ H E I Q st hg;subst hP hw hK;obtain⟨J,L,f2,M,N,O⟩:=Q A (by simp)
  have hn:x.cps[i]? =none:=XC hg;rcases G with rfl | rfl
  ·exact wpAny_pyNext_ascii_end (I.ok.hd hc) st hn fun B eb=>⟨rfl,I.turned (t':=s.toks) (fun b o hb e=>eb b o hb e) J L M N O⟩
  ·exact wpAny_pyNext_wide_end (I.ok.hd hc) st hn fun B eb=>⟨rfl,I.turned (t':=s.toks) (fun b o hb e=>eb b o hb e) J L M N O⟩
 self:=fun _ _ _ _ _ st h=>by
  rcases G with rfl | rfl
  ·exact wpAny_pyIter_striter_ascii st h
  ·exact wpAny_pyIter_striter_wide st h
section
variable{X:Cx}{c:Expr}
def zlj(l:TE):TI:=fun σ H R=>l σ H fun v g=>∃x,v=.str x/\R (Its x) g
theorem ziJ{l:Expr}{B:TE}(D:PE X l B):PI X c l (zlj B):=by
 intro u s σ H R I h;refine thn (D u s σ H _ I h) fun v s1 ⟨y,w,g,G,E⟩=>?_
 obtain⟨x,e,q⟩:=E;subst e;obtain⟨t,rfl⟩:=G;cases A:x.cps.all (·<128)
 ·refine wpAny_pyIter_wide A ?_
  refine⟨s1.heap.objs.size,[s1.heap.objs.size],_,_,w,rfl,g.kept (t':=s1.toks) fun b o e=>zN _ e,W5 _ x t "str_iterator" (.inr rfl),⟨_,zL _ rfl,rfl,rfl⟩,fun b hb=>?_,q⟩
  have e:b=s1.heap.objs.size:=by simpa using hb
  subst e;exact g.fpOk (zD _) (g.hok.fresh (zD _))
 ·refine wpAny_pyIter_ascii A ?_
  refine⟨s1.heap.objs.size,[s1.heap.objs.size],_,_,w,rfl,g.kept (t':=s1.toks) fun b o e=>zN _ e,W5 _ x t "str_ascii_iterator" (.inl rfl),⟨_,zL _ rfl,rfl,rfl⟩,fun b hb=>?_,q⟩
  have e:b=s1.heap.objs.size:=by simpa using hb
  subst e;exact g.fpOk (zD _) (g.hok.fresh (zD _))
end
theorem zji{x:Str}{n:Nat}{g:TG}{J:TT}{I:TE}{w:St}{R:List V->Hp->Prop}{H:Hp}(Pv:Nat->List V->Hp->Prop)(N:Pv 0 [] H)
  (O:∀i c l H,x.cps[i]? =some c->Pv i l H->g (.str ⟨#[c]⟩) w H fun s D=>s.drop n=w.drop n/\J s D fun b t=>if b=true then I s t fun v E=>l.length<sizeLine/\Pv (i+1) (l++[v]) E else Pv (i+1) l t)
  (hd:∀l H,Pv x.cps.size l H->l.length<=sizeLine/\R l H) :
  ∃W:Nat->Nat->List V->Hp->Prop,(∃m,W 0 m [] H)/\∀i m l o,W i m l o ->
   ((Its x).stop i o/\l.length<=sizeLine/\R l o) \/
   ((Its x).go i o/\∃M:List V->Hp->Prop,(∀l A,M l A->∃G,G<m/\W (i+1) G l A)/\∀v B,(Its x).yld i o v B->g v w B fun s D=>s.drop n=w.drop n/\J s D fun b t=>
    if b=true then I s t fun y E=>l.length<sizeLine/\M (l++[y]) E else M l t):=by
 refine⟨fun i m l o=>m=x.cps.size-i/\i<=x.cps.size/\Pv i l o,⟨_,rfl,qB _,N⟩,?_⟩
 rintro i m l o ⟨rfl,hi,p⟩;by_cases u:i<x.cps.size
 ·refine .inr ⟨u,Pv (i+1),fun Y A Q=>⟨_,by omega,rfl,u,Q⟩,fun v B y=>?_⟩
  obtain⟨e1,c,e2,L⟩:=y;subst e1 L;exact O i c l _ e2 p
 ·have e:i=x.cps.size:=by omega
  subst e;obtain⟨T,U⟩:=hd l o p;exact .inl ⟨zD _,T,U⟩
section
variable{X:Cx}
inductive zb7(x:V)(t:List V)(H:Hp)(Q:VK):Prop
 | mk (l:Addr) (s:List V) (i:Int) (y:V) (_:x=.ref l) (_:t=[.int i,y]) (_:H l=some (.lst s)) (_:0<=i) (_:i<2^62) (_:s.length<sizeLine) (_:Q .non (upd H l (.lst (s.take i.toNat++y::s.drop i.toNat)))):zb7  x t H Q
theorem zdy:MtM X "list.insert" zb7:=by
 intro L s σ H x vs v us Q I T O h;obtain⟨l,xs,i,y,rfl,rfl,E,i0,i1,Y,q⟩:=h;cases T;obtain⟨u1,D,rfl,M,N⟩:=Jr O;obtain⟨t,rfl⟩:=M;obtain⟨z,w,n,r,U,e⟩:=I.lstM E;have G:=r.length;refine call_meets F.slot_list_insert ⟨_,e,rfl⟩ F.entry_list_insert (F.args_list_insert_3 _ _ _) (AutoListH.list_insert_list_int_val_1 l w.toArray n i t D ?_ (by rw[zZ];omega)) ⟨e,?_⟩
 ·unfold Builtin.List.listFitsIndex
  simp;omega
 refine⟨.non,_,I.lset (its':=w.take i.toNat++D::w.drop i.toNat) E e ?_ ((r.take _).append (.cons N (r.drop _))) ?_,rfl,q⟩
 ·show(have k:=if i<0 then(i+((w.toArray.size:Nat):Int)).toNat else min i.toNat w.toArray.size;(w.toArray.extract 0 k).push D++w.toArray.extract k)=_
  have hk:(if i<0 then(i+((w.toArray.size:Nat):Int)).toNat else min i.toNat w.toArray.size)=min i.toNat w.length:=by
   rw[zk (by omega),zZ]
  simp only[hk];apply Array.toList_inj.mp
  simp;by_cases B:i.toNat<=w.length
  ·have A:(w.drop i.toNat).take (w.length-i.toNat)=w.drop i.toNat:=WO (by rw[Zv];omega)
   rw[Nat.min_eq_left B,A]
  ·have A:w.length<=i.toNat:=by omega
   rw[Nat.min_eq_right A,WO A,List.drop_of_length_le A];simp
 ·simp only[qz,jv,jJ,Zv]
  omega
variable{e st:Expr}{o:TE}{u:TO}{c g:Pos}
end
theorem xw{K:W.Frag}{a:Addr}{xs:List V}{g:TG}{I:TT}{G:TE}{u:St}{n:Nat}{R:List V->Hp->Prop}{H:Hp}(Pv:Nat->List V->Hp->Prop)(J:Pv 0 [] H)
  (L:∀i c H,Pv i c H->SqL K H a xs)
  (M:∀i x c H,xs[i]? =some x->Pv i c H->g x u H fun o B=>o.drop n=u.drop n/\I o B fun b s=>
   if b=true then G o s fun v D=>c.length<sizeLine/\Pv (i+1) (c++[v]) D else Pv (i+1) c s)
  (hd:∀c H,Pv xs.length c H->c.length<=sizeLine/\R c H) :
  ∃W:Nat->Nat->List V->Hp->Prop,(∃m,W 0 m [] H)/\∀i m c l,W i m c l ->
   ((Itl K a).stop i l/\c.length<=sizeLine/\R c l) \/
   ((Itl K a).go i l/\∃N:List V->Hp->Prop,(∀c w,N c w->∃E,E<m/\W (i+1) E c w)/\∀x A,(Itl K a).yld i l x A->g x u A fun o B=>o.drop n=u.drop n/\I o B fun b s=>
    if b=true then G o s fun y D=>c.length<sizeLine/\N (c++[y]) D else N c s):=by
 refine⟨fun i m c l=>m=xs.length-i/\i<=xs.length/\Pv i c l,⟨_,rfl,qB _,J⟩,?_⟩
 rintro i m c l ⟨rfl,Y,p⟩;have q:=L i c l p;by_cases t:i<xs.length
 ·refine .inr ⟨⟨xs,xs[i],q,by simp[t]⟩,Pv (i+1),fun U w O=>⟨_,by omega,rfl,t,O⟩,fun x A y=>?_⟩
  obtain⟨e,y⟩:=y;subst e;exact M i x c _ (y xs q) p
 ·have e:i=xs.length:=by omega
  subst e;obtain⟨Q,T⟩:=hd c l p;exact .inl ⟨⟨xs,q,zD _⟩,Q,T⟩
theorem vQ{K:W.Frag}{a:Addr}{xs:List V}{g:TG}{I:TT}{G:TE}{u:St}{n:Nat}{R:List V->Hp->Prop}{H:Hp}(Pv:Nat->List V->Hp->Prop)(J:Pv 0 [] H)
  (L:∀i c H,Pv i c H->SqT K H a xs)
  (M:∀i x c H,xs[i]? =some x->Pv i c H->g x u H fun o B=>o.drop n=u.drop n/\I o B fun b s=>
   if b=true then G o s fun v D=>c.length<sizeLine/\Pv (i+1) (c++[v]) D else Pv (i+1) c s)
  (hd:∀c H,Pv xs.length c H->c.length<=sizeLine/\R c H) :
  ∃W:Nat->Nat->List V->Hp->Prop,(∃m,W 0 m [] H)/\∀i m c l,W i m c l ->
   ((Itt K a).stop i l/\c.length<=sizeLine/\R c l) \/
   ((Itt K a).go i l/\∃N:List V->Hp->Prop,(∀c w,N c w->∃E,E<m/\W (i+1) E c w)/\∀x A,(Itt K a).yld i l x A->g x u A fun o B=>o.drop n=u.drop n/\I o B fun b s=>
    if b=true then G o s fun y D=>c.length<sizeLine/\N (c++[y]) D else N c s):=by
 refine⟨fun i m c l=>m=xs.length-i/\i<=xs.length/\Pv i c l,⟨_,rfl,qB _,J⟩,?_⟩
 rintro i m c l ⟨rfl,Y,p⟩;have q:=L i c l p;by_cases t:i<xs.length
 ·refine .inr ⟨⟨xs,xs[i],q,by simp[t]⟩,Pv (i+1),fun U w O=>⟨_,by omega,rfl,t,O⟩,fun x A y=>?_⟩
  obtain⟨e,y⟩:=y;subst e;exact M i x c _ (y xs q) p
 ·have e:i=xs.length:=by omega
  subst e;obtain⟨Q,T⟩:=hd c l p;exact .inl ⟨⟨xs,q,zD _⟩,Q,T⟩
inductive DV(K:W.Frag)(F:Hp)(n:Nat):V->Prop
 | non:DV K F n .non
 | bl (b:Bool):DV K F n (.bl b)
 | int (i:Int) (h:i.natAbs<=10000000000+n):DV K F n (.int i)
 | str (x:Str) (h:x.length<=n):DV K F n (.str x)
 | lst (a:Addr) (c:List V) (h:SqL K F a c) (g:c.length<=n) (all:∀x∈c,DV K F n x):DV K F n (.ref a)
 | tup (a:Addr) (c:List V) (h:SqT K F a c) (g:c.length<=n) (all:∀x∈c,DV K F n x):DV K F n (.ref a)
def WX(g:List Addr)(H:Hp):Hp:=fun c=>if c∈g then none else H c
theorem WX.cons{g:List Addr}{H:Hp}{m:Addr}:Same (WX (m::g) H) (WX g H):=fun c u e=>by
 unfold WX at e ⊢;split at e
 ·cases e
 ·rename_i hc
  rw[zk (fun z=>hc (z9 _ z))]
  exact e
def zfk:Expr->Bool
 | .Starred _ _=>false
 | _=>true
theorem ji{e:Expr}{g:List Expr}{c:Env}(h:zfk e=true):starEach (e::g) c=(false,eval e c)::starEach g c:=by
 cases e<;>first| rfl | cases h
theorem pa5{X:Cx}{g e1 e2 l o:Expr}{s t u w A:TE}(B:PE X g s)(D:PE X e1 t)(E:PE X e2 u)(G:PE X l w)(H:PE X o A)(h:([g,e1,e2,l,o]).all zfk=true:=by rfl):PA X [g,e1,e2,l,o] (vX s (vX t (vX u (vX w (vX A zim))))):=by
 have c:=vF.mp h;exact(za B (za D (za E (za G (za H zb (ji (c _ (by simp)))) (ji (c _ (by simp)))) (ji (c _ (by simp)))) (ji (c _ (by simp)))) (ji (c _ (by simp))))
theorem pa7{X:Cx}{g e1 e2 l o s t:Expr}{u w A B D E G:TE}(H:PE X g u)(I:PE X e1 w)(J:PE X e2 A)(L:PE X l B)(M:PE X o D)(N:PE X s E)(O:PE X t G)(h:([g,e1,e2,l,o,s,t]).all zfk=true:=by rfl):PA X [g,e1,e2,l,o,s,t] (vX u (vX w (vX A (vX B (vX D (vX E (vX G zim))))))):=by
 have c:=vF.mp h;exact(za H (za I (za J (za L (za M (za N (za O zb (ji (c _ (by simp)))) (ji (c _ (by simp)))) (ji (c _ (by simp)))) (ji (c _ (by simp)))) (ji (c _ (by simp)))) (ji (c _ (by simp)))) (ji (c _ (by simp))))
section
variable{X:Cx}{l w c:Expr}{t:List Expr}{scope:Scope}{u:Pos}{E:TI}{g:TG}{B:TT}{A:TE}
theorem zd8{y:Str}{py:Pos}{Y:TG}{s:List (Addr×Obj)}{σ:St}{L:Hp}{O:St->Hp->Prop}{H:Shared}{D C:Addr}{m:Str->Option Value}(M:PG X (.Name y py) Y)(hn:H.heap.Ns C m)
  (all:∀h7:Heap,(∀b o,b≠C->H.heap.get? b=some o->h7.get? b=some o)->Inv X s σ L { H with heap:=h7 }) (U:jZ X s L C) (q:Y (.ref D) σ L O) :
  wpAny 0#b X.A (assign (.Name y py) X.env (.ref D)) (fun _ G=>∃m,G.heap.Ns C m/\∀h',Heap.SameBut C G.heap h'->∃σ' Q,Inv X s σ' Q { G with heap:=h' }/\O σ' Q) X.xe H:=by
 have J0:=all H.heap fun b o _ e=>e
 obtain⟨J,es,ep,I,hd,r⟩:=hn;have J1:=J0.pinned (fp:=[C]) (fun b hb=>by rw[zW.mp hb];exact U) (fun b hb=>by rw[zW.mp hb];exact⟨J,I,fun v z=>by rw[hd] at z;cases z⟩)
 have mC:(C,J)∈s++zX [C] H.heap:=qG _ (qP (zW.mpr rfl) I);refine thn (M _ H σ _ (.ref D) (.ref D) _ J1 rfl q) fun _ s8 ⟨σ8,H8,T,q8⟩=>?_
 obtain⟨e8,n8,_⟩:=T.pin (C,J) (qG _ mC);obtain⟨_,g1,_,g3,g4,g5⟩:=U;exact⟨m,⟨J,es,ep,e8,hd,r⟩,fun h9 N=>⟨σ8,H8,(T.unpinned).turned (t':=s8.toks) (it:=C) (fun b o hb e=>N.extBut b o hb e) n8 g1 g3 g4 g5,q8⟩⟩
theorem zke{y:Str}{N o:Pos}{U:TG}(own L:List Str)(js:List Nat)(hc:X.calm=true)(hk:scope.kind=.function)(hb:QP scope.names X.env.scope.names X.N L js=true)(hi:PI X w c E)
  (hg:∀C s H G,PG (qm X (own++L) scope C s H G) w g) (hf:∀C s H G,PF (qm X (own++L) scope C s H G) t B) (he:∀C s H G,PE (qm X (own++L) scope C s H G) l A)
  (Y:PG X (.Name y N) U) (a0:swapsWith (.ListComp l [⟨w,c,t,0⟩] scope u) (some (.Name y N)) o.line X.env=pure true:=by rfl)
  (hs:∀x,foldedSetIterable c X.env x=pure x:=by intro _;rfl):PS X (.Assign [.Name y N] (.ListComp l [⟨w,c,t,0⟩] scope u) o) (zc9 (tLC E own.length js g B A) U):=by
 intro M s σ H Dn I h;rw[exec_Assign_Name_used _ _ _ _ a0];refine zf (wF (zf ?_))
 show wpAny _ X.A (do let _<-comprehension (.ListComp l [⟨w,c,t,0⟩] scope u) scope X.env _ (newList []) false (eval c X.env) (some (assign (.Name y N) X.env))) _ _ s
 refine zf (jt (zic (rest:=[]) (use:=some (assign (.Name y N) X.env)) (Qx:=fun _ s'=>∃σ' H',Inv X M σ' H' s'/\Dn.nx σ' H') (Q:=fun v H1=>U v σ H1 Dn.nx) own L js hk hb hi hs I h (fun C D it fp tn J W H2 s3 s4 m0 R a b T tl j O=>zcm hc hg hf he a b T tl j O) fun s6 D C H6 m hn all fc q=>zd8 Y hn all fc q) (fun _ s' hq=>zx (zx hq)) fun _ _ e=>e)
end
section
variable{X:Cx}
theorem WY:∀{c:List Value} {n k:Nat},c.length=n->(∀j v,c[j]? =some v->∃t,v=Value.int ((k+j:Nat):Int) t)->Vals ((List.range' k n).map fun i:Nat=>V.int (i:Int)) c
 | [],0,k,_,_=>.nil
 | v::c,n+1,k,l,h=>by
  rw[List.range'_succ,jV];obtain⟨t,e⟩:=h 0 v rfl;refine .cons ⟨t,by rw[e];rfl⟩ (WY (by simpa using l) fun j w o=>?_)
  obtain⟨s,g⟩:=h (j+1) w (by simpa using o)
  exact⟨s,by rw[g,show k+(j+1)=k+1+j by omega]⟩
theorem V3{a:Expr}{T:TA}{p J L c:Pos}(hc:X.calm=true)(hg:Gl X "list")(hm:X.mg "list" = none)(E:Gl X "range")(G:X.mg "range" = none)(hv:bootBuiltins "list" = some (.type "list"))(ha:PA X [a] T)(hs:starEach [a] X.env=[(false,eval a X.env)]:=by rfl)
  (N:starEach [.Call (.Name "range" J) [a] [] c] X.env=[(false,eval (.Call (.Name "range" J) [a] [] c) X.env)]:=by rfl) :
  PE X (.Call (.Name "list" p) [.Call (.Name "range" J) [a] [] c] [] L) (fun σ H Q=>T σ H fun U D=>∃j:Int,U=[.int j]/\0<=j/\j<=1000000/\∀l,D l=none->Q (.ref l) (upd D l (.lst ((List.range j.toNat).map fun i:Nat=>V.int (i:Int))))):=by
 intro w s σ H Q I h;refine wpAny_Call_Name_kw (vP I hg hm hv ?_ (by decide) (by decide))
 refine Xk ?_ N rfl
 rw[N];refine Zw ?_
 refine Call_ (vP I E G boot_range (Xk (thn (ha c w s σ H _ I h) fun us s1 ⟨U,D,Y,r1,q1⟩=>?_) hs rfl))
 obtain⟨j,e,j0,j1,q⟩:=q1;subst e;cases r1 with
 | cons r rr=>
  cases rr;obtain⟨t,rfl⟩:=r;refine call_range_1 (Xv ?_)
  have M:Inv X w σ D { s1 with heap:=s1.heap.push { cls:=.type "range",data:=.fields #[.int 0 s1.toks,.int j t,.int 1 (s1.toks+1)] },toks:=s1.toks+1+1 }:=Y.kept fun b o e=>zN _ e
  have u:=bGe;refine call_list_range (n:=j.toNat) (I.ok.hd hc) (IsRange.new ..) (small_one (by rw[u];omega) (by rw[u];omega) (by rw[u];omega) (by rw[u];omega)) (by rw[rangeSize_one];split<;>omega) (by omega) fun h' tk A c' B get g=>?_
  refine⟨.ref _,_,M.laid (t':=tk) (o:=.lst ((List.range j.toNat).map fun i:Nat=>V.int (i:Int))) B (zD _) ?_,rfl,q _ (M.hok.fresh (zD _))⟩
  refine⟨by rw[zv,zV,sizeLine_eq];omega,A.toList,c',?_,by rw[Array.toArray_toList];exact get⟩
  rw[List.range_eq_range'];refine WY (by rw[qK];exact g.1) fun i v hv=>?_
  obtain⟨O,e'⟩:=g.2 i v (by simpa using hv)
  exact⟨O,by rw[e'];congr 1;omega⟩
end
section
variable{c:Program}{w:World}{A:Around}{E:Value->Shared->Prop}{s:Shared}
end
theorem Inv.track{X:Cx}{c:List (Addr×Obj)}{σ:St}{H:Hp}{s:Shared}{a:Addr}{o:HO}(I:Inv X c σ H s)(f:jZ X c H a)(g:ObjOk X.prog X.w (upd H a o) s.heap a o):Inv X c σ (upd H a o) s:=by
 refine I.call' (s':=s) (ch:=[a]) rfl (yb Un.refl (zW.mpr rfl) f.1) (we I.hok f.1 g) I.bare fun b hb=>?_
 rw[zW.mp hb];exact⟨f.2.2.2.1,f.2.1,f.2.2.2.2.1,f.2.2.2.2.2⟩
section
variable{X:Cx}{A:Around}{R:Result->Shared->Prop}
end
section
variable{X:Cx}
theorem wb{K:W.Frag}(h:X.K=K):IxR X (ziA K):=by rw[<- h];exact qo
theorem vC{K:W.Frag}(h:X.K=K):IxR X (ziz K):=by rw[<- h];exact qF
theorem vS{K:W.Frag}(h:X.K=K):jE X (.builtin "len") (vt K):=by rw[<- h];exact zR
inductive zaa(x:V)(y:V)(H:Hp)(Q:VK):Prop
 | mk (a b:_) (_:x=.bl a) (_:y=.bl b) (_:Q (.bl (decide (a=b))) H):zaa x y H Q
theorem ze4:OpR X (compareOp .Is) (zaa):=by
 intro c s σ H x y v u Q I g l h;obtain⟨a,b,rfl,rfl,q⟩:=h;cases g;cases l;refine wpAny_is_plain (by cases a<;>cases b<;>rfl) (qv I q ?_)
 cases a<;>cases b<;>rfl
end
section
open AutoSeq1 (wpAny_loadPart')
end
section
variable{c:Program}{w:World}{A:Around}{E:Value->Shared->Prop}{s:Shared}
end
section
variable{X:Cx}
end
end L2
namespace L2
open PySem PySem.Spec PyProof.Rows
section
variable{c:Program}{w:World}{A:Around}{R:Result->Shared->Prop}{s:Shared}
end
def Sub:St->St->Prop
 | [],[]=>True
 | none::r,_::c=>Sub r c
 | some v::r,x::c=>x=some v/\Sub r c
 | _,_=>False
section
variable{X:Cx}{s A c:Expr}{l:List Expr}{H o:Expr}{t:List Expr}{scope:Scope}{u:Pos}{I B:TI}{g D:TG}{G w:TT}{E:TE}
end
section
variable{X:Cx}
end
theorem J2{K:W.Frag}{a:Addr}{xs:List V}{g:TG}{I:TT}{G:TE}{u:St}{n:Nat}{R:List V->Hp->Prop}{H:Hp}(Pv:Nat->List V->Hp->Prop)(J:Pv 0 [] H)
  (L:∀i c H,Pv i c H->SqL K H a xs)
  (O:∀i x c H T,xs[i]? =some x->Pv i c H->H T=none->g (.ref T) u (upd H T (.tup [.int i,x])) fun o B=>o.drop n=u.drop n/\I o B fun b s=>
   if b=true then G o s fun v D=>c.length<sizeLine/\Pv (i+1) (c++[v]) D else Pv (i+1) c s)
  (hd:∀c H,Pv xs.length c H->c.length<=sizeLine/\R c H) :
  ∃W:Nat->Nat->List V->Hp->Prop,(∃m,W 0 m [] H)/\∀i m c l,W i m c l ->
   ((Ite K a).stop i l/\c.length<=sizeLine/\R c l) \/
   ((Ite K a).go i l/\∃N:List V->Hp->Prop,(∀c w,N c w->∃E,E<m/\W (i+1) E c w)/\∀x A,(Ite K a).yld i l x A->g x u A fun o B=>o.drop n=u.drop n/\I o B fun b s=>
    if b=true then G o s fun y D=>c.length<sizeLine/\N (c++[y]) D else N c s):=by
 refine⟨fun i m c l=>m=xs.length-i/\i<=xs.length/\Pv i c l,⟨_,rfl,qB _,J⟩,?_⟩
 rintro i m c l ⟨rfl,hi,p⟩;have q:=L i c l p;by_cases t:i<xs.length
 ·refine .inr ⟨⟨xs,xs[i],q,by simp[t]⟩,Pv (i+1),fun a0 w Q=>⟨_,by omega,rfl,t,Q⟩,fun x A y=>?_⟩
  obtain⟨T,z,e1,M,e2,y⟩:=y;subst e1 e2;exact O i z c l T (y xs q) p M
 ·have e:i=xs.length:=by omega
  subst e;obtain⟨U,Y⟩:=hd c l p;exact .inl ⟨⟨xs,q,zD _⟩,U,Y⟩
section
variable{X:Cx}{o c:Expr}{g:List Expr}{l:Expr}{s:List Expr}{scope:Scope}{u:Pos}{M B:TI}{J w:TT}{I:TE}{x y z:Str}{E G H L A:Pos}{D t:Nat}
end
section
variable{X:Cx}
theorem zgD{K:W.Frag}(h:X.K=K){o l:Expr}{c:TE}(g:PE X l c):PI X o l (zkK K c):=by rw[<- h];exact xm g
theorem Yz{K:W.Frag}(h:X.K=K){o l:Expr}{c:TE}(g:PE X l c):PI X o l (zh9 K c):=by rw[<- h];exact jL g
inductive Z1(K:W.Frag)(c:List V)(H:Hp)(Q:VK):Prop
 | mk (v:V) (d:Dat) (_:c=[v]) (_:Rep K H d v) (_:d.shw=true) (_:d.blk<=1048576) (_:d.py.depth<=60) (_:Q (.str d.py.shown) H):Z1 K c H Q
theorem Xf(hg:X.A.guards=some [])(hu:X.A.units+64<cLine):jE X (.builtin "repr") (Z1 X.K):=by
 intro w s σ H U T Q I r h;obtain⟨v,d,rfl,l,A,E,N,q⟩:=h;obtain⟨u,rfl,o⟩:=vy r;obtain⟨s1,s2,J⟩:=Dat.py_short d A;have g:d.py.shown.length<=sizeLine:=PyData.shown_fits_bulk (B:=13) (by decide) (by decide) s1 (by rw[Dat.py_blk];exact E)
 have c:∀(a:Addr),v=.ref a->wpAny 0#b X.A (call (.builtin "repr") [u]) (EP X w σ Q) X.xe s:=fun a e=>by
  subst e;obtain⟨L,G⟩:=l.reads I o;cases(show u=_ from o)
  exact repr_of_reads' G s2 (PyData.noDict_hsm J) hg (by omega) (fun _ _ e=>e) (fun M u O hk=>⟨.str d.py.shown,H,I.kept hk,⟨u,rfl⟩,q⟩) g
 cases d with
 | non=>
  cases(show v=_ from l)
  cases(show u=_ from o)
  exact P.repr_of_none ⟨.str _,H,I.tok _,⟨_,rfl⟩,q⟩
 | bl b=>
  cases(show v=_ from l)
  cases(show u=_ from o)
  refine P.repr_of_bool ⟨.str _,H,I.tok _,⟨s.toks,?_⟩,q⟩
  cases b<;>rfl
 | int i=>
  cases(show v=_ from l)
  obtain⟨t,rfl⟩:=o;exact P.repr_of_int (zch (jy A)) ⟨.str _,H,I.tok _,⟨_,rfl⟩,q⟩
 | str x=>
  cases(show v=_ from l)
  obtain⟨t,rfl⟩:=o;exact P.repr_of_str ⟨.str _,H,I.tok _,⟨_,rfl⟩,q⟩ g
 | lst D=>obtain⟨a,_,e,_⟩:=id l;exact c a e
 | tup D=>obtain⟨a,_,e,_⟩:=id l;exact c a e
theorem Vx:bootBuiltins "repr" = some (.builtin "repr"):=by decide +kernel
def tLT(K:W.Frag)(t:TE):TT:=fun σ H Q=>t σ H fun x c=>∃a g,x=.ref a/\SqL K c a g/\Q (!g.isEmpty) c
theorem zgA{e:Expr}{t:TE}(h:PE X e t)(B:∀c,isTrue e X.env c=(do let v<-c;standAt e.pos;holding [v] (truthy v)):=by intro _;rfl):PT X e (tLT X.K t):=by
 intro g s σ H Q I E;refine isTrue_plain (thn (h g s σ H _ I E) fun v s1 ⟨x,w,l,M,L⟩=>?_) (B _)
 obtain⟨a,A,rfl,hq,q⟩:=L;cases(show v=_ from M)
 obtain⟨o,u,J,G⟩:=l.list hq;have D:=u.length;refine wpAny_truthy_list J.isList (by rw[zZ,<- D];rw[sizeLine_eq] at G;omega) ?_
 have e:(!A.isEmpty)=(!o.toArray.isEmpty):=by
  cases A with
  | nil=>cases u;rfl
  | cons y N=>cases u;rfl
 first
  | exact⟨w,l.tok _,by rw[e] at q;simpa using q⟩
  | exact⟨w,l,by rw[e] at q;simpa using q⟩
end
section
variable{X:Cx}{s B c:Expr}{l:List Expr}{N o:Expr}{t:List Expr}{scope:Scope}{w:Pos}{Q E:TI}{g G:TG}{M A:TT}{L:TE}{x z:Str}{I J O D:Pos}{H u:Nat}
end
def Vm:Nat->List Obj->PySem.W.Frag
 | _,[]=>[]
 | n,o::r=>match o.data with
  | .freed=>Vm (n+1) r
  | _=>(n,o)::Vm (n+1) r
def Wi(h:Heap):PySem.W.Frag:=Vm 0 h.objs.toList
theorem YU:∀{l:List Obj} {n a:Nat} {o:Obj},(Vm n l).lookup a=some o->n<=a/\l[a-n]? =some o/\o.data≠.freed
 | [],n,a,o,h=>by cases h
 | x::r,n,a,o,h=>by
  have c:(Vm (n+1) r).lookup a=some o->n<=a/\(x::r)[a-n]? =some o/\o.data≠.freed:=fun h=>by
   obtain⟨u,g,s⟩:=YU h;refine⟨by omega,?_,s⟩
   rw[show a-n=(a-(n+1))+1 by omega];exact g
  unfold Vm at h;split at h
  ·exact c h
  ·rename_i t
   rw[jg] at h;split at h
   ·rename_i e
    cases h;have:=xp.mp e;subst this;exact⟨zD _,by simp,t⟩
   ·exact c h
theorem zdJ(h:Heap):(Wi h).In h:=fun a o e=>by
 obtain⟨_,g,s⟩:=YU e;have g:h.objs[a]? =some o:=by simpa using g
 unfold Heap.get?;rw[g];obtain⟨c,d,l,t⟩:=o;cases l<;>first| rfl | exact absurd rfl s
inductive Fd(K:W.Frag)(c:Str)(st:Stmt):Prop
 | mk (f:Addr) (g:FuncData) (a:PySem.W.nsIn K mainGlobals c=some (some (.ref f))) (F:Fun K c c st f g):Fd K c st
def zkH:Value->Bool
 | .none=>true
 | _=>false
def Wj(K:W.Frag)(g:Str):Option (Arguments×FuncBody×Scope×Bool):=match PySem.W.nsIn K mainGlobals g with
 | some (some (.ref f))=>(match K.lookup f with
  | some ⟨_,_,.func c,_⟩=>some (c.params,c.body,c.scope,c.name==g&&(c.qualname==g&&(c.globals==mainGlobals&&(c.closure.isEmpty&&(zkH c.defaults&&(c.builtins==builtinsNs&&PySem.W.codeIn K c.code g))))))
  | _=>none)
 | _=>none
def zct(st:Stmt):Option (Arguments×FuncBody×Scope×Bool):=some (ZP st,.stmts (yV st),zy st,true)
theorem zkP{K:W.Frag}{E:Str}{st:Stmt}(e:Wj K E=zct st):Fd K E st:=by
 unfold Wj zct at e;split at e
 ·rename_i f I
  split at e
  ·rename_i c d H sl B
   simp only[WF,Prod.mk.injEq,jI] at e;obtain⟨e1,e2,A,g,l,o,s,t,u,D⟩:=e;obtain⟨J,qn,U,M,sc,Q,O,w,T,G,Y,L,N,ct,bl⟩:=H;dsimp only at e1 e2 A g l o s t u D;have g:=xp.mp g;have l:=xp.mp l;have o:=xp.mp o;have s:=List.isEmpty_iff.mp s;have u:=xp.mp u;have t:w=.none:=by cases w<;>first| rfl | exact Bool.noConfusion t
   subst e1 e2 A g l o s t u;exact⟨f,_,I,⟨⟨_,_,_,_,_,_,_,_,_,rfl,B,D⟩,by unfold PySem.W.keepIn;dsimp only;rw[B]⟩⟩
  ·cases e
 ·cases e
theorem zjp{K:W.Frag}{l:List (Str×Stmt)}(e:l.map (fun x=>Wj K x.1)=l.map fun x=>zct x.2)(i:Nat){c:Str}{st:Stmt}(h:l[i]? =some (c,st)):Fd K c st:=by
 have:=congrArg (fun z=>z[i]?) e
 simp only[zY,h,Zq,WF] at this;exact zkP this
theorem zhl{K:W.Frag}{l:List Str}(e:l.map (fun x=>PySem.W.nsIn K mainGlobals x)=l.map fun _=>some none){x:Str}(i:Nat)(h:l[i]? =some x):PySem.W.nsIn K mainGlobals x=some none:=by
 have:=congrArg (fun z=>z[i]?) e
 simpa only[zY,h,Zq,WF] using this
def zjD:List Value->Option (List Str)
 | []=>some []
 | .str x _::r=>(zjD r).map (x:: ·)
 | _=>none
def zii(K:W.Frag)(g:Str):Option (List Str×Bool):=match PySem.W.nsIn K mainGlobals g with
 | some (some (.ref a))=>(match K.lookup a with
  | some ⟨.type t,_,.seq c _,_⟩=>(zjD c.toList).map fun l=>(l,t == "tuple" && decide (c.size<=1000))
  | _=>none)
 | _=>none
def zkx(g:List (Str×Stmt))(c:List Str)(l:List (Str×List Str))(K:W.Frag):List (Option (Arguments×FuncBody×Scope×Bool))×List (Option (Option Value))×List (Option (List Str×Bool)):=
 (g.map fun x=>Wj K x.1,c.map fun x=>PySem.W.nsIn K mainGlobals x,l.map fun x=>zii K x.1)
def zkS(g:List (Str×Stmt))(c:List Str)(l:List (Str×List Str)):List (Option (Arguments×FuncBody×Scope×Bool))×List (Option (Option Value))×List (Option (List Str×Bool)):=
 (g.map fun x=>zct x.2,c.map fun _=>some none,l.map fun x=>some (x.2,true))
def zjr(s:Stmt):Pos:=match s with
 | .FunctionDef _ _ _ _ _ _ _ _ _ p=>p
 | _=>⟨0,0,0,0⟩
def defRec(x:Str)(s:Stmt):DefRec:=⟨x,ZP s,yV s,zy s,zjr s⟩
structure Tp(P:Program)(w:World)(K:W.Frag)(mg:Str->Option Value)(base h:Heap)(ds:List (Str×Stmt))(bs:List Str)(ts:List (Str×List Str)):Prop where
 x:K.In h
 g:h.Ns mainGlobals mg
 e:zkx ds bs ts K=zkS ds bs ts
section
variable{P:Program}{w:World}{K:W.Frag}{g:Str->Option Value}{c h:Heap}{l:List (Str×Stmt)}{o:List Str}{s:List (Str×List Str)}
theorem Tp.fd(Z:Tp P w K g c h l o s)(i:Nat){t:Str}{st:Stmt}(u:l[i]? =some (t,st)):Fd K t st:=zjp (congrArg Prod.fst Z.e) i u
theorem Tp.bl(Z:Tp P w K g c h l o s)(i:Nat){x:Str}(t:o[i]? =some x):g x=none:=PySem.W.mg_none_of Z.x Z.g (zhl (congrArg (fun z=>z.2.1) Z.e) i t)
theorem Tp.dfn(Z:Tp P w K g c h l o s)(i:Nat){u:Str}{st:Stmt}{k:Nat}{A:List Str}{G:Sp}(I:l[i]? =some (u,st))
  (ok:∀f fd,Fun K u u st f fd->g u=some (.ref f)->Binds K fd A []->qA P w K g c CX0 k f fd A G)
  (hb:∀(kV E J:Value) (H:Option Addr) (D ct:Value) (B:List Value),B.length=A.length->bindArgs (PySem.W.fnOf u u (ZP st) (yV st) (zy st) .none kV E J H D ct) ⟨B,[]⟩=pure (A.zip B):=by
   intro _ _ _ _ _ _ B t;first| (obtain⟨_,rfl⟩:=zkF t;rfl) | (obtain⟨_,_,rfl⟩:=zkE t;rfl) | (obtain⟨_,_,_,rfl⟩:=zkD t;rfl) | (obtain⟨_,_,_,_,rfl⟩:=zkC t;rfl) | (obtain⟨_,_,_,_,_,rfl⟩:=zkB t;rfl) | (obtain⟨_,_,_,_,_,_,rfl⟩:=zkA t;rfl) | (exact match B,t with | [],_=>rfl)) :
  Dfn P w K g c u k A G:=by
 obtain⟨f,fd,a,F⟩:=Z.fd i I;have b:=F.binds hb;have m:=Wu Z.x Z.g a;exact⟨f,fd,ok f fd F m b,m,F.kp,b⟩
end
inductive Seen{β:Type}(f:PySem.W.Frag->β)(v:β)(w:World)(h:Heap):Prop
 | mk (K:W.Frag) (k:K.In h) (e:f K=v):Seen f v w h
theorem Seen.keeps{β:Type}{f:PySem.W.Frag->β}{v:β}(w:World)(h c:Heap)(s:Seen f v w h)(k:∀b o,h.get? b=some o->c.get? b=some o):Seen f v w c:=by
 obtain⟨K,x,e⟩:=s;exact⟨K,x.keeps k,e⟩
theorem walkS{l:PySem.W.OpenLaw}{n k:Nat}{q:Program}{A:List Str}{U:(Str->Option Value)->Heap->Prop}{β:Type}{f:PySem.W.Frag->β}{v:β}{d:DefRec}{sp:PySem.W.Frag->Sp}{x:Str}
  (hn:l.most=some n) (N:n<=sizeLine) (L:d.params.defaults=[]) (hr:Room k callerA)
  (F:∀(w:World) (B:Str->Option Value) (E:Addr) (K:W.Frag) (h:Heap),K.In h->f K=v->h.Ns mainGlobals B->B d.name=some (.ref E) ->
   ∃J:FuncData,(∀(s:Shared) (u:Value),BindsTo s J ⟨[u],[]⟩ [(x,u)]) /\
    ∀c:Heap,K.In c->c.Ns mainGlobals B->qA l.prog w K B c CX0 k E J [x] (sp K))
  (O:∀(K:W.Frag) (H:Hp) (a:Addr) (I:List Int),I.length<=n->zjA H->SqL K H a (I.map V.int)->sp K [.ref a] H (fun v _=>v=.bl true) fun _ _ _=>False) :
  PySem.W.WalkO q A U (Seen f v) l.row.toRowW d [] (fun f T=>PySem.call f T):=by
 refine Att.attach_call hn L fun w s₀ s₁ B mb E o pm cd a0 a T I G Y ho hd a1 M D t g hg=>?_
 obtain⟨K,Q,e⟩:=Y;obtain⟨J,hb,hF⟩:=F w B E K _ Q e G.T.g M;exact zfv Q G.T.g G.T.b G.T.builtins G.T.nolimit hg D t (xa g N) hr hF hb (fun H hO hS=>O K H a I g hO hS) fun H e s' z=>z
theorem ownHead{l:PySem.W.OpenLaw}{q:Program}{c:List Str}{β:Type}{f:PySem.W.Frag->β}{v:β}{d:DefRec}(N:Nat)
  (o:l.wellSaid=true)
  (left:∀w,(PySem.W.openEnds treeTable l.prog w N).map (fun s=>(PySem.W.openSeen q c (importedModules l.prog.main.body) (fun _=>true) true s,f (Wi s.heap)))=some (PySem.W.openGood q c,v))
  (g:PySem.W.defOf q l.name=some (d,[])) (t:l.prog.theDef l.name=some (d.params,d.body,d.scope)) (hk:PySem.W.kwWritten? d.params.kwonlyargs d.params.kw_defaults=some [])
  (ok:(PySem.W.chainsOk q&&PySem.W.opensWell l.prog&&(PySem.W.frees l.row.toRowW&&l.row.within.isEmpty))=true) (hb:l.prog.bare) (u:l.row.toRowW.promised)
  (call:PySem.W.WalkO q c (fun _ _=>True) (Seen f v) l.row.toRowW d [] fun f B=>PySem.call f B):l.Holds:=
 PySem.W.holds_law o fun A=>PySem.W.holds_open (r:=l.row) (Yf:=fun s=>f (Wi s.heap)) (Ya:=fun _=>v) left (fun _ s e=>⟨_,zdJ s.heap,e⟩) Seen.keeps (fun _ _=>trivial) (fun _ _ _ _ _=>trivial) g t hk (fun _ _=>PySem.W.recFacts_nil rfl) (Bool.or_true _) A ok hb u call
def Qi(K:W.Frag)(c:Str):Option (Sum Int Str):=match PySem.W.nsIn K mainGlobals c with
 | some (some (.int i _))=>some (.inl i)
 | some (some (.str s _))=>some (.inr s)
 | _=>none
theorem zjw{K:W.Frag}{c:Str}{i:Int}(e:Qi K c=some (.inl i)):∃t,PySem.W.nsIn K mainGlobals c=some (some (.int i t)):=by
 unfold Qi at e;split at e
 ·rename_i t h
  cases e;exact⟨t,h⟩
 ·cases e
 ·cases e
theorem zjv{K:W.Frag}{c:Str}{s:Str}(e:Qi K c=some (.inr s)):∃t,PySem.W.nsIn K mainGlobals c=some (some (.str s t)):=by
 unfold Qi at e;split at e
 ·cases e
 ·rename_i t h
  cases e;exact⟨t,h⟩
 ·cases e
def zdv(l:List (Str×Stmt))(c:List Str)(o:List (Str×List Str))(g:List (Str×Sum Int Str))(K:W.Frag):=(zkx l c o K,g.map fun x=>Qi K x.1)
def zdL(l:List (Str×Stmt))(c:List Str)(o:List (Str×List Str))(g:List (Str×Sum Int Str)):(List (Option (Arguments×FuncBody×Scope×Bool))×List (Option (Option Value))×List (Option (List Str×Bool)))×List (Option (Sum Int Str)):=(zkS l c o,g.map fun x=>some x.2)
section
variable{K:W.Frag}{w:Str->Option Value}{h:Heap}{o:List (Str×Stmt)}{l:List Str}{u:List (Str×List Str)}{g:List (Str×Sum Int Str)}
theorem zia(e:zdv o l u g K=zdL o l u g)(i:Nat){x:Str}{c:Sum Int Str}(s:g[i]? =some (x,c)):Qi K x=some c:=by
 have:=congrArg (fun z=>z.2[i]?) e
 simpa only[zdv,zdL,zY,s,Zq,WF] using this
theorem cnI(X:K.In h)(G:h.Ns mainGlobals w)(e:zdv o l u g K=zdL o l u g)(i:Nat){x:Str}{n:Int}(c:g[i]? =some (x,.inl n)):∃t,w x=some (.int n t):=
 let ⟨t,s⟩:=zjw (zia e i c)
 ⟨t,Wu X G s⟩
theorem cnS(X:K.In h)(G:h.Ns mainGlobals w)(e:zdv o l u g K=zdL o l u g)(i:Nat){x s:Str}(c:g[i]? =some (x,.inr s)):∃t,w x=some (.str s t):=
 let ⟨t,A⟩:=zjv (zia e i c)
 ⟨t,Wu X G A⟩
end
def topL(i:Nat):Stmt:=PySem.Challenge.pw_pickboard_k36_jobs_placed.main.body.getD i (.Pass ⟨0,0,0,0⟩)
structure Blt(mg:Str->Option Value):Prop where
 abs:mg "abs" = none
 all:mg "all" = none
 divmod:mg "divmod" = none
 enumerate:mg "enumerate" = none
 int:mg "int" = none
 isinstance:mg "isinstance" = none
 len:mg "len" = none
 list:mg "list" = none
 max:mg "max" = none
 min:mg "min" = none
 range:mg "range" = none
 str:mg "str" = none
 tuple:mg "tuple" = none
 bool:mg "bool" = none
 zip:mg "zip" = none
 sum:mg "sum" = none
 any:mg "any" = none
 repr:mg "repr" = none
 sorted:mg "sorted" = none
 dict:mg "dict" = none
 set:mg "set" = none
theorem wo:bootBuiltins "abs" = some (.builtin "abs"):=by decide +kernel
theorem Xg:bootBuiltins "max" = some (.builtin "max"):=by decide +kernel
theorem yq:bootBuiltins "min" = some (.builtin "min"):=by decide +kernel
theorem Y6:bootBuiltins "divmod" = some (.builtin "divmod"):=by decide +kernel
theorem ZT:bootBuiltins "int" = some (.type "int"):=by decide +kernel
theorem j5:bootBuiltins "list" = some (.type "list"):=by decide +kernel
theorem qZ:bootBuiltins "tuple" = some (.type "tuple"):=by decide +kernel
theorem ZS:bootBuiltins "str" = some (.type "str"):=by decide +kernel
theorem Qk:bootBuiltins "bool" = some (.type "bool"):=by decide +kernel
theorem yp:bootBuiltins "sorted" = some (.builtin "sorted"):=by decide +kernel
theorem zfQ:bootBuiltins "set" = some (.type "set"):=by decide +kernel
theorem Vy:bootBuiltins "dict" = some (.type "dict"):=by decide +kernel
def ZA(i:Int):Int:=if i<0 then -i else i
def zdk:Str:= "abcdefghijklmnopqrstuvwxyz"
def Q6(c:Nat):Bool:=decide (97<=c)&&decide (c<=122)
theorem YM:zdk.cps.toList=List.range' 97 26:=by decide +kernel
def zaH:List (Str×Stmt):=[(("is_number":Str),topL 4),(("is_number_within":Str),topL 5),(("is_name":Str),topL 6),(("is_place":Str),topL 7),(("way_between":Str),topL 8),(("length_of":Str),topL 9),(("is_tuple_of":Str),topL 16),(("is_tuple_upto":Str),topL 17),(("is_feeder":Str),topL 18),(("are_feeders":Str),topL 19),(("is_part":Str),topL 20),(("are_parts":Str),topL 21),(("is_ahead":Str),topL 22),(("are_aheads":Str),topL 23),(("is_job":Str),topL 24),(("turned":Str),topL 25),(("next_by":Str),topL 26),(("steps_from":Str),topL 27),(("nearest_of":Str),topL 28),(("ring_by":Str),topL 29),(("ring_in":Str),topL 30),(("wanted_of":Str),topL 31),(("is_stocked":Str),topL 32),(("settled":Str),topL 34),(("holders_with":Str),topL 35),(("all_holders":Str),topL 36),(("columns_by":Str),topL 37),(("sum_at":Str),topL 38),(("matched_slots":Str),topL 39),(("slot_cost":Str),topL 40),(("slot_costs":Str),topL 41),(("placed_feeders":Str),topL 42),(("_law_box":Str),topL 44),(("_law_take":Str),topL 45),(("_law_folded":Str),topL 46),(("_law_same":Str),topL 47),(("_law_spelled":Str),topL 48),(("_law_name":Str),topL 49),(("_law_names":Str),topL 50),(("_law_place":Str),topL 51),(("_law_places":Str),topL 52),(("_law_shuffled":Str),topL 53),(("_law_feeders":Str),topL 54),(("_law_aheads":Str),topL 55),(("_law_job":Str),topL 56),(("_law_way":Str),topL 57),(("_law_least_sum":Str),topL 58),(("_law_kinds":Str),topL 59),(("_law_slots":Str),topL 60),(("_law_cost":Str),topL 61),(("_law_placed_right":Str),topL 62),(("_law_right":Str),topL 63),(("law":Str),topL 64)]
def zdZ:List Str:=[("abs":Str),("all":Str),("divmod":Str),("enumerate":Str),("int":Str),("isinstance":Str),("len":Str),("list":Str),("max":Str),("min":Str),("range":Str),("str":Str),("tuple":Str),("bool":Str),("zip":Str),("sum":Str),("any":Str),("repr":Str),("sorted":Str),("dict":Str),("set":Str)]
def zc5:List (Str×List Str):=[]
def zhi:List (Str×Sum Int Str):=[(("LETTERS":Str),.inr ("abcdefghijklmnopqrstuvwxyz":Str)),(("LONGEST_NAME":Str),.inl 8),(("FARTHEST":Str),.inl 1000),(("MOST_HEADS":Str),.inl 4),(("MOST_FEEDERS":Str),.inl 20),(("MOST_IN_FEEDER":Str),.inl 400),(("MOST_PARTS":Str),.inl 60),(("MOST_AHEADS":Str),.inl 200)]
def zjS:List Str:=zaH.dropLast.map (·.1)++[("FARTHEST":Str),("LETTERS":Str),("LONGEST_NAME":Str),("MOST_AHEADS":Str),("MOST_FEEDERS":Str),("MOST_HEADS":Str),("MOST_IN_FEEDER":Str),("MOST_PARTS":Str),("__name__":Str)]
def zit:Program:={ PySem.Challenge.pw_pickboard_k36_jobs_placed with main:={ PySem.Challenge.pw_pickboard_k36_jobs_placed.main with body:=[topL 64] } }
theorem head1:PySem.Challenge.rw_pickboard_k36_jobs_placed.wellSaid=true:=by kernel_rfl
theorem head2:∀w,(PySem.W.openEnds treeTable PySem.Challenge.pw_pickboard_k36_jobs_placed w 9999).map (fun s=>(PySem.W.openSeen zit zjS (importedModules PySem.Challenge.pw_pickboard_k36_jobs_placed.main.body) (fun _=>true) true s,zdv zaH zdZ zc5 zhi (Wi s.heap)))=some (PySem.W.openGood zit zjS,zdL zaH zdZ zc5 zhi):=fun w=>by kernel_rfl
theorem head3:(PySem.W.chainsOk zit&&PySem.W.opensWell PySem.Challenge.pw_pickboard_k36_jobs_placed&&(PySem.W.frees PySem.Challenge.rw_pickboard_k36_jobs_placed.row.toRowW&&PySem.Challenge.rw_pickboard_k36_jobs_placed.row.within.isEmpty))=true:=by kernel_rfl
section
variable{κ:Type}[DecidableEq κ]
def qD(c:List (κ×V))(k:κ):Option V:=(c.find? fun g=>decide (g.1=k)).map (·.2)
def jN(c:List (κ×V))(k:κ)(v:V):List (κ×V):=
 if(c.any fun g=>decide (g.1=k))=true then c.map (fun g=>if g.1=k then(g.1,v) else g) else c++[(k,v)]
theorem jk{p:κ×V}{r:List (κ×V)}{k:κ}(e:p.1=k):qD (p::r) k=some p.2:=by simp[qD,Zp,e]
theorem jn{p:κ×V}{r:List (κ×V)}{k:κ}(e:¬p.1=k):qD (p::r) k=qD r k:=by simp[qD,Zp,e]
theorem vW(k:κ):∀c:List (κ×V),(c.any fun g=>decide (g.1=k))=(qD c k).isSome
 | []=>rfl
 | p::r=>by
  rw[xX];by_cases e:p.1=k
  ·simp only[jk e,zT e,Bool.true_or,Option.isSome_some]
  ·rw[jn e,jb e,Ww];exact vW k r
theorem W2(k j:κ)(y:V):∀c:List (κ×V),qD (c.map fun g=>if g.1=k then(g.1,y) else g) j=(qD c j).map fun x=>if j=k then y else x
 | []=>rfl
 | p::r=>by
  have l:=W2 k j y r;rw[jV];by_cases h:p.1=k
  ·rw[zu h]
   by_cases e:p.1=j
   ·rw[jk (p:=(p.1,y)) e,jk e,Zq,zu (e.symm.trans h)]
   ·rw[jn (p:=(p.1,y)) e,jn e,l]
  ·rw[zk h]
   by_cases e:p.1=j
   ·rw[jk (p:=p) e,jk e,Zq,zk (fun z=>h (e.trans z))]
   ·rw[jn (p:=p) e,jn e,l]
theorem XW(k j:κ)(y:V):∀c:List (κ×V),qD c k=none->qD (c++[(k,y)]) j=if j=k then some y else qD c j
 | [],_=>by
  by_cases e:k=j
  ·rw[zu e.symm];exact jk (p:=(k,y)) e
  ·rw[zk (fun z=>e z.symm)];exact jn (p:=(k,y)) e
 | p::r,g=>by
  rw[List.cons_append];have hk:¬p.1=k:=fun z=>by rw[jk z] at g;cases g
  rw[jn hk] at g;have l:=XW k j y r g;by_cases e:p.1=j
  ·rw[jk e,jk e,zk (fun z=>hk (e.trans z))]
  ·rw[jn e,jn e,l]
theorem vV(c:List (κ×V))(k j:κ)(y:V):qD (jN c k y) j=if j=k then some y else qD c j:=by
 unfold jN;by_cases a:(c.any fun g=>decide (g.1=k))=true
 ·rw[zu a,W2]
  rw[vW] at a;by_cases e:j=k
  ·obtain⟨x,hx⟩:=zbc.mp a
   rw[zu e,e,hx,Zq,zu rfl]
  ·rw[zk e]
   cases qD c j with
   | none=>rfl
   | some x=>rw[Zq,zk e]
 ·rw[zk a]
  refine XW k j y c ?_
  rw[vW] at a;cases q:qD c k with
  | none=>rfl
  | some x=>rw[q] at a;exact(a rfl).elim
theorem xR(c:List (κ×V))(k:κ)(v:V):(jN c k v).length<=c.length+1:=by
 unfold jN;split
 ·rw[zv];omega
 ·rw[qz,jJ,Zr];omega
theorem JH{c:List (κ×V)}{k:κ}(v:V)(h:qD c k=none):jN c k v=c++[(k,v)]:=by
 unfold jN;rw[vW,h];exact zk (by decide)
theorem RelO.isSome_eq{o:Option V}{u:Option Value}(r:RelO o u):o.isSome=u.isSome:=by
 cases o with
 | none=>cases u with
  | none=>rfl
  | some _=>exact(show False from r).elim
 | some _=>cases u with
  | none=>exact(show False from r).elim
  | some _=>rfl
theorem RelO.getD{o:Option V}{u:Option Value}{d:V}{c:Value}(r:RelO o u)(g:RelV d c):RelV (o.getD d) (u.getD c):=by
 cases o with
 | none=>cases u with
  | none=>exact g
  | some _=>exact(show False from r).elim
 | some _=>cases u with
  | none=>exact(show False from r).elim
  | some _=>exact r
theorem KV.val{c:List (κ×V)}{s:List (κ×Value)}(r:KV c s)(k:κ):RelO (qD c k) (valueAt s k):=by
 unfold KV at r;induction r with
 | nil=>exact True.intro
 | @cons p q A l h t w=>
  obtain⟨o,u⟩:=h;by_cases e:p.1=k
  ·have g:q.1=k:=o.symm.trans e
   have b:valueAt (q::l) k=some q.2:=by simp[valueAt,Zp,g]
   rw[jk e,b];exact u
  ·have g:¬q.1=k:=fun z=>e (o.trans z)
   have b:valueAt (q::l) k=valueAt l k:=by simp[valueAt,Zp,g]
   rw[jn e,b];exact w
theorem KV.any{c:List (κ×V)}{l:List (κ×Value)}(r:KV c l)(k:κ):(c.any fun g=>decide (g.1=k))=l.any fun g=>decide (g.1=k):=by
 unfold KV at r;induction r with
 | nil=>rfl
 | cons h t o=>rw[xX,xX,o,h.1]
theorem KV.repl{g:List (κ×V)}{o:List (κ×Value)}(r:KV g o)(k:κ){y:V}{u:Value}(A:RelV y u) :
  KV (g.map fun c=>if c.1=k then(c.1,y) else c) (o.map fun c=>if c.1=k then(c.1,u) else c):=by
 unfold KV at r ⊢;induction r with
 | nil=>exact .nil
 | @cons p q B D h t w=>
  rw[jV,jV];refine .cons ?_ w
  obtain⟨l,s⟩:=h;by_cases e:p.1=k
  ·rw[zu e,zu (l.symm.trans e)];exact⟨l,A⟩
  ·rw[zk e,zk (fun z=>e (l.trans z))];exact⟨l,s⟩
theorem KV.put{c:List (κ×V)}{g:List (κ×Value)}(r:KV c g)(k:κ){y:V}{u:Value}(l:RelV y u):KV (jN c k y) (stored g k u):=by
 unfold jN stored;rw[r.any k];by_cases e:(g.any fun o=>decide (o.1=k))=true
 ·rw[zu e,zu e];exact r.repl k l
 ·rw[zk e,zk e];exact Paired.snoc r ⟨rfl,l⟩
theorem KV.length{kvs:List (κ×V)}{c:List (κ×Value)}(r:KV kvs c):kvs.length=c.length:=Xn r
end
theorem xc{P:Program}{w:World}{k:Key}{u:Value}(r:RelV (kV k) u):(zM P w).is k u=true:=by
 cases k with
 | inl i=>obtain⟨t,e⟩:=(show ∃t,u=Value.int i t from r);subst e;exact YF P w i t
 | inr x=>obtain⟨t,e⟩:=(show ∃t,u=Value.str x t from r);subst e;exact YE P w x t
theorem wc{P:Program}{w:World}:∀{c:List Key} {g:List Value},Vals (c.map kV) g->ItemsAre (zM P w) c g
 | [],_,r=>by rw[List.map_nil] at r;cases r;exact .nil
 | k::c,_,r=>by
  rw[jV] at r;cases r with
  | cons h t=>exact .cons (xc h) (wc t)
abbrev KT(H:Hp):List (List Key×V)->List (List Key×Addr×Value)->Prop:=Paired fun p q=>p.1=q.1/\H q.2.1=some (.tup (p.1.map kV))/\RelV p.2 q.2.2
theorem KT.val{H:Hp}{c:List (List Key×V)}{s:List (List Key×Addr×Value)}(r:KT H c s)(k:List Key):RelO (qD c k) ((atKey s k).map (·.2)):=by
 induction r with
 | nil=>exact True.intro
 | @cons p q A l h t w=>
  obtain⟨o,_,u⟩:=h;by_cases e:p.1=k
  ·have g:q.1=k:=o.symm.trans e
   have b:atKey (q::l) k=some q.2:=by simp[atKey,Zp,g]
   rw[jk e,b];exact u
  ·have g:¬q.1=k:=fun z=>e (o.trans z)
   have b:atKey (q::l) k=atKey l k:=by simp[atKey,Zp,g]
   rw[jn e,b];exact w
theorem KT.repl{H:Hp}{c:List (List Key×V)}{s:List (List Key×Addr×Value)}(r:KT H c s)(k:List Key){y:V}{u:Value}(B:RelV y u) :
  KT H (c.map fun l=>if l.1=k then(l.1,y) else l) (s.map (putAt k u)):=by
 induction r with
 | nil=>exact .nil
 | @cons p q D E h t A=>
  rw[jV,jV];refine .cons ?_ A
  obtain⟨g,o,w⟩:=h;unfold putAt;by_cases e:p.1=k
  ·rw[zu e,zu (g.symm.trans e)];exact⟨g,o,B⟩
  ·rw[zk e,zk (fun z=>e (g.trans z))];exact⟨g,o,w⟩
theorem KT.put{H:Hp}{c:List (List Key×V)}{g:List (List Key×Addr×Value)}(r:KT H c g)(k:List Key){b:Addr}{y:V}{u:Value}(hb:H b=some (.tup (k.map kV)))(l:RelV y u) :
  KT H (jN c k y) (storedH g k b u):=by
 have e:(c.any fun o=>decide (o.1=k))=(atKey g k).isSome:=by
  rw[vW,(r.val k).isSome_eq,zaU]
 unfold jN storedH;rw[e];by_cases q:(atKey g k).isSome=true
 ·rw[zu q,zu q];exact r.repl k l
 ·rw[zk q,zk q];exact Paired.snoc r ⟨rfl,hb,l⟩
theorem KT.keeps{H g:Hp}{c:List (List Key×V)}{l:List (List Key×Addr×Value)}(r:KT H c l)(s:∀b o,H b=some (.tup o)->g b=some (.tup o)):KT g c l:=
 Paired.mapP r fun _ _ z=>⟨z.1,s _ _ z.2.1,z.2.2⟩
section
variable{P:Program}{w:World}{H:Hp}{h:Heap}{a:Addr}
theorem zhZ{u:HO}(ok:HOk P w H h)(e:Rd H a u):ObjOk P w H h a u:=e.ok ok
theorem wL{c:List (Key×V)}(ok:HOk P w H h)(e:Rd H a (.dK c)):c.length<=sizeLine/\(a==sysModules)=false/\∃g,KV c g/\h.DictOf (zM P w) a g:=
 show ObjOk P w H h a (.dK c) from zhZ ok e
theorem YY{c:List (Key×V)}(ok:HOk P w H h)(e:H a=some (.dK c)):c.length<=sizeLine/\(a==sysModules)=false/\∃g,KV c g/\h.DictOf (zM P w) a g:=wL ok (.inl e)
theorem Zg{g:List Key}(ok:HOk P w H h)(e:H a=some (.tup (g.map kV))):(tupleKind (zM P w)).is h g a:=by
 obtain⟨_,c,r,⟨o,l,s,n,t⟩,_⟩:=(show ObjOk P w H h a (.tup (g.map kV)) from ok a _ e)
 exact⟨o,c.toArray,n,l,s,t,by simpa using wc r⟩
theorem QL{c:List (List Key×V)}(ok:HOk P w H h)(e:Rd H a (.dT c)):c.length<=sizeLine/\(a==sysModules)=false /\
  ∃g,KT H c g/\h.DictOfH (tupleKind (zM P w)) a g:=by
 obtain⟨z,y,g,r,o,u,s,A,B,D,E,G⟩:=(show ObjOk P w H h a (.dT c) from zhZ ok e)
 refine⟨z,y,g,r,o,u,s,A,B,D,E,fun x hx=>?_,G⟩
 have all:∀{l:List (List Key×V)} {m:List (List Key×Addr×Value)},KT H l m->∀x∈m,(tupleKind (zM P w)).is h x.1 x.2.1:=by
  intro l m q;induction q with
  | nil=>intro x hx;exact nomatch hx
  | @cons p q J L hq t I=>
   intro x hx;rcases zC.mp hx with e | hx
   ·subst e
    exact Zg ok (by rw[<- hq.1];exact hq.2.1)
   ·exact I x hx
 exact all r x hx
theorem zkT{c:List (List Key×V)}(ok:HOk P w H h)(e:H a=some (.dT c)):c.length<=sizeLine/\(a==sysModules)=false /\
  ∃g,KT H c g/\h.DictOfH (tupleKind (zM P w)) a g:=QL ok (.inl e)
end
def DGet(H:Hp)(a:Addr)(y:V)(r:Option V):Prop:=
 (∃c k,Rd H a (.dK c)/\y=kV k/\r=qD c k)\/∃c k b,Rd H a (.dT c)/\y=.ref b/\H b=some (.tup (k.map kV))/\r=qD c k
def DPut(H:Hp)(a:Addr)(y v:V)(g:Hp):Prop:=
 (∃c k,H a=some (.dK c)/\y=kV k/\c.length<sizeLine/\g=upd H a (.dK (jN c k v))) \/
 ∃c k b,H a=some (.dT c)/\y=.ref b/\H b=some (.tup (k.map kV))/\c.length<sizeLine/\g=upd H a (.dT (jN c k v))
theorem DGet.k{H:Hp}{a:Addr}{c:List (Key×V)}{k:Key}(e:H a=some (.dK c)):DGet H a (kV k) (qD c k):=.inl ⟨c,k,.inl e,rfl,rfl⟩
theorem DPut.k{H:Hp}{a:Addr}{c:List (Key×V)}{k:Key}{v:V}(e:H a=some (.dK c))(g:c.length<sizeLine):DPut H a (kV k) v (upd H a (.dK (jN c k v))):=.inl ⟨c,k,e,rfl,g,rfl⟩
section
variable{X:Cx}{t:List (Addr×Obj)}{σ:St}{H:Hp}{s:Shared}{a:Addr}{y v:V}{u r:Value}{o:Option V}{A:Around}{E:Value->Shared->Prop}
theorem Inv.big(I:Inv X t σ H s):sysModules<s.heap.objs.size:=by
 have h:mainGlobals<s.heap.objs.size:=(I.mod.glob.keeps I.bk).lt;exact Zm (by decide) h
theorem zdN{Q:Value->Shared->Prop}(hu:A.units+1<cLine)(I:Inv X t σ H s)(g:DGet H a y (some v))(N:RelV y u)(h:∀B O,Inv X t σ H O->RelV v B->Q B O) :
  wpAny 0#b A (getItem (.ref a) u) Q E s:=by
 rcases g with ⟨M,k,e,G,l⟩ | ⟨M,k,b,e,G,T,l⟩
 ·subst G
  obtain⟨z,hd,Y,c,D⟩:=wL I.hok e;obtain⟨B,L,w⟩:=RelO.some_of (v:=v) (o:=valueAt Y k) (by rw[l];exact c.val k)
  exact wpAny_getItem_of (xc N) D.mapOf L (h B _ (I.tok _) w)
 ·subst G
  cases(show u=Value.ref b from N)
  obtain⟨z,hd,xs,c,D⟩:=QL I.hok e;obtain⟨B,L,w⟩:=RelO.some_of (v:=v) (o:=(atKey xs k).map (·.2)) (by rw[l];exact c.val k)
  obtain⟨p,U,J⟩:=qH.mp L;refine wpAny_getItem_heap (tupleKind_room_in1 hu) (Zg I.hok T) D U ?_
  rw[J];exact h B _ (I.tok _) w
theorem zln{Q:Value->Shared->Prop}(hu:A.units+1<cLine)(I:Inv X t σ H s)(g:DGet H a y o)(G:RelV y u)(h:∀J,Inv X t σ H J->Q (.bool o.isSome) J) :
  wpAny 0#b A (compareOp .In u (.ref a)) Q E s:=by
 rcases g with ⟨D,k,e,B,l⟩ | ⟨D,k,b,e,B,L,l⟩
 ·subst B
  obtain⟨z,hd,M,c,w⟩:=wL I.hok e;refine wpAny_in_of (xc G) hd w.mapOf ?_
  rw[<- (c.val k).isSome_eq,<- l];exact h _ (I.tok _)
 ·subst B
  cases(show u=Value.ref b from G)
  obtain⟨z,hd,N,c,w⟩:=QL I.hok e;refine wpAny_in_heap (tupleKind_room_in1 hu) (Zg I.hok L) hd w ?_
  have q:=(c.val k).isSome_eq;rw[zaU] at q;rw[<- q,<- l];exact h _ (I.tok _)
theorem zhf{Q:Value->Shared->Prop}(hu:A.units+1<cLine)(I:Inv X t σ H s)(g:DGet H a y o)(G:RelV y u)(h:∀J,Inv X t σ H J->Q (.bool (!o.isSome)) J) :
  wpAny 0#b A (compareOp .NotIn u (.ref a)) Q E s:=by
 rcases g with ⟨D,k,e,B,l⟩ | ⟨D,k,b,e,B,L,l⟩
 ·subst B
  obtain⟨z,hd,M,c,w⟩:=wL I.hok e;refine wpAny_notIn_of (xc G) hd w.mapOf ?_
  rw[<- (c.val k).isSome_eq,<- l];exact h _ (I.tok _)
 ·subst B
  cases(show u=Value.ref b from G)
  obtain⟨z,hd,N,c,w⟩:=QL I.hok e;refine wpAny_notIn_heap (tupleKind_room_in1 hu) (Zg I.hok L) hd w ?_
  have q:=(c.val k).isSome_eq;rw[zaU] at q;rw[<- q,<- l];exact h _ (I.tok _)
theorem Jo{c:Heap}{G:Nat}{l:HO}(I:Inv X t σ H s)(D:Mut (H a))(B:Heap.SameBut a s.heap c)(w:∃q,c.get? a=some q)(g:ObjOk X.prog X.w (upd H a l) c a l) :
  Inv X t σ (upd H a l) { s with heap:=c,toks:=G }:=
 I.write (x:=a) (e:=a) D (.inl rfl) (fun b q hb z=>(B.2 b hb).trans z) w g
theorem Xb{P:Program}{w:World}{D:Hp}{B:Heap}{c:List (Key×V)}{l:List (Key×Value)}(z:c.length<=sizeLine)(hd:(a==sysModules)=false)(g:KV c l)(G:B.DictOf (zM P w) a l) :
  ObjOk P w D B a (.dK c):=⟨z,hd,l,g,G⟩
theorem zdM{U:Hp}{Q:Unit->Shared->Prop}(hu:A.units+1<cLine)(I:Inv X t σ H s)(g:DPut H a y v U)(ry:RelV y u)(rv:RelV v r)(h:∀s',Inv X t σ U s'->Q () s') :
  wpAny 0#b A (setItem (.ref a) u r) Q E s:=by
 rcases g with ⟨w,k,e,L,l,J⟩ | ⟨w,k,b,e,L,Y,l,J⟩
 ·subst L J
  obtain⟨z,hd,vs,B,G⟩:=YY I.hok e;have T:vs.length<=sizeLine:=by rw[<- B.length];exact z
  have M:(jN w k v).length<=sizeLine:=by have:=xR w k v;omega
  refine wpAny_setItem_pairs (hsz:=T) (xc ry) G fun h' D N=>h _ ?_
  have he:∃q,h'.get? a=some q:=let ⟨q,_,_,hq,_⟩:=D;⟨q,hq⟩
  exact Jo I (by rw[e];exact True.intro) N he (Xb M hd (B.put k rv) D)
 ·subst L J
  cases(show u=Value.ref b from ry)
  obtain⟨z,hd,xs,B,G⟩:=zkT I.hok e;have T:xs.length<=sizeLine:=by rw[<- Xn B];exact z
  have M:(jN w k v).length<=sizeLine:=by have:=xR w k v;omega
  refine wpAny_setItem_heap (hsz:=T) (tupleKind_room_in1 hu) (Zg I.hok Y) G fun h' D N=>h _ ?_
  obtain⟨q,es,ep,hq,h2,h3,h4,_,h5⟩:=D;refine Jo I (by rw[e];exact True.intro) N ⟨q,hq⟩ ⟨M,hd,_,(B.put k Y rv).keeps fun c ys ec=>?_,q,es,ep,hq,h2,h3,h4,h5⟩
  rw[zq (YD ec e (fun z=>nomatch z))]
  exact ec
end
section
variable{X:Cx}{c:List (Addr×Obj)}{σ:St}{H:Hp}{s:Shared}{a:Addr}{g:List (Key×V)}{k:Key}{u:Value}{A:Around}{E:Value->Shared->Prop}
end
def zkW(i:Expr):Prop:=∀g c,subscripted i false g c=operate [g,c] (getItem g c)
theorem zgo{c:Program}{w:World}{A:Around}{E:Value->Shared->Prop}{s:Shared}{t:Env}{l g:Expr}{G:Pos}{T id:String}{Q:Value->Shared->Prop}
  (L:typeLookup (.type T) "__getitem__" = pure (some (.builtin id))) (M:zkW g)
  (h:wpAny 0#e A (eval l t) (fun o I=>wpAny 0#e A (eval g t) (fun i B=>B.TypeIs o T/\wpAny 0#e A (getItem o i) Q E B) E I) E s) :
  wpAny 0#e A (eval (.Subscript l g G) t) Q E s:=by
 refine Subscript_ (jt h (fun o I N=>jt N (fun i B D=>?_) fun _ _ x=>x) fun _ _ x=>x)
 obtain⟨H,D⟩:=D;unfold subscriptTail;refine zf ?_
 rw[getitemInPython_of_ne H.not_modules];refine zf (wpAny_specialOf H L ?_)
 have u:wpAny 0#e A (subscripted g false o i) (fun r J=>wpAny 0#e A (letTemporaryGo l o r >>= fun _=>pure r) Q E J) E B:=by
  rw[M o i];exact wpAny_operating (jt D (fun r J O=>zf (wpAny_letTemporaryGo (zx O))) fun _ _ x=>x)
 first
  | exact zx (zf u)
  | exact zf (zx (zf u))
  | exact zf u
theorem Y0{X:Cx}{c:List (Addr×Obj)}{σ:St}{H:Hp}{s:Shared}{a:Addr}{y:V}{o:Option V}(I:Inv X c σ H s)(g:DGet H a y o):s.TypeIs (.ref a) "dict" :=by
 rcases g with ⟨t,k,e,_,_⟩ | ⟨t,k,b,e,_,_,_⟩
 ·obtain⟨_,_,u,_,l⟩:=wL I.hok e
  exact l.typeIs
 ·obtain⟨_,_,w,_,l⟩:=QL I.hok e
  exact l.typeIs
def zjJ(l ty:TE):TE:=fun σ H Q=>l σ H fun x g=>ty σ g fun y c=>∃a v,x=.ref a/\DGet c a y (some v)/\Q v c
def zlc(ty l:TE):TE:=fun σ H Q=>ty σ H fun y g=>l σ g fun x c=>∃a o,x=.ref a/\DGet c a y o/\Q (.bl o.isSome) c
def zgm(ty l:TE):TE:=fun σ H Q=>ty σ H fun y g=>l σ g fun x c=>∃a o,x=.ref a/\DGet c a y o/\Q (.bl (!o.isSome)) c
def zj7(s ty t:TE):TS:=fun D σ H=>t σ H fun v g=>s σ g fun x l=>ty σ l fun y o=>∃a c,x=.ref a/\DPut o a y v c/\D.nx σ c
section
variable{X:Cx}{o i e c:Expr}{w l A:Pos}{t ty B:TE}
theorem V4(hu:X.A.units+1<cLine)(U:PE X o t)(T:PE X i ty)(Y:zkW i):PE X (.Subscript o i w) (zjJ t ty):=by
 intro D s σ H Q I h;refine zgo PySem.F.slot_dict_getitem.lookup Y (thn (U D s σ H _ I h) fun u s1 ⟨x,J,M,rx,q1⟩=>thn (T D s1 σ J _ M q1) fun iv s2 ⟨y,L,G,ry,a,v,O,g,q2⟩=>?_)
 subst O;obtain rfl:u=Value.ref a:=rx;exact⟨Y0 G g,zdN hu G g ry fun w' s3 N E=>⟨v,L,N,E,q2⟩⟩
theorem ziT(hu:X.A.units+1<cLine)(O:PE X i ty)(T:PE X o t):PC X .In i o (zlc ty t):=by
 intro D s σ H Q I h;refine thn (O D s σ H _ I h) fun iv s1 ⟨y,E,J,ry,Y⟩=>thn (T D s1 σ E _ J Y) fun u s2 ⟨x,G,L,rx,a,U,N,g,q2⟩=>?_
 subst N;obtain rfl:u=Value.ref a:=rx;exact zln hu L g ry fun s3 M=>⟨.bl U.isSome,G,M,rfl,q2⟩
theorem Vf(hu:X.A.units+1<cLine)(O:PE X i ty)(T:PE X o t):PC X .NotIn i o (zgm ty t):=by
 intro D s σ H Q I h;refine thn (O D s σ H _ I h) fun iv s1 ⟨y,E,J,ry,Y⟩=>thn (T D s1 σ E _ J Y) fun u s2 ⟨x,G,L,rx,a,U,N,g,q2⟩=>?_
 subst N;obtain rfl:u=Value.ref a:=rx;exact zhf hu L g ry fun s3 M=>⟨.bl (!U.isSome),G,M,rfl,q2⟩
theorem Ji(hu:X.A.units+1<cLine)(Y:PE X o t)(U:PE X i ty)(hv:PE X c B)(hs:swapsWith c (some (.Subscript o i l)) w.line X.env=pure false) :
  PS X (.Assign [.Subscript o i l] c w) (zj7 t ty B):=by
 intro E s σ H D I h;refine wpAny_Assign_Subscript (thn (hv E s σ H _ I h) fun r s1 ⟨v,G,M,rv,q1⟩=>thn (Y E s1 σ G _ M q1) fun u s2 ⟨x,J,N,rx,q2⟩=>thn (U E s2 σ J _ N q2) fun iv s3 ⟨y,H3,O,ry,a,L,T,g,q3⟩=>?_) hs
 subst T;obtain rfl:u=Value.ref a:=rx;exact zdM hu O g ry rv fun s4 Q=>⟨σ,L,Q,q3⟩
end
theorem YZ{P:Program}{w:World}{H:Hp}(h:Heap)(hb:sysModules<h.objs.size):ObjOk P w H (h.push { cls:=.type "dict",data:=.dict #[] }) h.objs.size (.dK []):=
 ⟨qB _,beq_eq_false_iff_ne.mpr (zG (zP hb)),[],.nil,Heap.DictOf.new h⟩
def zin:TE:=fun _ H Q=>∀p,H p=none->Q (.ref p) (upd H p (.dK []))
section
variable{X:Cx}{c:Pos}
theorem ZJ:PE X (.Dict [] [] c) zin:=fun g s σ H Q I h=>
 wpAny_Dict_empty ⟨.ref s.heap.objs.size,_,I.laid (a:=s.heap.objs.size) (o:=.dK []) (t':=s.toks) (fun _ _ q=>zN _ q) (zD _) (YZ s.heap I.big),rfl,h _ (I.hok.fresh (zD _))⟩
end
def zaf:List (TE×TE)->St->Hp->(List (V×V)->Hp->Prop)->Prop
 | [],_,H,Q=>Q [] H
 | (s,t)::r,σ,H,Q=>s σ H fun x c=>t σ c fun y g=>zaf r σ g fun o l=>Q ((x,y)::o) l
abbrev VV:List (V×V)->List (Value×Value)->Prop:=Paired fun p q=>RelV p.1 q.1/\RelV p.2 q.2
def PPs(X:Cx)(o:Pos)(l:List (Option Expr))(c:List Expr)(t:List (TE×TE)):Prop:=
 ∀(g:List 0#l) (s:Shared) (σ:St) (H:Hp) (Q:List (V×V)->Hp->Prop),Inv X g σ H s->zaf t σ H Q ->
  wpAny 0#b X.A (evalPairs (pairTrees l c X.env o)) (fun B A=>∃w u,Inv X g σ u A/\VV w B/\Q w u) X.xe s
theorem zca{X:Cx}{c:Pos}:PPs X c [] [] []:=fun g s σ H Q I h=>pairTrees_nil_walk ⟨[],H,I,.nil,h⟩
theorem Yy{X:Cx}{g:Pos}{k v:Expr}{t:List (Option Expr)}{B:List Expr}{w A:TE}{l:List (TE×TE)}(hk:PE X k w)(hv:PE X v A)(N:PPs X g t B l) :
  PPs X g (some k::t) (v::B) ((w,A)::l):=fun c s σ H Q I h=>
 pairTrees_cons_walk (thn (hk c s σ H _ I h) fun u s1 ⟨x,D,J,rx,T⟩=>thn (hv c s1 σ D _ J T) fun w2 s2 ⟨y,E,L,ry,U⟩=>
  thn (N c s2 σ E _ L U) fun ws s3 ⟨O,G,M,o,Y⟩=>⟨(x,y)::O,G,M,.cons ⟨rx,ry⟩ o,Y⟩)
def jM(g more:List (Key×V)):List (Key×V):=more.foldl (fun c l=>jN c l.1 l.2) g
theorem KV.merge:∀{more:List (Key×V)} {l:List (Key×Value)} {c:List (Key×V)} {g:List (Key×Value)},KV more l->KV c g->KV (jM c more) (merged g l):=by
 intro more l c g r;unfold KV at r;induction r generalizing c g with
 | nil=>intro q;exact q
 | @cons p q u w h t o=>
  intro s;have e:KV (jN c p.1 p.2) (stored g q.1 q.2):=by
   have:=s.put p.1 h.2;rw[<- h.1];exact this
  exact o e
theorem vO:∀(more c:List (Key×V)),(jM c more).length<=c.length+more.length
 | [],c=>by show c.length<=c.length+0;omega
 | p::r,c=>by
  have g:=vO r (jN c p.1 p.2);have l:=xR c p.1 p.2;show(jM (jN c p.1 p.2) r).length<=_;rw[jJ];omega
theorem Xe{P:Program}{w:World}:∀{g:List (Key×V)} {s:List (Value×Value)},VV (g.map fun o=>(kV o.1,o.2)) s->∃l,Carries (zM P w) s l/\KV g l
 | [],_,r=>by rw[List.map_nil] at r;cases r;exact⟨[],True.intro,.nil⟩
 | p::g,_,r=>by
  rw[jV] at r;cases r with
  | @cons a b A D h t=>
   obtain⟨l,c,q⟩:=Xe (P:=P) (w:=w) t;obtain⟨B,u⟩:=b;exact⟨(p.1,u)::l,⟨xc h.1,rfl,c⟩,.cons ⟨rfl,h.2⟩ q⟩
def zjI(g:List (TE×TE)):TE:=fun σ H Q=>∀p,H p=none->zaf g σ (upd H p (.dK [])) fun s l=>l p=some (.dK [])/\∃c:List (Key×V),s=c.map (fun o=>(kV o.1,o.2))/\c.length<=15/\Q (.ref p) (upd l p (.dK (jM [] c)))
theorem zcd{X:Cx}{D:Pos}{g:List (Option Expr)}{l:List Expr}{E:List (TE×TE)}(h:PPs X D g l E)(u:g.all (·.isSome)=true)(hl:g.length=l.length)(U:g≠[])
  (G:g.length<=15):PE X (.Dict g l D) (zjI E):=by
 intro B s σ H Q I q;have hn:=I.hok.fresh (zD s.heap.objs.size);have N:=I.laid (a:=s.heap.objs.size) (o:=.dK []) (h':=s.heap.push { cls:=.type "dict",data:=.dict #[] }) (t':=s.toks) (fun _ _ q=>zN _ q) (zD _) (YZ s.heap I.big)
 refine wpAny_Dict_walk (knd:=zM X.prog X.w) u hl U G (thn (h B _ σ _ _ N (q _ hn)) fun ws s2 ⟨ps,H2,L,J,e,A,T,lk,q2⟩=>?_)
 subst T;obtain⟨rs,c,rk⟩:=Xe (P:=X.prog) (w:=X.w) J;obtain⟨z,hd,a1,r0,O⟩:=YY L.hok e;cases r0;refine⟨rs,c,O,fun M t hs=>⟨.ref s.heap.objs.size,_,?_,rfl,q2⟩⟩
 have hz:(jM [] A).length<=sizeLine:=by
  have Y:=vO A [];rw[Zr] at Y;rw[sizeLine_eq];omega
 have he:∃q,M.get? s.heap.objs.size=some q:=let ⟨q,_,_,hq,_⟩:=t;⟨q,hq⟩
 exact Jo L (by rw[e];exact True.intro) hs he (Xb hz hd (rk.merge .nil) t)
structure M1(X:Cx)(o:Expr)(m:Str)(apos:Pos)(e:Expr)(cpos:Pos):Prop where
 base:attributeBase o m X.env (eval o X.env)=eval o X.env
 few:((backTo cpos (starEach [e] X.env)).all (fun x=>!x.1)&&(backToKw cpos (keywordEach [] X.env)).all (fun x=>x.1.isSome)
  && decide (([e]:List Expr).length+([]:List Keyword).length+(if([]:List Keyword).isEmpty then 0 else 1)<30))=true
 line:(apos.endLine==cpos.line)=true
 trees:backTo cpos (starEach [e] X.env)=[(false,eval e X.env)]
structure M2(X:Cx)(o:Expr)(m:Str)(apos:Pos)(e f:Expr)(cpos:Pos):Prop where
 base:attributeBase o m X.env (eval o X.env)=eval o X.env
 few:((backTo cpos (starEach [e,f] X.env)).all (fun x=>!x.1)&&(backToKw cpos (keywordEach [] X.env)).all (fun x=>x.1.isSome)
  && decide (([e,f]:List Expr).length+([]:List Keyword).length+(if([]:List Keyword).isEmpty then 0 else 1)<30))=true
 line:(apos.endLine==cpos.line)=true
 trees:backTo cpos (starEach [e,f] X.env)=[(false,eval e X.env),(false,eval f X.env)]
def IsD(H:Hp)(a:Addr):Prop:=(∃c,Rd H a (.dK c))\/∃c,Rd H a (.dT c)
theorem Wf{X:Cx}{l:List (Addr×Obj)}{σ:St}{H:Hp}{s:Shared}{a:Addr}(I:Inv X l σ H s)(d:IsD H a) :
  s.TypeIs (.ref a) "dict" /\ (∀b,Value.ref a=.ref b->∃c,s.heap.get? b=some c/\c.dict=none)/\(a==sysModules)=false:=by
 rcases d with ⟨u,e⟩ | ⟨u,e⟩
 ·obtain⟨_,hd,w,_,g⟩:=wL I.hok e
  refine⟨g.typeIs,fun b q=>?_,hd⟩
  cases q;obtain⟨c,_,_,o,t,_⟩:=g;exact⟨c,o,t.2.1⟩
 ·obtain⟨_,hd,A,_,g⟩:=QL I.hok e
  refine⟨g.typeIs,fun b q=>?_,hd⟩
  cases q;obtain⟨c,_,_,o,t,_⟩:=g;exact⟨c,o,t.2.1⟩
section
variable{X:Cx}{c:List (Addr×Obj)}{σ:St}{H:Hp}{s:Shared}{a:Addr}{y d:V}{u r:Value}{o:Option V}{A:Around}{E:Value->Shared->Prop}
theorem zju{Q:Value->Shared->Prop}(hu:A.units+1<cLine)(I:Inv X c σ H s)(g:DGet H a y o)(G:RelV y u)(h:∀L J,Inv X c σ H J->RelV (o.getD .non) L->Q L J) :
  wpAny 0#b A (call (.builtin "dict.get") [.ref a,u]) Q E s:=by
 rcases g with ⟨D,k,e,B,l⟩ | ⟨D,k,b,e,B,M,l⟩
 ·subst B
  obtain⟨z,hd,O,t,w⟩:=wL I.hok e;refine call_meetsIn QB w.typeIs WN (PySem.F.args_dict_get_2 _ _) (meets_dict_get (zM X.prog X.w) a (xc G) hd) ⟨_,w.mapOf,h _ _ (I.tok _) ?_⟩
  rw[l];exact(t.val k).getD rfl
 ·subst B
  cases(show u=Value.ref b from G)
  obtain⟨z,hd,N,t,w⟩:=QL I.hok e;refine call_meetsIn QB w.typeIs WN (PySem.F.args_dict_get_2 _ _) (meetsH_dict_get (tupleKind (zM X.prog X.w)) a b hd) ⟨tupleKind_room_in1 hu,k,N,Zg I.hok M,w,h _ _ (I.tok _) ?_⟩
  rw[l];exact(t.val k).getD rfl
theorem zjt{Q:Value->Shared->Prop}(hu:A.units+1<cLine)(I:Inv X c σ H s)(g:DGet H a y o)(J:RelV y u)(G:RelV d r)(h:∀M L,Inv X c σ H L->RelV (o.getD d) M->Q M L) :
  wpAny 0#b A (call (.builtin "dict.get") [.ref a,u,r]) Q E s:=by
 rcases g with ⟨D,k,e,B,l⟩ | ⟨D,k,b,e,B,N,l⟩
 ·subst B
  obtain⟨z,hd,T,t,w⟩:=wL I.hok e;refine call_meetsIn QB w.typeIs WN (PySem.F.args_dict_get_3 _ _ _) (meets_dict_get_default (zM X.prog X.w) a (xc J) hd r) ⟨_,w.mapOf,h _ _ (I.tok _) ?_⟩
  rw[l];exact(t.val k).getD G
 ·subst B
  cases(show u=Value.ref b from J)
  obtain⟨z,hd,O,t,w⟩:=QL I.hok e;refine call_meetsIn QB w.typeIs WN (PySem.F.args_dict_get_3 _ _ _) (meetsH_dict_get_default (tupleKind (zM X.prog X.w)) a b hd r) ⟨tupleKind_room_in1 hu,k,O,Zg I.hok N,w,h _ _ (I.tok _) ?_⟩
  rw[l];exact(t.val k).getD G
end
def ziq(l ty:TE):TE:=fun σ H Q=>l σ H fun x c=>∃a,x=.ref a/\IsD c a/\ty σ c fun y g=>∃o,DGet g a y o/\Q (o.getD .non) g
def zio(s ty t:TE):TE:=fun σ H Q=>s σ H fun x c=>∃a,x=.ref a/\IsD c a/\ty σ c fun y l=>t σ l fun z g=>∃o,DGet g a y o/\Q (o.getD z) g
section
variable{X:Cx}{o e f:Expr}{c l:Pos}{t ty w:TE}
theorem zeY(hu:X.A.units+1<cLine)(O:PE X o t)(N:PE X e ty)(m:M1 X o "get" c e l):PE X (.Call (.Attribute o "get" c) [e] [] l) (ziq t ty):=by
 intro A s σ H Q I h;refine wpAny_Call_method m.base m.few m.line XD QB PySem.F.type_dict_get (thn (O A s σ H _ I h) fun u s1 ⟨x,E,D,Y,a,M,d,T⟩=>?_)
 subst M;obtain rfl:u=Value.ref a:=Y;obtain⟨t1,t2,_⟩:=Wf D d;refine⟨t1,t2,?_⟩
 rw[m.trees];refine QC rfl (WL (Zw (thn (N A s1 σ E _ D T) fun iv s2 ⟨y,G,J,ry,ov,g,U⟩=>Xv ?_)))
 exact zju hu J g ry fun w' s3 L B=>⟨_,G,L,B,U⟩
theorem yh(hu:X.A.units+1<cLine)(Y:PE X o t)(T:PE X e ty)(U:PE X f w)(m:M2 X o "get" c e f l):PE X (.Call (.Attribute o "get" c) [e,f] [] l) (zio t ty w):=by
 intro A s σ H Q I h;refine wpAny_Call_method m.base m.few m.line XD QB PySem.F.type_dict_get (thn (Y A s σ H _ I h) fun u s1 ⟨x,E,D,rx,a,O,d,q1⟩=>?_)
 subst O;obtain rfl:u=Value.ref a:=rx;obtain⟨t1,t2,_⟩:=Wf D d;refine⟨t1,t2,?_⟩
 rw[m.trees];refine QC rfl (WL (Zw (thn (T A s1 σ E _ D q1) fun iv s2 ⟨y,G,L,ry,q2⟩=>
  Zw (thn (U A s2 σ G _ L q2) fun fv s3 ⟨z,J,M,rz,ov,g,q3⟩=>Xv ?_))))
 exact zjt hu M g ry rz fun w' s4 N B=>⟨_,J,N,B,q3⟩
end
section
variable{X:Cx}{c:List (Addr×Obj)}{σ:St}{H:Hp}{s:Shared}{a:Addr}{g:List (Key×V)}{A:Around}{E:Value->Shared->Prop}
theorem zfL{Q:Value->Shared->Prop}(I:Inv X c σ H s)(e:Rd H a (.dK g))(h:∀p u,H p=none->Inv X c σ (upd H p (.dK g)) u->Q (.ref p) u):wpAny 0#b A (call (.type "dict") [.ref a]) Q E s:=by
 obtain⟨z,hd,J,l,w⟩:=wL I.hok e;refine kt_call_dict hd w (by rw[<- l.length];exact z) fun D t B=>?_
 refine h _ _ (I.hok.fresh (zD _)) (I.laid (a:=s.heap.objs.size) (o:=.dK g) (t':=s.toks) (fun b q hq=>?_) (zD _) (Xb z (beq_eq_false_iff_ne.mpr (zG (zP I.big))) l t))
 exact(B.2 b (zP (zH hq))).trans (zN _ hq)
end
section
variable{X:Cx}{c:List (Addr×Obj)}{σ:St}{H:Hp}{s:Shared}{a:Addr}{y:V}{u:Value}{A:Around}{E:Value->Shared->Prop}
end
end L2
namespace PySem
open PySem PySem.W PySem.Calls PyProof.Rows PyProof.V PySem.Spec
end PySem
namespace L2
open PySem PySem.Spec PyProof.Rows
section
variable{X:Cx}
end
section
variable{X:Cx}{c:Expr}
end
section
variable{X:Cx}
inductive QV(K:W.Frag)(g:List V)(H:Hp)(Q:VK):Prop
 | mk (p:Addr) (c:List Int) (_:g=[.ref p]) (_:SqL K H p (c.map V.int)) (_:c≠[]) (_:∀m:Int,m∈c->(∀a∈c,m<=a)->Q (.int m) H):QV K g H Q
theorem zdW(hc:X.calm=true):jE X (.builtin "min") (QV X.K):=by
 intro Y s σ H xs us Q I r h;obtain⟨p,g,rfl,hq,G,q⟩:=h;obtain⟨u,rfl,L⟩:=vy r;cases(show u=_ from L)
 obtain⟨c,rv,pl,_⟩:=I.list hq;have E:=pl.isList;have J:p≠s.heap.objs.size:=by
  obtain⟨o,e,_⟩:=E;exact zP (zH e)
 have U:c.length=g.length:=by have:=rv.length;rw[zv] at this;omega
 have h0:0<g.length:=Zy.mpr G;have B:p<s.heap.objs.size:=by
  obtain⟨o,e,_⟩:=E;exact zH e
 refine call_min_walk (wpAny_pyIter_list E ?_)
 have l:∀i v,c.toArray[i]? =some v->∃t,v=Value.int (g.getD i 0) t:=by
  intro i v D;have e1:c[i]? =some v:=by simpa using D
  have T:i<g.length:=by
   have N:=(zU.mp e1).1;omega
  have e2:(g.map V.int)[i]? =some (.int g[i]):=by simp[T]
  obtain⟨u',M,L⟩:=rv.get e2;rw[e1] at M;cases M;obtain⟨t,rfl⟩:=L;exact⟨t,by simp[T]⟩
 refine⟨s.heap.objs.size,_,_,_,_,_,fun i j=>decide (g.getD i 0<g.getD j 0),rfl,Zj (prog:=X.prog) (w:=X.w) (A:=X.A.in1) (I.ok.hd hc) _ p J c.toArray,⟨⟨_,zL _ rfl,rfl,rfl⟩,E.push _⟩,?_,?_,CmpOf.ints_lt (fun i=>g.getD i 0) l,fun v h' tk D hk=>?_⟩
 ·intro b hb
  show b<(s.heap.push _).objs.size;rw[qJ];rcases zC.mp hb with rfl | hb
  ·exact xg _
  ·rcases zC.mp hb with rfl | hb
   ·exact xt B
   ·cases hb
 ·show 0<c.toArray.size
  rw[zZ];omega
 ·obtain⟨t,rfl⟩:=l _ v D
  obtain⟨N,O⟩:=argBest_lt (fun i=>g.getD i 0) (c.toArray.size-1)
  rw[zZ] at N O D;refine⟨.int _,H,I.kept (old_kept hk),⟨t,rfl⟩,q _ ?_ fun a ha=>?_⟩
  ·rw[zZ]
   have hb:argBest (fun i j=>decide (g.getD i 0<g.getD j 0)) (c.length-1)<g.length:=by omega
   rw[qI,qg hb];exact xB _
  ·rw[zZ]
   obtain⟨j,hj,rfl⟩:=Qz ha;have:=O j (by omega)
   rw[show g.getD j 0=g[j] by simp[hj]] at this
   exact this
end
theorem WZ:∀{g:List V} {c:List Value},Vals g c->Vals g.reverse c.reverse
 | _,_,.nil=>.nil
 | _,_,.cons r t=>by
  rw[WE,WE];exact(WZ t).append (.cons r .nil)
section
variable{X:Cx}
variable{e st:Expr}{l:TE}{t:TO}{c g:Pos}
theorem ziN(U:PE X e l)(hk:PO X (some st) t):PE X (.Subscript e (.Slice none none (some st) g) c) (fun σ H Q=>l σ H fun x B=>t σ B fun k D=>∃a A,x=.ref a/\k=some (-1)/\SqL X.K D a A /\
  ∀p,D p=none->Q (.ref p) (upd D p (.lst A.reverse))):=by
 intro u s σ H Q I h;refine Subscript_ (thn (U u s σ H _ I h) fun v s1 ⟨x,B,N,r1,q1⟩=>?_)
 refine wpAny_Slice ?_
 rw[evalPart_none];refine zx (zx ?_)
 refine thn (hk u s1 σ B _ N q1) fun L w ⟨k,M,O,pk,q3⟩=>?_
 obtain⟨a,A,rfl,rfl,hx,q⟩:=q3;cases r1;have E:Inv X u σ M { w with heap:=w.heap.push { cls:=.type "slice",data:=.fields #[.none,.none,L] } }:=O.kept (t':=w.toks) fun b ob q=>zN _ q
 obtain⟨Y,r,J,hz⟩:=E.list hx;have G:=r.length;show wpAny 0#b X.A (subscriptTail e (.Slice none none (some st) g) (.ref a) (.ref w.heap.objs.size)) (EP X u σ Q) X.xe { w with heap:=w.heap.push { cls:=.type "slice",data:=.fields #[.none,.none,L] } };refine tail_any (ops:=[.ref a,.ref w.heap.objs.size]) (T:= "list") J.isList.typeIs slot_list_getitem.lookup ?_ (by with_unfolding_all rfl)
 refine wpAny_getItem_list_slice (lo:=none) (hi:=none) (st:=some (-1)) J.isList (Heap.IsSliceOf.new ..) .none .none pk (by decide) ?_ (by rw[zZ]<;>omega)
 rw[PySem.W.krv_pick];refine⟨.ref _,_,E.laid (t':=w.toks) (o:=.lst A.reverse) (fun b ob q=>zN _ q) (zD _) ?_,rfl,q _ (E.hok.fresh (zD _))⟩
 exact⟨by rw[List.length_reverse];omega,_,0,WZ r,zL _ rfl⟩
end
end L2
namespace PySem
def RawD(h:Heap)(d:Addr)(g:Array DictEntry)(c:Nat):Prop:=∃o,h.get? d=some o/\o.ExactDict/\o.data=.dict g c
theorem RawD.at{h l:Heap}{d:Addr}{g:Array DictEntry}{c:Nat}(x:RawD h d g c)(e:∀o,h.get? d=some o->l.get? d=some o):RawD l d g c:=let ⟨o,a,b⟩:=x;⟨o,e _ a,b⟩
section
variable{c:Program}{w:World}{A:Around}{E:Value->Shared->Prop}{s:Shared}{d o:Addr}{l:Array DictEntry}{g i:Nat}
end
end PySem
namespace L2
open PySem PySem.Spec PyProof.Rows
section
variable{X:Cx}{c:Expr}
end
section
variable{c:Program}{w:World}{A:Around}{R:Result->Shared->Prop}{s:Shared}
end
section
variable{X:Cx}{N Y J t:Expr}{w:List Expr}{Q A:Expr}{D:List Expr}{scope:Scope}{E:Pos}{wi L:TI}{g M:TG}{O G:TT}{T U:TE}
theorem zaN{a1:List (Addr×Obj)}{σ:St}{H:Hp}{s:Shared}{fp:List Addr}(own fr:List Str)(js:List Nat)(I:Inv X a1 σ H s)(B:zgf scope.names X.env.scope.names X.N fr js)(hk:scope.kind=.function)
  (f2:∀b∈fp,jZ X a1 H b) (fl:∀b∈fp,b<s.heap.objs.size) {C:Addr} (hC:C=s.heap.objs.size) {h1:Heap} {m:Str->Option Value} (a6:h1.Ns C m) (k4:∀b o,s.heap.get? b=some o->h1.get? b=some o) {t4:Nat} :
  Inv (qm X (own++fr) scope C s H fp) [] (upS own.length js σ) H { s with heap:=h1,toks:=t4 }:=by
 have a0:∀y∈scope.names,y.2=NameKind.free->∃c,X.env.cells.lookup y.1=some c:=fun y hy e=>I.ok.has y.1 (B.free y hy e)
 refine⟨⟨I.ok.mod,hk,I.ok.glob,I.ok.blt,xJ hC.symm,fun x y c e1 e2=>?_,fun x hx=>?_,fun x c hf=>(nomatch hf),fun hc=>I.ok.hd hc,I.ok.frames,.inl rfl,fun b hb=>?_,I.bs,xa I.ok.bsz I.sz,fun b o e hb=>?_,fun b hb hf=>?_,I.stack,I.stkFree⟩,
  rfl,I.bare,Un.kept k4,⟨m,a6,fun i x v e1 e2 a7=>?_⟩,fun x c e=>?_,?_,fun x c e=>?_,fun p hp=>absurd (show p∈([]:List 0#l) from hp) (by simp),I.hok.kept k4,?_⟩
 ·exact I.ok.inj x y c (zO e1 a0) (zO e2 a0)
 ·obtain⟨k,e,z⟩:∃k,scope.names.lookup x=some k/\(k=.free):=by
   rcases hx with hx | hx
   ·obtain⟨k,e,z⟩:=xv hx
    rcases z with z | z
    ·subst z;exact absurd rfl (B.cell _ (vI e))
    ·exact⟨k,e,z.1⟩
   ·obtain⟨k,e,z⟩:=xv hx
    rcases z with z | z
    ·subst z;exact⟨_,e,rfl⟩
    ·exact⟨k,e,z.1⟩
  subst z;exact⟨_,xo e⟩
 ·refine⟨by rw[hC];exact zP (fl b hb),fun x c e=>?_⟩
  exact(f2 b hb).2.2.2.2.1 x c (zO e a0)
 ·rcases(f2 b hb).2.2.2.1 with z | z
  ·exact I.ok.noex b o e z
  ·exact absurd (jz (zH (I.ok.bs b o e).1) z) (jW _)
 ·rcases zC.mp (I.stkSub b hf) with y | y
  ·exact(f2 b hb).2.1 y
  ·exact(f2 b hb).2.2.1 y
 ·obtain⟨hn,_,j,ej,es⟩:=xO e2
  have ex:fr[i-own.length]? =some x:=by rw[vh hn] at e1;exact e1
  obtain⟨a2,j',a3,eN⟩:=B.fr _ x ex;have:j'=j:=by rw[ej] at a3;exact(qT a3).symm
  subst this;have a4:=B.free _ (vI a2) rfl;obtain⟨m0,_,hl⟩:=I.loc;obtain⟨u,r,l⟩:=hl j' x v eN es (by rcases a4 with z | z;exact .inr (.inl z);exact .inr (.inr z))
  refine⟨u,r,.inr ?_⟩
  rcases l with ⟨kl,_⟩ | ⟨_,c,ec,o,eo,ed⟩
  ·have a5:X.env.scope.names.lookup x=some .local:=kl
   rcases a4 with z | z
   ·exact absurd (z.symm.trans a5) (by decide)
   ·exact absurd (z.symm.trans a5) (by decide)
  ·obtain⟨k',e',z⟩:=x9 (env:=X.env) a2
   have eq:(qy X.env.cells scope.names []).lookup x=some c:=by rw[xo a2,ec];rfl
   refine⟨?_,c,eq,o,k4 c o eo,ed⟩
   rcases z with z | z
   ·subst z;exact .inl e'
   ·subst z;exact .inr e'
 ·obtain⟨v,o,eo,ed⟩:=I.cell x c (zO e a0)
  exact⟨v,o,k4 c o eo,ed⟩
 ·exact I.hok.fresh (xJ hC.symm)
 ·exact I.freeC x c (zO e a0)
 ·rw[Jd,<- B.len]
  show _=(own++fr).length;rw[qz]
end
abbrev qh(X:Cx)(c:List Str)(scope:Scope)(x:Str)(C:Addr)(s:Shared)(H:Hp)(ex:List Addr):Cx where
 prog:=X.prog
 w:=X.w
 K:=X.K
 mg:=X.mg
 base:=X.base
 A:=X.A
 N:=c
 s₀:=s
 H₀:=H
 env:=compEnvC scope ((x,C+1)::qy X.env.cells scope.names []) C X.env
 outer:=X.stack
 stack:=X.stack
 ex:=ex
 fn:=fun y=>y==x
 calm:=X.calm
 pn:=[]
 xe:=fun _ _=>False
def Ql(sn on:List (Str×NameKind))(N:List Str)(x:Str)(c:List Str)(g:List Nat):Bool:=
 (sn.filter fun y=>y.2==.cell)==[(x,.cell)]&&sn.lookup x==some .cell&&decide ([x]++c).Nodup&&sn.all (fun y=>(y.2 != .local||sn.lookup y.1==some .local)&&(y.2 != .free||(on.lookup y.1==some .cell||on.lookup y.1==some .free)))&&c.length==g.length
  && (c.zip g).all fun p=>sn.lookup p.1==some .free&&N[p.2]? ==some p.1
structure BlkOkC(sn on:List (Str×NameKind))(N:List Str)(x:Str)(fr:List Str)(js:List Nat):Prop where
 one:(sn.filter fun y=>y.2==.cell)=[(x,.cell)]
 lk:sn.lookup x=some .cell
 nd:([x]++fr).Nodup
 loc:∀y∈sn,y.2=NameKind.local->sn.lookup y.1=some .local
 free:∀y∈sn,y.2=NameKind.free->on.lookup y.1=some .cell\/on.lookup y.1=some .free
 len:fr.length=js.length
 fr:∀(k:Nat) (x:Str),fr[k]? =some x->sn.lookup x=some .free/\∃j:Nat,js[k]? =some j/\N[j]? =some x
theorem BlkOkC.is{sn on:List (Str×NameKind)}{N:List Str}{x:Str}{c:List Str}{g:List Nat}(B:BlkOkC sn on N x c g){y:Str×NameKind}(h:y∈sn)(e:y.2=.cell):y.1=x:=by
 have:y∈sn.filter fun y=>y.2==.cell:=yy.mpr ⟨h,by rw[e];rfl⟩
 rw[B.one,zW] at this;rw[this]
theorem yX{sn on:List (Str×NameKind)}{N:List Str}{x:Str}{g:List Str}{c:List Nat}(h:Ql sn on N x g c=true):BlkOkC sn on N x g c:=by
 unfold Ql at h;simp only[jI,vF,xp,decide_eq_true_eq] at h;obtain⟨⟨⟨⟨⟨s,t⟩,B⟩,l⟩,u⟩,w⟩:=h;refine⟨s,t,B,fun y hy e=>?_,fun y hy e=>?_,u,fun k x e=>?_⟩
 ·have:=(l y hy).1
  simp only[WA,bne_iff_ne,xp] at this;exact this.resolve_left fun z=>z e
 ·have:=(l y hy).2
  simp only[WA,bne_iff_ne,xp] at this;exact this.resolve_left fun z=>z e
 ·have hk:k<g.length:=(zU.mp e).1
  have o:k<c.length:=by omega
  have A:(x,c[k])∈g.zip c:=by
   refine qw (i:=k) ?_
   rw[zfZ];exact⟨e,by simp[o]⟩
  have:=w _ A;exact⟨this.1,c[k],by simp[o],this.2⟩
theorem Xd:∀{names:List (Str×NameKind)} (n:Nat) (c:List (Str×Addr)) (h:Heap),(names.filter fun y=>y.2==.cell)=[]->cellsFrom n names c=c/\pushCells h names=h
 | [],_,_,_,_=>⟨rfl,rfl⟩
 | (a,k)::r,n,c,h,e=>by
  by_cases q:(k==NameKind.cell)=true
  ·rw[Xr,zu (show((a,k).2==NameKind.cell)=true from q)] at e
   cases e
  ·rw[Xr,zk (show ¬((a,k).2==NameKind.cell)=true from q)] at e
   unfold cellsFrom pushCells;rw[zk q,zk q];exact Xd n c h e
theorem Vt{x:Str}:∀{names:List (Str×NameKind)} (n:Nat) (c:List (Str×Addr)) (h:Heap),(names.filter fun y=>y.2==.cell)=[(x,.cell)]->cellsFrom n names c=(x,n)::c/\pushCells h names=h.push { cls:=.type "cell",data:=.cell none }
 | [],_,_,_,e=>by cases e
 | (a,k)::r,n,c,h,e=>by
  by_cases q:(k==NameKind.cell)=true
  ·rw[Xr,zu (show((a,k).2==NameKind.cell)=true from q)] at e
   injection e with e1 e2;cases e1;unfold cellsFrom pushCells;rw[zu q,zu q];exact Xd _ _ _ e2
  ·rw[Xr,zk (show ¬((a,k).2==NameKind.cell)=true from q)] at e
   unfold cellsFrom pushCells;rw[zk q,zk q];exact Vt n c h e
theorem JT{M:Model}{A:Around}{E:Value->Shared->Prop}{s:Shared}{scope:Scope}{globals:Addr}{g:List (Str×Addr)}{qual:Str}{c:Env}{x:Str}{Q:Env->Shared->Prop}(one:(scope.names.filter fun y=>y.2==.cell)=[(x,.cell)])
  (t:Q { scope:=scope,locals:=s.heap.objs.size,globals:=globals,cells:=(x,s.heap.objs.size+1)::g,qual:=qual,func:=none,code:=c.code,frame:=c.frame,builtins:=c.builtins } { s with heap:=(s.heap.push { cls:=.type "dict",data:=.dict #[] }).push { cls:=.type "cell",data:=.cell none } }) :
  wpAny M A (newFunctionEnv scope globals g [] qual none .none (some c)) Q E s:=by
 simp only[newFunctionEnv,Option.isSome_some,if_true];refine zf (wpAny_alloc (zf (wpAny_layCells _ (fun o kind cells=>by cases l:kind==NameKind.cell<;>simp[l]) _ _ _ _ ?_)))
 obtain⟨e1,e2⟩:=Vt (names:=scope.names) (x:=x) (s.heap.push { cls:=.type "dict",data:=.dict #[] }).objs.size g (s.heap.push { cls:=.type "dict",data:=.dict #[] }) one;rw[e1,e2,qJ];exact zf (zx (zx t))
theorem ww{c:Env}{x:Str}:∀{names:List (Str×NameKind)},names.lookup x=some .cell->(names.map fun(n,k)=>if 0#g then(n,NameKind.cell) else(n,k)).lookup x=some .cell
 | [],h=>by simp at h
 | (n,k)::r,h=>by
  show List.lookup x ((if 0#g=true then(n,NameKind.cell) else(n,k))::_)=some NameKind.cell
  by_cases hx:(x==n)=true
  ·rw[jg,hx] at h
   cases(qT h);split<;>simp[jg,hx]
  ·have g:(x==n)=false:=by simpa using hx
   rw[jg,g] at h;split
   ·rw[jg,g];exact ww h
   ·rw[jg,g];exact ww h
section
variable{X:Cx}{w L t:Expr}{A:List Expr}{scope:Scope}{E:Pos}{M:TI}{g:TG}{J:TT}{G:TE}{x:Str}
theorem zaM{Y:List (Addr×Obj)}{σ:St}{H:Hp}{s:Shared}{fp:List Addr}(fr:List Str)(js:List Nat)(I:Inv X Y σ H s)(B:BlkOkC scope.names X.env.scope.names X.N x fr js)(hk:scope.kind=.function)
  (f2:∀b∈fp,jZ X Y H b) (fl:∀b∈fp,b<s.heap.objs.size) {D C:Addr} (hD:D=s.heap.objs.size) {h3 h1:Heap} (e3:h3=s.heap.push { cls:=.type "list",dict:=none,data:=.seq ([]:List Value).toArray }) (hC:C=h3.objs.size)
  {m:Str->Option Value} (aa:h1.Ns C m) (a3:h1.IsCell (C+1) none) (k4:∀b o,h3.get? b=some o->h1.get? b=some o) {t4:Nat} :
  Inv (qh X ([x]++fr) scope x C { s with heap:=h3 } H (D::fp)) [] (upS 1 js σ) H { s with heap:=h1,toks:=t4 }:=by
 have k3:∀b o,s.heap.get? b=some o->h3.get? b=some o:=fun b o e=>by rw[e3];exact zN _ e
 have I3:Inv X Y σ H { s with heap:=h3 }:=I.kept (t':=s.toks) k3;have hz:h3.objs.size=s.heap.objs.size+1:=by rw[e3,qJ]
 have N:∀y∈scope.names,y.2=NameKind.free->∃c,X.env.cells.lookup y.1=some c:=fun y hy e=>I.ok.has y.1 (B.free y hy e)
 have Q:∀x c,X.env.cells.lookup x=some c->c<s.heap.objs.size:=fun x c e=>by
  obtain⟨v,q⟩:=I.cell x c e;exact q.lt
 have a4:∀y c,(qy X.env.cells scope.names []).lookup y=some c->c<C:=fun y c e=>by
  have:=Q y c (zO e N);rw[hC,hz];exact xt this
 have look:∀y c,((x,C+1)::qy X.env.cells scope.names []).lookup y=some c->(y=x/\c=C+1)\/(y≠x/\(qy X.env.cells scope.names []).lookup y=some c):=fun y c e=>by
  rw[jg] at e;by_cases q:(y==x)=true
  ·rw[q] at e
   exact .inl ⟨by simpa using q,(qT e).symm⟩
  ·rw[(Xq _).mp q] at e
   exact .inr ⟨fun z=>q (by simpa using z),e⟩
 refine⟨⟨I.ok.mod,hk,I.ok.glob,I.ok.blt,xJ hC.symm,fun y1 y2 c e1 e2=>?_,fun y hy=>?_,fun y c hf e=>?_,fun hc=>I.ok.hd hc,I.ok.frames,.inl rfl,fun b hb=>?_,I3.bs,xa I.ok.bsz I3.sz,fun b o e hb=>?_,fun b hb hf=>?_,I3.stack,I3.stkFree⟩,
  rfl,I.bare,Un.kept k4,⟨m,aa,fun i y v e1 e2 ab=>?_⟩,fun y c e=>?_,?_,fun y c e=>?_,fun p hp=>absurd (show p∈([]:List 0#l) from hp) (by simp),I3.hok.kept k4,?_⟩
 ·rcases look _ _ e1 with ⟨T,O⟩ | ⟨T,O⟩<;>rcases look _ _ e2 with ⟨b1,b2⟩ | ⟨b1,b2⟩
  ·rw[T,b1]
  ·have:=a4 _ _ b2
   rw[O] at this;exact absurd this (Qm.mpr (vn _))
  ·have:=a4 _ _ O
   rw[b2] at this;exact absurd this (Qm.mpr (vn _))
  ·exact I.ok.inj _ _ c (zO O N) (zO b2 N)
 ·by_cases q:y=x
  ·subst q
   exact⟨C+1,by show List.lookup y ((y,C+1)::_)=_;simp[jg]⟩
  obtain⟨k,e,z⟩:∃k,scope.names.lookup y=some k/\(k=.free):=by
   rcases hy with hx | hx
   ·obtain⟨k,e,z⟩:=xv hx
    rcases z with z | z
    ·subst z;exact absurd (B.is (vI e) rfl) q
    ·exact⟨k,e,z.1⟩
   ·obtain⟨k,e,z⟩:=xv hx
    rcases z with z | z
    ·subst z;exact⟨_,e,rfl⟩
    ·exact⟨k,e,z.1⟩
  subst z;refine⟨(X.env.cells.lookup y).getD 0,?_⟩
  show List.lookup y ((x,C+1)::_)=_;rw[jg,show(y==x)=false from by simpa using q]
  exact xo e
 ·rcases look _ _ e with ⟨T,O⟩ | ⟨T,O⟩
  ·rw[O]
   show h3.objs.size<=C+1;rw[hC];exact vn _
  ·exact absurd (by simpa using hf) T
 ·have U:∀b,b<C->∀y c,((x,C+1)::qy X.env.cells scope.names []).lookup y=some c->(∀y c,X.env.cells.lookup y=some c->c≠b)->c≠b:=fun b hb y c e h=>by
   rcases look _ _ e with ⟨T,O⟩ | ⟨T,O⟩
   ·rw[O];exact jH (xt hb)
   ·exact h y c (zO O N)
  rcases zC.mp hb with z | hb
  ·subst z
   refine⟨by rw[hD,hC,hz];exact zP (xg _),fun y c e=>U _ (by rw[hD,hC,hz];exact xg _) y c e fun y c e=>?_⟩
   have:=Q y c e;rw[hD];exact zP this
  ·have a8:b<C:=by rw[hC,hz];exact xt (fl b hb)
   exact⟨zP a8,fun y c e=>U _ a8 y c e fun y c e=>(f2 b hb).2.2.2.2.1 y c e⟩
 ·rcases zC.mp hb with z | hb
  ·have:=zH (I.bk b o e)
   rw[z,hD] at this;exact jW _ this
  ·rcases(f2 b hb).2.2.2.1 with z | z
   ·exact I.ok.noex b o e z
   ·exact absurd (jz (zH (I.ok.bs b o e).1) z) (jW _)
 ·have a6:=zC.mp (I.stkSub b hf)
  rcases zC.mp hb with z | hb
  ·rcases a6 with y | y
   ·have:=I.lt
    rw[<- y,z,hD] at this;exact jW _ this
   ·exact I.nofs (a:=b) (by rw[z,hD];exact zD _) y
  ·rcases a6 with y | y
   ·exact(f2 b hb).2.1 y
   ·exact(f2 b hb).2.2.1 y
 ·obtain⟨hn,_,j,ej,es⟩:=xO e2
  have ex:fr[i-1]? =some y:=by
   rw[vh (show([x]:List Str).length<=i from hn)] at e1
   exact e1
  obtain⟨a0,j',a5,eN⟩:=B.fr _ y ex;have:j'=j:=by rw[ej] at a5;exact(qT a5).symm
  subst this;have a7:=B.free _ (vI a0) rfl;obtain⟨m0,_,hl⟩:=I.loc;obtain⟨u,r,l⟩:=hl j' y v eN es (by rcases a7 with z | z;exact .inr (.inl z);exact .inr (.inr z))
  refine⟨u,r,.inr ?_⟩
  have yx:y≠x:=fun z=>by
   have:=B.lk;rw[<- z,a0] at this;cases this
  rcases l with ⟨kl,_⟩ | ⟨_,c,ec,o,eo,ed⟩
  ·have a9:X.env.scope.names.lookup y=some .local:=kl
   rcases a7 with z | z
   ·exact absurd (z.symm.trans a9) (by decide)
   ·exact absurd (z.symm.trans a9) (by decide)
  ·obtain⟨k',e',z⟩:=x9 (env:=X.env) a0
   have eq:((x,C+1)::qy X.env.cells scope.names []).lookup y=some c:=by
    rw[jg,show(y==x)=false from by simpa using yx]
    show(qy X.env.cells scope.names []).lookup y=some c;rw[xo a0,ec];rfl
   refine⟨?_,c,eq,o,k4 c o (k3 c o eo),ed⟩
   rcases z with z | z
   ·subst z;exact .inl e'
   ·subst z;exact .inr e'
 ·rcases look _ _ e with ⟨T,O⟩ | ⟨T,O⟩
  ·rw[O];exact⟨none,a3⟩
  ·obtain⟨v,o,eo,ed⟩:=I.cell y c (zO O N)
   exact⟨v,o,k4 c o (k3 c o eo),ed⟩
 ·exact I3.hok.fresh (xJ hC.symm)
 ·rcases look _ _ e with ⟨T,O⟩ | ⟨T,O⟩
  ·rw[O]
   exact I3.hok.fresh (by show h3.objs.size<=C+1;rw[hC];exact vn _)
  ·exact I.freeC y c (zO O N)
 ·rw[Jd,<- B.len]
  show _=([x]++fr).length;rw[qz];rfl
end
end L2
namespace L2
end L2
namespace L2
open PySem PySem.W PySem.Spec PyProof.Rows
abbrev bmV:List Value:=[.type "ValueError",.type "Exception",.type "BaseException",.type "object"]
def zk1(K:Frag)(C:Addr)(g:Option Value):Bool:=match K.lookup C with
 | some ⟨.type "type",_,.cls c,s⟩=>(match c.mro with
  | .ref l::o=>(match s.toList with
   | [_,_,_,_,some (.builtin n),_]=>l==C&&(n == "ValueError.__new__" && (!c.hasDel&&(tailIn K bmV o&&(nsOkIn K c.ns&&nsIn K c.ns "__init__" == some g))))
   | _=>false)
  | _=>false)
 | _=>false
structure Xc(h:Heap)(C:Addr)(ini:Option Value):Prop where
 is:∃(bm:List Value) (N:Addr) (nm qn:Str) (bs:List Value) (hd:Bool) (sn:List Str) (sub:List Value) (ab:Bool) (col:Option Bool) (dd:Option Addr) (k0 k1 k2 k3 k5:Option Value) (mN:Str->Option Value),
  h.get? C=some (excClassObj nm qn C N bs bm hd sn sub ab col dd k0 k1 k2 k3 k5 "ValueError.__new__")/\h.Ns N mN/\mN "__init__" = ini/\OwnTail h bmV bm
end L2
namespace L2
open PySem PySem.W PySem.Spec PyProof.Rows
section
variable{P:Program}{w:World}{H:Hp}{h c:Heap}{a:Addr}{o:HO}
theorem ObjOk.has(x:ObjOk P w H h a o):∃u,h.get? a=some u:=by
 cases o with
 | lst l=>obtain⟨_,_,_,_,e⟩:=x;exact⟨_,e⟩
 | tup l=>obtain⟨_,_,_,⟨u,e,_⟩,_⟩:=x;exact⟨u,e⟩
 | dK g=>obtain⟨_,_,_,_,u,_,_,e,_⟩:=x;exact⟨u,e⟩
 | dT g=>obtain⟨_,_,_,_,u,_,_,e,_⟩:=x;exact⟨u,e⟩
 | set S n=>obtain⟨u,_,_,_,e,_⟩:=x;exact⟨u,e⟩
 | ins C s fs=>obtain⟨_,_,_,e,_⟩:=x;exact⟨_,e⟩
 | own y=>obtain⟨u,e⟩:=x;exact⟨u,e⟩
 | xd fs=>obtain⟨_,⟨u,_,_,e,_⟩,_⟩:=x;exact⟨u,e⟩
 | rng lo t=>obtain⟨_,_,_,e⟩:=x;exact⟨_,e⟩
 | frz A u=>obtain⟨e,_⟩:=x;exact⟨_,e⟩
 | tbl B=>exact⟨_,show h.get? a=some _ from x⟩
 | met f y=>exact⟨_,show h.get? a=some _ from x⟩
 | ext φ=>obtain⟨_,⟨u,e⟩,_⟩:=x;exact⟨u,e⟩
theorem HOk.none_of(x:HOk P w H h)(e:h.get? a=none):H a=none:=by
 cases q:H a with
 | none=>rfl
 | some u=>obtain⟨z,g⟩:=(x a u q).has;rw[e] at g;cases g
end
section
variable{X:Cx}{g:List (Addr×Obj)}{σ:St}{H:Hp}{s:Shared}{l:Heap}
theorem Inv.laidN{a:Addr}{o:HO}{t':Nat}(I:Inv X g σ H s)(k:∀b u,s.heap.get? b=some u->l.get? b=some u)(A:s.heap.get? a=none)(w:ObjOk X.prog X.w (upd H a o) l a o) :
  Inv X g σ (upd H a o) { s with heap:=l,toks:=t' }:=by
 have D:=I.hok.none_of A;have ne:∀b u,s.heap.get? b=some u->b≠a:=fun b u q z=>by rw[z,A] at q;cases q
 have t:∀b u,H b=some u->b≠a:=fun b u q z=>by rw[z,D] at q;cases q
 refine I.un ⟨fun b u q _ _ _=>k b u q,fun b u q _ _ _=>⟨u.slots,k b u q⟩,fun b u q n _=>by rw[zq (ne b u q)];exact n,fun b u q _=>⟨u,k b u q⟩,
  fun b B q=>by rw[zq (t b _ q)];exact q,fun b u B q=>by rw[zq (t b _ q)];exact q,fun b E q=>⟨#[],by rw[zq (t b _ q),q];simp⟩⟩ ?_
 intro b u e;by_cases hb:b=a
 ·subst hb;rw[ze] at e;cases e;exact w
 ·rw[zq hb] at e
  exact(I.hok b u e).stay (fun c v _ q=>k c v q) (fun c q=>by rw[zq (t c _ q)];exact q) fun c B q=>by rw[zq (t c _ q)];exact q
end
section
variable{c:Program}{w:World}{A:Around}{E:Value->Shared->Prop}{h:Heap}{g:Array GenState}{d:Drawn}{t:Nat}{os:OsState}{C:Addr}
end
section
variable{l:Program}{w:World}{A:Around}{E:Value->Shared->Prop}{h:Heap}{g:Array GenState}{d:Drawn}{t:Nat}{os:OsState}
variable{M q:Str}{C N:Addr}{B u:List Value}{c:Bool}{sn:List Str}{sub:List Value}{s:Bool}{o:Option Bool}{D:Option Addr}{G H I J L:Option Value}
end
end L2
namespace L2
open PySem PySem.W PySem.Spec PyProof.Rows
structure XK2(K:Frag)(C:Addr)(ini:Option Value):Prop where
 cls:zk1 K C ini=true
 sa:findIn K (.ref C) "__setattr__" = some (some (.builtin "object.__setattr__"))
 ga:findIn K (.ref C) "__getattribute__" = some (some (.builtin "BaseException.__getattribute__"))
 gh:findIn K (.ref C) "__getattr__" = some none
 ob:mroIn K C (.type "object")=some true
 be:mroIn K C (.type "BaseException")=some true
 hd:hasDictIn K C=true
section
variable{c:Program}{w:World}{A:Around}{E:Value->Shared->Prop}{h:Heap}{g:Array GenState}{d:Drawn}{t:Nat}{os:OsState}{K:Frag}{C e o:Addr}{l:Option Value}{f:Str}{v:Value}
end
end L2
namespace L2
open PySem PySem.W PySem.Spec PyProof.Rows
section
variable{c:Program}{w:World}{A:Around}{E:Value->Shared->Prop}{h:Heap}{g:Array GenState}{d:Drawn}{t:Nat}{os:OsState}{K:Frag}{C e B o:Addr}{u:Option Addr}{l:Option Value}{f:Str}{v:Value}{s:Str->Option Value}
end
end L2
namespace L2
open PySem PySem.W PySem.Spec PyProof.Rows
structure XKc(K:Frag)(C:Addr):Prop where
 lk:findIn K (.ref C) "__class__" = some (some (.builtin "object.__class__"))
 gt:specialIn K (.builtin "object.__class__") "__get__" = some (some (.builtin "getset_descriptor.__get__"))
 tk:takesIn K (.builtin "object.__class__")=some true
section
variable{c:Program}{w:World}{A:Around}{E:Value->Shared->Prop}{h:Heap}{g:Array GenState}{d:Drawn}{t:Nat}{os:OsState}{K:Frag}{C o e B:Addr}{s:Option Addr}{l:Option Value}{u:Option Obj}
end
end L2
namespace L2
open PySem PySem.W PySem.Spec PyProof.Rows
structure XOk(K:Frag)(C:Addr)(ini:Option Value):Prop where
 k:XK2 K C ini
 c:XKc K C
 kp:keepIn K (.ref C)=true
 ty:typeIn K (.ref C)=some (.type "type")
 cd:∃cd,clsIn K C=some cd
 ve:mroIn K C (.type "ValueError")=some true
section
variable{X:Cx}{w:CXT}{k:Nat}{f C:Addr}{D:FuncData}{G:List Str}{A:List Value}{l:List V}{H:Sp}{E:XK}{x m:Str}{p u g:Pos}{e o c:Expr}{B:List Expr}{t:TA}{I J:TE}{s:Option Value}
end
end L2
namespace L2
open PySem PySem.W PySem.Spec PyProof.Rows
section
variable{X:Cx}
end
structure Xs(K:Frag)(mg:Str->Option Value)(x:Str)(C:Addr)(ini:Option Value):Prop where
 ok:XOk K C ini
 gl:mg x=some (.ref C)
structure XsI(P:Program)(w:World)(K:Frag)(mg:Str->Option Value)(base:Heap)(x:Str)(C f:Addr)(k:Nat)(ps:List Str)(sp:Sp):Prop extends Xs K mg x C (some (.ref f)) where
 ex:∃fd oF,qA P w K mg base CX0 k f fd ps sp/\K.lookup f=some oF/\oF.cls=.type "function" /\ Binds K fd ps []
section
variable{X:Cx}{x:Str}{k:Nat}{C f:Addr}{l:List Str}{o:Sp}{p c:Pos}{e:Expr}{g:List Expr}{t:TA}
end
end L2
namespace L2
open PySem PySem.Spec PyProof.Rows
theorem XU:∀{g:List Value} {c:List Str},StrsAre g c->Vals (c.map V.str) g
 | _,_,.nil=>.nil
 | _,_,.cons n t r=>.cons ⟨t,rfl⟩ (XU r)
section
variable{X:Cx}
end
section
variable{g:Program}{w:World}{κ:Type}[DecidableEq κ]{c:PySem.KeyKind g w κ}{A:Around}{E:Value->Shared->Prop}{s:Shared}
theorem zez{d:Addr}{t:List (κ×Value)}{k:κ}{O dflt:Value}{Q:Value->Shared->Prop}(u:c.is k O=true)(hm:s.heap.DictOf c d t)(a6:t.length<=sizeLine)
  (H:∀v,valueAt t k=some v->Q v { s with toks:=s.toks+1 })
  (M:valueAt t k=none->∀h',h'.DictOf c d (stored t k dflt)->Heap.SameBut d s.heap h'->Q dflt { s with heap:=h',toks:=s.toks+1 }) :
  wpAny (model g w) A (dictSetDefault d O dflt) Q E s:=by
 obtain⟨o,B,ep,N,hc,hd,hk,hp,hn⟩:=id hm;obtain⟨o',a4,a3,G,-,J,-,hf⟩:=hm.mapOf;rw[N] at G;injection G with G;subst G;rw[hd] at J;injection J with a1 a5;subst a1;have a2:B.size<=sizeLine:=by
  have e1:=hp.length;have e2:B.toList.length=B.size:=by simp
  omega
 have U:(B.findIdx? fun Y=>c.is k Y.key)=t.findIdx? fun p=>decide (p.1=k):=by
  obtain⟨l⟩:=B;rw[<- hp.findIdx k];simp
 unfold dictSetDefault;refine jD (zf (c.pyHash u (zf (wpAny_dictFind_of (s:={ s with toks:=s.toks+1 }) u N hd hk ?_))))
 cases T:B.findIdx? fun Y=>c.is k Y.key with
 | some i=>
  have L:i<B.size:=(Array.findIdx?_eq_some_iff_findIdx_eq.mp T).1
  have D:valueAt t k=(B[i]?).map (·.val):=by rw[<- hf k,findBy_of_findIdx?,T]
  rw[xh L] at D;refine zf (wpAny_dictEntries (s:={ s with toks:=s.toks+1 }) N hd ?_)
  rw[xh L];exact zf (xS (zx (H _ D)))
 | none=>
  have fresh:k∉t.map (·.1):=not_mem_of_findIdx_none (U▸T)
  have I:¬(t.any fun kv=>decide (kv.1=k))=true:=fun z=>by
   obtain⟨kv,h1,h2⟩:=Qv.mp z;exact fresh (qr.mpr ⟨kv,h1,jy h2⟩)
  have D:valueAt t k=none:=by rw[<- hf k,findBy_of_findIdx?,T]
  have a0:stored t k dflt=t++[(k,dflt)]:=by rw[stored,zk I]
  refine zf (xS (zf (wpAny_updateDictKeys (s:={ s with toks:=s.toks+1 }) (hz:=a2) N hd (zx (M D _ ?_ (yC ..))))))
  rw[a0];refine⟨_,_,ep+1,xE _ N (Obj.isFreed_of_dict (Obj.data_mapDictKeys hd _)),hc.mapDictKeys _,Obj.data_mapDictKeys hd _,hk.push u _,?_,?_⟩
  ·have z:=hp.append u (c.hash k) dflt
   obtain⟨l⟩:=B;simpa using z
  ·rw[zQ,y6]
   refine⟨hn,by simp,fun a ha b hb z=>fresh ?_⟩
   rw[show List.map (·.1) [(k,dflt)]=[k] from rfl,zW] at hb
   rw[<- hb,<- z];exact ha
end
section
variable{c:Program}{w:World}{κ:Type}[DecidableEq κ]{knd:PySem.KeyKind c w κ}
theorem zfm{d:Addr}{k:κ}{l x:Value}(t:knd.is k l=true)(J:(d==sysModules)=false) :
  MeetsIn c w (Builtin.«dict.setdefault» ⟨[.ref d,l,x],[]⟩) (fun _ R s=>∃g,s.heap.DictOf knd d g/\g.length<=sizeLine/\(∀v,valueAt g k=some v->R (.ok (.ret v)) { s with toks:=s.toks+1 }) /\
   (valueAt g k=none->∀o,o.DictOf knd d (stored g k x)->Heap.SameBut d s.heap o->R (.ok (.ret x)) { s with heap:=o,toks:=s.toks+1 })):=
 .of_wp fun A R s ⟨g,E,L,G,H⟩=>by
  delta Builtin.«dict.setdefault» Builtin.Dict.keyAndDefault;refine zf (zf (wpAny_notOrdered_dict E.typeIs (zx (a:=(d,l,some x)) ?_)))
  have D:¬(d==sysModules)=true:=by rw[J];exact qU
  refine(show wpAny _ _ (if(d==sysModules)=true then _ else(dictSetDefault d l x >>= _)) _ _ _ from ?_)
  rw[zk D];exact zf (zez t E L (fun v hv=>zx ⟨v,rfl,G v hv⟩) fun I o u B=>zx ⟨x,rfl,H I o u B⟩)
end
section
variable{X:Cx}{t ty w:TE}{o e f:Expr}{c g:Pos}
def zlb(t ty w:TE):TE:=fun σ H Q=>t σ H fun x u=>∃a,x=.ref a/\IsD u a/\ty σ u fun y A=>w σ A fun z s=>∃l k,s a=some (.dK l)/\y=kV k/\l.length<sizeLine /\
 (∀v,qD l k=some v->Q v s)/\(qD l k=none->Q z (upd s a (.dK (jN l k z))))
theorem ziR(ho:PE X o t)(he:PE X e ty)(hf:PE X f w)(m:M2 X o "setdefault" c e f g):PE X (.Call (.Attribute o "setdefault" c) [e,f] [] g) (zlb t ty w):=by
 intro B s σ H Q I h;refine wpAny_Call_method m.base m.few m.line XD zf6 PySem.F.type_dict_setdefault (thn (ho B s σ H _ I h) fun u s1 ⟨x,H1,N,rx,a,ex,d,q1⟩=>?_)
 subst ex;obtain rfl:u=Value.ref a:=rx;obtain⟨t1,t2,_⟩:=Wf N d;refine⟨t1,t2,?_⟩
 rw[m.trees];refine QC rfl (WL (Zw (thn (he B s1 σ H1 _ N q1) fun iv s2 ⟨y,H2,I2,ry,q2⟩=>
  Zw (thn (hf B s2 σ H2 _ I2 q2) fun fv s3 ⟨z,H3,L,U,A,k,T,ey,l,g1,g2⟩=>Xv ?_))))
 subst ey;obtain⟨zz,hd,Y,D,O⟩:=YY L.hok T;have hz:Y.length<=sizeLine:=by rw[<- D.length];exact zz
 refine call_meetsIn zf6 O.typeIs PySem.F.entry_dict_setdefault (PySem.F.args_dict_setdefault_3 _ _ _) (zfm (knd:=zM X.prog X.w) (xc ry) hd) ⟨Y,O,hz,fun v hv=>?_,fun hn h' J hs=>?_⟩
 ·have E:=D.val k
  rw[hv] at E;cases G:qD A k with
  | none=>rw[G] at E;exact E.elim
  | some M=>
   rw[G] at E;exact⟨M,H3,L.tok _,E,g1 M G⟩
 ·have E:=D.val k
  rw[hn] at E;have G:qD A k=none:=by
   cases G:qD A k with
   | none=>rfl
   | some M=>rw[G] at E;exact E.elim
  have hl:(jN A k z).length<=sizeLine:=by have:=xR A k z;omega
  have ee:∃q,h'.get? a=some q:=let ⟨q,_,_,hq,_⟩:=J;⟨q,hq⟩
  exact⟨z,_,Jo L (by rw[T];exact True.intro) hs ee (Xb hl hd (D.put k U) J),U,g2 G⟩
end
theorem zfx{P:Program}{w:World}{k:Key}{u:Value}(h:(zM P w).is k u=true):RelV (kV k) u:=by
 rw[zaA] at h;rcases qS h with ⟨i,t,rfl,rfl⟩ | ⟨x,t,rfl,rfl⟩
 ·exact⟨t,rfl⟩
 ·exact⟨t,rfl⟩
theorem KV.get:∀{c:List (Key×V)} {g:List (Key×Value)} {j:Nat} {q:Key×Value},KV c g->g[j]? =some q->∃p,c[j]? =some p/\p.1=q.1/\RelV p.2 q.2
 | _,_,j,_,.nil,e=>by simp at e
 | _,_,0,_,.cons h _,e=>by simp at e;subst e;exact⟨_,rfl,h⟩
 | _,_,j+1,_,.cons _ t,e=>by
  obtain⟨p,e1,r⟩:=KV.get (j:=j) t (by simpa using e)
  exact⟨p,by simpa using e1,r⟩
theorem zbp:∀{g:List V} {c:List Value},g.length=c.length->(∀(j:Nat) u,c[j]? =some u->∃x,g[j]? =some x/\RelV x u)->Vals g c
 | [],[],_,_=>.nil
 | [],_::_,h,_=>by simp at h
 | _::_,[],h,_=>by simp at h
 | x::g,u::c,h,f=>by
  refine .cons ?_ (zbp (by simpa using h) fun j v e=>?_)
  ·obtain⟨y,e1,r⟩:=f 0 u rfl
   cases e1;exact r
  ·obtain⟨y,e1,r⟩:=f (j+1) v (by simpa using e)
   exact⟨y,by simpa using e1,r⟩
section
variable{X:Cx}
end
section
variable{X:Cx}{l ty:TE}{o e:Expr}{c g:Pos}
end
section
variable{X:Cx}
end
section
variable{X:Cx}{c:Expr}
def zlk(K:W.Frag)(o:TE):TI:=fun σ H R=>o σ H fun x g=>∃a,x=.ref a/\(((∃l,SqL K g a l)/\R (Itl K a) g)\/((∃l,SqT K g a l)/\R (Itt K a) g))
theorem ziK{l:Expr}{B:TE}(D:PE X l B):PI X c l (zlk X.K B):=by
 intro u s σ H R I h;refine thn (D u s σ H _ I h) fun v s1 ⟨x,w,g,J,G⟩=>?_
 obtain⟨a,e,q⟩:=G;subst e;cases J;have A:∀b∈[s1.heap.objs.size],_:=fun b hb=>by
  have e:b=s1.heap.objs.size:=by simpa using hb
  subst e;exact g.fpOk (zD _) (g.hok.fresh (zD _))
 rcases q with ⟨⟨N,hq⟩,q⟩ | ⟨⟨N,hq⟩,q⟩
 ·obtain⟨t,L,p,E⟩:=g.list hq
  refine wpAny_pyIter_list p.isList ⟨s1.heap.objs.size,[s1.heap.objs.size],_,_,w,rfl,g.kept (t':=s1.toks) fun b o e=>zN _ e,XY a _,⟨_,zL _ rfl,rfl,rfl⟩,?_,q⟩
  exact A
 ·obtain⟨t,L,p,E⟩:=g.tuple hq
  refine wpAny_pyIter_tuple (show s1.heap.IsTuple a t.toArray from p) ⟨s1.heap.objs.size,[s1.heap.objs.size],_,_,w,rfl,g.kept (t':=s1.toks) fun b o e=>zN _ e,Js a _,⟨_,zL _ rfl,rfl,rfl⟩,?_,q⟩
  exact A
end
open Sem (wp)
theorem Wb:typeLookup (.type "list") "keys" = pure none:=by rw[typeLookup_type,builtinLookup_eq_fast];kernel_rfl
theorem Wc:typeLookup (.type "list") "__getattr__" = pure none:=by rw[typeLookup_type,builtinLookup_eq_fast];kernel_rfl
theorem Z6:isSubtype (.type "AttributeError") (.type "AttributeError")=pure true:=by rw[isSubtype_type];kernel_rfl
section
variable{c:Program}{w:World}{A:Around}{E:Value->Shared->Prop}{s:Shared}
theorem zao{α:Type}{M:Model}{o:Value}{l g:Str}{Q:α->Shared->Prop}(B:A.handled=none)(D:g.length<=sizeLine)
  (hq:∀t G e,(∀b p,s.heap.get? b=some p->t.get? b=some p)->(∃u,t.get? e=some u/\u.cls=.type "AttributeError")->E (.ref e) { s with heap:=t,toks:=G }) :
  wpAny M A (raiseAttrError o l g:Sem α) Q E s:=by
 unfold raiseAttrError newExc newTuple;refine zf (wpAny_mkStr (zf (zf (jY (zf (m:=firstArgMember _ _) (yD (a:=Value.none) (by simp only[firstArgMember];rfl) (jY ?_)))))) D)
 refine zf (wpAny_mkText (zf (show wpAny _ _ (noteAttr _ _ _) _ _ _ from ?_)))
 unfold noteAttr;dsimp only;unfold lacksNameAndObj;refine zf (zf (yz (T:= "AttributeError") ⟨_,zL _ rfl,rfl⟩ Z6 ?_))
 refine zf (wpAny_load (zL _ rfl) ?_)
 refine zx ?_
 refine zf (xS (zf (Zn (T:= "AttributeError") ⟨_,zL _ rfl,rfl⟩ ?_)))
 refine wpAny_layMembers (zL _ rfl) rfl ?_
 unfold raiseNew;refine zf (wpAny_handled ?_);rw[B];refine zf (zx (Qn ?_))
 refine hq _ _ _ (fun b p e=>?_) ⟨_,xE _ (zL _ rfl) (Obj.isFreed_of_fields (za0 rfl _)),Obj.cls_mapFields _ _⟩
 rw[x6 _ _ (jH (jz (zH e) (by simp)))]
 exact zN _ (zN _ e)
end
section
variable{c:Program}{w:World}{A:Around}{E:Value->Shared->Prop}{h:Heap}{g:Array GenState}{d:Drawn}{t:Nat}{os:OsState}{a:Addr}{n:Nat}{l:Array Value}
theorem Q7{D:Tok}{Q:Fin->Shared->Prop}(u:A.handled=none)(hx:h.get? a=some { cls:=.type "list",data:=.seq l n })
  (hq:∀o B e,(∀b p,h.get? b=some p->o.get? b=some p)->(∃s,o.get? e=some s/\s.cls=.type "AttributeError")->E (.ref e) ⟨o,g,d,B,os⟩) :
  wpAny 0#e A (Builtin.«object.__getattribute__» ⟨[.ref a,.str "keys" D],[]⟩) Q E ⟨h,g,d,t,os⟩:=by
 have H:(⟨h,g,d,t,os⟩:Shared).TypeIs (.ref a) "list" :=⟨_,hx,rfl⟩;have G:=Wb;repeat(any_goals (first| assumption | wp_step))
 refine zao u ?_ hq
 rw[sizeLine_eq];decide +kernel
theorem J3{D:Tok}{R:Result->Shared->Prop}(u:A.handled=none)(hx:h.get? a=some { cls:=.type "list",data:=.seq l n })
  (hq:∀o B e,(∀b p,h.get? b=some p->o.get? b=some p)->(∃s,o.get? e=some s/\s.cls=.type "AttributeError")->R (.error (.ref e)) ⟨o,g,d,B,os⟩) :
  codeAny 0#e A (.call (.builtin "list.__getattribute__") ⟨[.ref a,.str "keys" D],[]⟩) R ⟨h,g,d,t,os⟩:=
 codeAny_call_builtin WQ.plain F.entry_list_ga (WQ.check _ _ _ _ _ _ _ _ (show(⟨h,g,d,t,os⟩:Shared).TypeIs (.ref a) "list" from ⟨_,hx,rfl⟩) (F.args_list_getattribute_2 _ _) (Q7 u hx hq))
theorem We{G:Tok}{Q:Value->Shared->Prop}(D:A.handled=none)(hx:h.get? a=some { cls:=.type "list",data:=.seq l n })
  (hq:∀o u e,(∀b p,h.get? b=some p->o.get? b=some p)->(∃s,o.get? e=some s/\s.cls=.type "AttributeError")->E (.ref e) ⟨o,g,d,u,os⟩):wpAny 0#e A (getAttrBy (.ref a) (.str "keys" G) false) Q E ⟨h,g,d,t,os⟩:=by
 have J:(⟨h,g,d,t,os⟩:Shared).TypeIs (.ref a) "list" :=⟨_,hx,rfl⟩;have H:=WQ.lookup;have I:=WQ.bind (.ref a);repeat(any_goals (first| assumption | wp_step))
 refine J3 D hx fun o u e k ⟨s,B,hc⟩=>?_
 dsimp only;unfold getattributeRaised;refine zf (yz (T:= "AttributeError") ⟨_,B,hc⟩ Z6 ?_)
 rw[zu rfl];unfold hookBehind;refine zf ?_
 rw[zk (by decide)]
 refine yD Wc ?_
 unfold hookOrError attributeErrorLeaves;dsimp only;rw[zu (show(!false)=true from rfl)]
 first
  | exact Qn (hq o u e k ⟨s,B,hc⟩)
  | exact zf (Qn (hq o u e k ⟨s,B,hc⟩))
theorem J4{Q:Option Value->Shared->Prop}(u:A.handled=none)(hx:h.get? a=some { cls:=.type "list",data:=.seq l n })
  (hq:∀o s,(∀b p,h.get? b=some p->o.get? b=some p)->Q none ⟨o,g,d,s,os⟩):wpAny 0#e A (getAttr? (.ref a) "keys") Q E ⟨h,g,d,t,os⟩:=by
 unfold getAttr? getAttrBy?;refine zf (wpAny_mkText (zf (yF (We u hx fun o s e k ⟨D,B,hc⟩=>?_))))
 dsimp only;refine zf (yz (T:= "AttributeError") ⟨_,B,hc⟩ Z6 ?_)
 rw[zu rfl];exact zx (hq o s k)
end
end L2
namespace L2
open PySem PySem.Spec PyProof.Rows
theorem y4:entryFor table "dict.update.loop" = some Builtin.«dict.update.loop»:=entryFor_of_tree (by kernel_rfl)
theorem xM:plainId "dict.update.loop" = true:=by decide +kernel
theorem YG{K:Type}[DecidableEq K](c more:List (K×Value))(i:Nat)(g:K×Value)(h:more[i]? =some g):merged (stored c g.1 g.2) (more.drop (i+1))=merged c (more.drop i):=by
 obtain⟨l,o⟩:=zU.mp h;rw[zfY l,o];rfl
section
variable{c:Program}{w:World}{K:Type}[DecidableEq K]{knd:KeyKind c w K}{A:Around}{R:Result->Shared->Prop}{it l D:Addr}{items:Array Value}{pairs:List (K×Value)}{res:Value}
theorem zhb(hh:A.handled=none)(O:l≠it)(Q:l≠D)(G:it≠D)(a0:pairs.length=items.size) :
  ∀(m:Nat) (s:Shared) (i:Nat) (g:List (K×Value)),items.size-i=m->i<=items.size->s.heap.IsListIter it l i->s.heap.IsList l items->s.heap.DictOf knd D g->g.length+m<=sizeLine ->
   (∀(j:Nat) (u:Value),items[j]? =some u->∃(T:Addr) (k:K) (t v:Value),u=.ref T/\T≠it/\T≠D/\IsTup s.heap T #[t,v]/\knd.is k t=true/\pairs[j]? =some (k,v)) ->
   (∀E tk,E.DictOf knd D (merged g (pairs.drop i))->(∀b o,b≠it->b≠D->s.heap.get? b=some o->E.get? b=some o)->R (.ok (.ret res)) { s with heap:=E,toks:=tk }) ->
   codeAny 0#e A (.builtin "dict.update.loop" ⟨[.ref D,.ref it,.int i 0,res],[]⟩) R s:=by
 intro m;induction m with
 | zero=>
  intro s i g hm hi Y L M hz U q;have H:items[i]? =none:=by simp;omega
  refine codeAny_builtin y4 ?_
  rw[wQ xM _];show wpAny _ A.in1 (pyNext (.ref it) >>= _) _ _ s;refine zf (wpAny_pyNext_list_end hh Y L H fun E hx=>?_)
  show wpAny _ _ (Builtin.Dict.addKeywords D [] >>= _) _ _ _;refine zf (zx (zx ?_))
  have e0:merged g (pairs.drop i)=g:=by rw[List.drop_eq_nil_of_le (by omega)];rfl
  have:=q E s.toks (by rw[e0];exact M.extBut hx (zG G)) (fun b o hb _ e=>?_)
  ·exact this
  ·exact hx b o hb e
 | succ m ih=>
  intro s i g hm hi Y L M hz U q;have I:i<items.size:=by omega
  obtain⟨u,hu⟩:∃u,items[i]? =some u:=⟨_,xh I⟩;obtain⟨T,k,t,v,rfl,nT,nD,tT,kk,ep⟩:=U i u hu;refine codeAny_builtin y4 ?_
  rw[wQ xM _];show wpAny _ A.in1 (pyNext (.ref it) >>= _) _ _ s;refine zf (wpAny_pyNext_list_item Y L hu fun h1 i1 s1=>?_)
  dsimp only;refine zf (jD (zf ?_))
  obtain⟨oT,eT,cT,nn,dT⟩:=tT;have k1:∀b o,b≠it->s.heap.get? b=some o->h1.get? b=some o:=fun b o hb e=>(s1.2 b hb).trans e
  have N:({ s with heap:=h1 }:Shared).TypeIs (.ref T) "tuple" :=⟨_,k1 _ _ nT eT,cT⟩;show wpAny _ _ (tryCatch (Builtin.Dict.pairItems (.ref T)) _) _ _ _;refine vT ?_
  unfold Builtin.Dict.pairItems;refine zf (Zn N ?_)
  rw[zu (show(Value.type "tuple" == Value.type "list" || Value.type "tuple" == Value.type "tuple")=true by decide)]
  refine zf (jO (k1 _ _ nT eT) dT (zx ?_))
  show wpAny _ _ (holding [t,v] (dictSet D t v)) _ _ _;refine jD (wpAny_dictSet_pairs kk (M.sameBut s1 (zG G)) (hsz:=by omega) fun h2 d2 s2=>?_)
  refine zx ⟨plainId_quiet xM _,?_⟩
  have k2:∀b o,b≠it->b≠D->s.heap.get? b=some o->h2.get? b=some o:=fun b o hb B e=>(s2.2 b B).trans (k1 b o hb e)
  have lst:(stored g k v).length<=g.length+1:=stored_length_le g k v;have:=ih { s with heap:=h2,toks:=s.toks+1 } (i+1) (stored g k v) (by omega) I (i1.at fun o e=>(s2.2 it G).trans e) (L.at fun o e=>k2 l o O Q e) d2 (by omega)
   (fun j u hj=>by
    obtain⟨T',k',J,v',z1,z2,z3,z4,z5,z6⟩:=U j u hj;obtain⟨o',e',r'⟩:=z4;exact⟨T',k',J,v',z1,z2,z3,⟨o',k2 _ _ z2 z3 e',r'⟩,z5,z6⟩)
   (fun E tk d' kp=>q E tk (by rw[<- YG g pairs i (k,v) ep];exact d') fun b o hb B e=>kp b o hb B (k2 b o hb B e))
  exact this
end
def zjs:Obj:={ cls:=.type "dict",data:=.dict #[] }
theorem XJ:(Value.type "list" != Value.type "dict")=true:=by decide
section
variable{c:Program}{w:World}{K:Type}[DecidableEq K]{knd:KeyKind c w K}{A:Around}{E:Value->Shared->Prop}{s:Shared}
theorem Q9{l:Addr}{items:Array Value}{n:Nat}{pairs:List (K×Value)}{Q:Value->Shared->Prop}(hh:A.handled=none)(J:s.heap.get? l=some { cls:=.type "list",data:=.seq items n })(H:pairs.length=items.size)(N:items.size<=sizeLine)
  (ht:∀(j:Nat) (u:Value),items[j]? =some u->∃(T:Addr) (k:K) (g v:Value),u=.ref T/\IsTup s.heap T #[g,v]/\knd.is k g=true/\pairs[j]? =some (k,v))
  (h:∀G tk,G.DictOf knd s.heap.objs.size (merged [] pairs)->(∀b o,s.heap.get? b=some o->G.get? b=some o)->Q (.ref s.heap.objs.size) { s with heap:=G,toks:=tk }) :
  wpAny 0#e A (call (.type "dict") [.ref l]) Q E s:=by
 have M:(s.heap.push zjs).DictOf knd s.heap.objs.size []:=.new s.heap;have t:=zN zjs J;refine callType_codes (Q₁:=fun u s1=>u=.ref s.heap.objs.size/\s1={ s with heap:=s.heap.push zjs }) F.kt_called_dict (F.kt_typeCall_dict_1 _) F.entry_dict_init (kt_code_dict_new _ ⟨rfl,rfl⟩) fun u s1 e=>?_
 obtain⟨eu,es⟩:=e;subst eu es;refine⟨M.typeIs,F.args_dict_init_2 _ _,?_⟩
 show wpAny _ _ (Builtin.Dict.selfAndRest _ _ >>= fun x=>Builtin.Dict.updateCommon _ _ x.1 x.2 _) _ _ _
 refine zf (zf (wpAny_notOrdered_dict M.typeIs ?_))
 refine zx (show wpAny _ _ (Builtin.Dict.updateFrom "dict.__init__" s.heap.objs.size (.ref l) [] .none) _ _ _ from ?_)
 refine zf (Zn (T:= "list") ⟨_,t,rfl⟩ ?_)
 rw[zu XJ];refine zf (J4 hh t fun I t1 L=>?_)
 rw[zu (show(none:Option Value).isNone=true from rfl)]
 refine zf (xS (zf (wpAny_pyIter_list ⟨_,L _ _ t,rfl,n,rfl⟩ ?_)))
 have dD:=M.keep L;have Y:=zH J;obtain⟨oD,_,_,eD,_⟩:=id dD;have U:=zH eD;have O:∀b o,s.heap.get? b=some o->(I.push { cls:=.type "list_iterator",data:=.fields #[.ref l,.int 0 0] }).get? b=some o:=fun b o e=>zN _ (L _ _ (zN _ e))
 have B:∀b o,s.heap.get? b=some o->b<I.objs.size:=fun b o e=>zH (L _ _ (zN _ e))
 refine zx ⟨plainId_quiet xM _,?_⟩
 refine zhb (knd:=knd) (s:=⟨I.push { cls:=.type "list_iterator",data:=.fields #[.ref l,.int 0 0] },s.gens,s.drawn,t1,s.os⟩) (l:=l) (it:=I.objs.size) (D:=s.heap.objs.size) (items:=items) (pairs:=pairs) (A:=A.in1) (res:=.none) hh (zP (B _ _ J)) (zP Y) (jH U) H items.size 0 [] rfl (qB _) ⟨_,zL _ rfl,rfl,rfl⟩ ⟨_,O _ _ J,rfl,n,rfl⟩ (dD.push _) (by simpa using N) (fun j u hj=>?_) (fun G tk d' kp=>?_)
 ·obtain⟨T,k,g,v,rfl,⟨o,e,r⟩,z,y⟩:=ht j u hj
  exact⟨T,k,g,v,rfl,zP (B _ _ e),zP (zH e),⟨o,O _ _ e,r⟩,z,y⟩
 ·exact⟨rfl,h G tk (by simpa using d') fun b o e=>kp b o (zP (B _ _ e)) (zP (zH e)) (O _ _ e)⟩
end
def PrsL(H:Hp)(g:List V)(c:List (Key×V)):Prop:=g.length=c.length/\∀(j:Nat) (x:V),g[j]? =some x->∃(T:Addr) (k:Key) (v:V),x=.ref T/\H T=some (.tup [kV k,v])/\c[j]? =some (k,v)
theorem PrsL.nil{H:Hp}:PrsL H [] []:=⟨rfl,fun j x e=>by simp at e⟩
theorem zh8:∀{c:List (Key×V)} {g:List (Key×Value)},c.length=g.length->(∀(j:Nat) p,g[j]? =some p->∃q,c[j]? =some q/\q.1=p.1/\RelV q.2 p.2)->KV c g
 | [],[],_,_=>.nil
 | [],_::_,h,_=>by simp at h
 | _::_,[],h,_=>by simp at h
 | x::o,u::l,h,f=>by
  refine .cons ?_ (zh8 (by simpa using h) fun j v e=>?_)
  ·obtain⟨y,e1,r⟩:=f 0 u rfl
   cases e1;exact r
  ·obtain⟨y,e1,r⟩:=f (j+1) v (by simpa using e)
   exact⟨y,by simpa using e1,r⟩
theorem QO{α β:Type}:∀(P:Nat->α->β->Prop) (l:List α),(∀j u,l[j]? =some u->∃b,P j u b)->∃g:List β,g.length=l.length/\∀j u,l[j]? =some u->∃b,g[j]? =some b/\P j u b
 | _,[],_=>⟨[],rfl,fun j u e=>by simp at e⟩
 | P,x::l,f=>by
  obtain⟨b,hb⟩:=f 0 x rfl;obtain⟨g,o,s⟩:=QO (fun j=>P (j+1)) l fun j u e=>f (j+1) u (by simpa using e)
  refine⟨b::g,by simp[o],fun j u e=>?_⟩
  cases j with
  | zero=>simp at e;subst e;exact⟨b,rfl,hb⟩
  | succ j=>
   obtain⟨c,t,w⟩:=s j u (by simpa using e)
   exact⟨c,by simpa using t,w⟩
theorem Vals.at:∀{c:List V} {g:List Value} {i:Nat} {u:Value},Vals c g->g[i]? =some u->∃x,c[i]? =some x/\RelV x u:=fun {c g i u} r e=>by
 have l:=Vals.length r;have h:=(zU.mp e).1;obtain⟨v,e1,o⟩:=r.get (i:=i) (x:=c[i]'(by omega)) (qg _)
 rw[e] at e1;cases e1;exact⟨_,qg _,o⟩
section
variable{X:Cx}
inductive Z3(g:List V)(H:Hp)(Q:VK):Prop
 | mk (a:Addr) (l:List V) (c:List (Key×V)) (_:g=[.ref a]) (_:H a=some (.lst l)) (_:PrsL H l c) (_:∀p,H p=none->Q (.ref p) (upd H p (.dK (jM [] c)))):Z3 g H Q
theorem zaJ(hh:X.A.handled=none):jE X (.type "dict") (Z3):=by
 intro L s σ H xs us Q I r h;obtain⟨a,ys,l,rfl,hx,M,q⟩:=h;obtain⟨u,rfl,ru⟩:=u9 r;cases(show u=Value.ref a from ru)
 obtain⟨zz,t,n,w,hl⟩:=(show ObjOk X.prog X.w H s.heap a (.lst ys) from I.hok a _ hx)
 have ln:=w.length;have kn:=M.1;have A:∀(j:Nat) (u:Value),t[j]? =some u->∃(T:Addr) (k:Key) (g v:Value) (y:V),u=.ref T/\IsTup s.heap T #[g,v]/\(zM X.prog X.w).is k g=true/\l[j]? =some (k,y)/\RelV y v:=fun j u G=>by
  obtain⟨x,ex,rx⟩:=Vals.at w G;obtain⟨T,k,v,rfl,U,Y⟩:=M.2 j x ex;cases(show u=Value.ref T from rx)
  obtain⟨_,ts,rt,it,_⟩:=(show ObjOk X.prog X.w H s.heap T (.tup [kV k,v]) from I.hok T _ U)
  obtain⟨u1,u2,rfl,r1,E⟩:=Vals.two rt;exact⟨T,k,u1,u2,v,rfl,it,xc r1,Y,E⟩
 obtain⟨N,lp,J⟩:=QO (fun j u (p:Key×Value)=>∃(T:Addr) (g:Value) (y:V),u=.ref T/\IsTup s.heap T #[g,p.2]/\(zM X.prog X.w).is p.1 g=true/\l[j]? =some (p.1,y)/\RelV y p.2) t fun j u e=>by
  obtain⟨T,k,g,v,y,a,b,c,d,f⟩:=A j u e;exact⟨(k,v),T,g,y,a,b,c,d,f⟩
 have kv:KV l N:=zh8 (by omega) fun j p e=>by
  have G:=(zU.mp e).1;obtain⟨b,e1,T,g,y,_,_,_,e2,E⟩:=J j _ (qg (by omega))
  rw[e] at e1;cases e1;exact⟨_,e2,rfl,E⟩
 have mg:(jM [] l).length<=sizeLine:=by
  have:=vO l [];rw[Zr] at this;omega
 have hn:H s.heap.objs.size=none:=I.hok.fresh (zD _);refine Q9 (knd:=zM X.prog X.w) (pairs:=N) (items:=t.toArray) hh hl (by simp[lp]) (by simp;omega) (fun j u e=>?_) fun h' tk O kp=>?_
 ·rw[List.getElem?_toArray] at e
  obtain⟨p,e1,T,g,y,a,b,c,d,f⟩:=J j u e;exact⟨T,p.1,g,p.2,a,b,c,e1⟩
 ·have ns:(s.heap.objs.size==sysModules)=false:=beq_eq_false_iff_ne.mpr (jH I.big)
  exact⟨.ref s.heap.objs.size,_,I.laid (a:=s.heap.objs.size) (o:=.dK (jM [] l)) (t':=tk) kp (zD _) (Xb mg ns (KV.merge kv .nil) O),rfl,q _ hn⟩
end
section
variable{X:Cx}{w L t:Expr}{A:List Expr}{scope:Scope}{E:Pos}{Y:TI}{g:TG}{U:TT}{M:TE}{x:Str}
theorem ziC{yt:Str}{G ac:Pos}{g2:TG}(fr:List Str)(js:List Nat)(hc:X.calm=true)(hk:scope.kind=.function)(hb:Ql scope.names X.env.scope.names X.N x fr js=true)(hi:PI X L t Y)
  (hg:∀C s H ex,PG (qh X ([x]++fr) scope x C s H ex) L g) (hf:∀C s H ex,PF (qh X ([x]++fr) scope x C s H ex) A U) (he:∀C s H ex,PE (qh X ([x]++fr) scope x C s H ex) w M)
  (b9:PG X (.Name yt G) g2) (bc:swapsWith (.ListComp w [⟨L,t,A,0⟩] scope E) (some (.Name yt G)) ac.line X.env=pure true:=by rfl)
  (hs:∀x,foldedSetIterable t X.env x=pure x:=by intro _;rfl):PS X (.Assign [.Name yt G] (.ListComp w [⟨L,t,A,0⟩] scope E) ac) (zc9 (tLC Y 1 js g U M) g2):=by
 intro a1 s σ H Dn I h;have B:=yX hb;have a8:∀y∈scope.names,y.2=NameKind.free->∃c,X.env.cells.lookup y.1=some c:=fun y hy e=>I.ok.has y.1 (B.free y hy e)
 rw[exec_Assign_Name_used _ _ _ _ bc];refine zf (wF (zf ?_))
 show wpAny _ X.A (do let _<-comprehension (.ListComp w [⟨L,t,A,0⟩] scope E) scope X.env _ (newList []) false (eval t X.env) (some (assign (.Name yt G) X.env))) _ _ s
 refine zf (jt (wpAny_comprehension_free (use:=some (assign (.Name yt G) X.env)) (Q:=fun _ s'=>∃σ' H',Inv X a1 σ' H' s'/\Dn.nx σ' H') rfl hs (Jp a8) hk (fun y hy e=>B.loc y hy e) (thn (hi a1 s σ H _ I h) fun v s1 h1=>thn h1 fun bp s2 h2=>?_)) (fun _ s' hq=>zx (zx hq)) fun _ _ e=>e)
 obtain⟨it,fp,tn,J,H2,e,I2,T,ai,f2,W,⟨m0,w0⟩,az⟩:=h2;subst e;have fl:∀b∈fp,b<s2.heap.objs.size:=fun b hb=>let ⟨o,e,_⟩:=T.obj _ _ ai b hb;zH e
 refine jY (JT B.one ?_)
 dsimp only;generalize e3:s2.heap.push { cls:=.type "list",dict:=none,data:=.seq ([]:List Value).toArray }=h3;have ar:((h3.push { cls:=.type "dict",data:=.dict #[] }).push { cls:=.type "cell",data:=.cell none }).Ns h3.objs.size (fun _=>none):=(Heap.Ns.new h3 (.type "dict")).keeps fun b o e=>zN _ e
 have a3:((h3.push { cls:=.type "dict",data:=.dict #[] }).push { cls:=.type "cell",data:=.cell none }).IsCell (h3.objs.size+1) none:=⟨_,by have:=zL (h3.push { cls:=.type "dict",data:=.dict #[] }) (o:={ cls:=.type "cell",data:=.cell none }) rfl;rwa[qJ] at this,rfl⟩
 have k4:∀b o,h3.get? b=some o->((h3.push { cls:=.type "dict",data:=.dict #[] }).push { cls:=.type "cell",data:=.cell none }).get? b=some o:=fun b o e=>zN _ (zN _ e)
 generalize (h3.push { cls:=.type "dict",data:=.dict #[] }).push { cls:=.type "cell",data:=.cell none }=h1 at ar a3 k4;have k3:∀b o,s2.heap.get? b=some o->h3.get? b=some o:=fun b o e=>by rw[<- e3];exact zN _ e
 have I4:Inv (qh X ([x]++fr) scope x h3.objs.size { s2 with heap:=h3 } H2 (s2.heap.objs.size::fp)) [] (upS 1 js σ) H2 { s2 with heap:=h1 }:=
  zaM fr js I2 B hk f2 fl rfl e3.symm rfl ar a3 k4
 have I3:Inv X a1 σ H2 { s2 with heap:=h3 }:=I2.kept (t':=s2.toks) k3;have hz:h3.objs.size=s2.heap.objs.size+1:=by rw[<- e3,qJ]
 have a5:s2.heap.objs.size≠h3.objs.size:=by rw[hz];exact zP (xg _)
 have an:h1.get? s2.heap.objs.size=some { cls:=.type "list",data:=.seq ([]:List Value).toArray }:=k4 _ _ (by rw[<- e3];exact zL _ rfl)
 have ak:=(I3.fpOk (b:=h3.objs.size) (zD _) (I3.hok.fresh (zD _))).2;generalize eD:s2.heap.objs.size=D at *
 generalize eC:h3.objs.size=C at *
 have fD:∀b∈fp,D≠b:=fun b hb=>jH (fl b hb)
 have look:∀y c,((x,C+1)::qy X.env.cells scope.names []).lookup y=some c->c=C+1\/X.env.cells.lookup y=some c:=fun y c e=>by
  rw[jg] at e;by_cases q:(y==x)=true
  ·rw[q] at e
   exact .inl (qT e).symm
  ·rw[(Xq _).mp q] at e
   exact .inr (zO e a8)
 have hx:∀y c,((x,C+1)::qy X.env.cells scope.names []).lookup y=some c->c≠D:=fun y c e=>by
  rcases look y c e with z | z
  ·rw[z,hz];exact jH (xt (xg _))
  ·obtain⟨v,q⟩:=I2.cell y c z
   rw[<- eD];exact zP q.lt
 have bd:∀b∈fp,∀y c,((x,C+1)::qy X.env.cells scope.names []).lookup y=some c->c≠b:=fun b hb y c e=>by
  rcases look y c e with z | z
  ·rw[z,hz];exact jH (xt (xt (fl b hb)))
  ·exact(f2 b hb).2.2.2.2.1 y c z
 have ax:∀b∈D::fp,b∉frs X.stack:=I4.ok.exfs;have b3:∀{a0:List 0#l} {H':Hp} {b:Addr},b∈fp->H' b=none->(∀p∈a0,p.1≠b)->jZ 0#h a0 H' b:=fun {a0 H' b} hb hn hp=>
  ⟨hn,(I4.ok.exf b (z9 _ hb)).1,ax b (z9 _ hb),.inl (z9 _ hb),fun x c e=>bd b hb x c e,fun p h=>hp p (by simpa using h)⟩
 have b4:∀{a0:List 0#l} {H':Hp},H' D=none->(∀p∈a0,p.1≠D)->jZ 0#h a0 H' D:=fun {a0 H'} hn hp=>
  ⟨hn,a5,ax D jK,.inl jK,fun x c e=>hx x c e,fun p h=>hp p (by simpa using h)⟩
 have aa:∀s4:Shared,s4={ s2 with heap:=h1 } ->
   codeAny 0#b X.A (.compLoop (.ListComp w [⟨L,t,A,0⟩] scope E) 0 (.ref it) (.ref D) (compEnvC scope ((x,C+1)::qy X.env.cells scope.names []) C X.env))
    (compPost 0#b X.A X.xe (some (assign (.Name yt G) X.env)) (fun _ s'=>∃σ' H',Inv X a1 σ' H' s'/\Dn.nx σ' H') (.ref D) C) s4:=by
  intro s4 e4;refine Xh (fun n s'=>∃i ys a2 H',∃z:Nat,Inv 0#h [] (upS 1 js σ) H' s'/\tn i s'.heap/\(∀b∈fp,H' b=none)/\H' D=none /\
   s'.heap.get? D=some { cls:=.type "list",data:=.seq (a2:List Value).toArray z }/\Vals ys a2/\W i n ys H') ?_ m0 ?_
  ·rintro n s5 ⟨i,ys,a2,H5,z5,I5,ay,al,b7,au,a6,w5⟩
   have aj:=I5.pinned (fp:=[D]) (fun b hb=>by rw[zW.mp hb];exact b4 b7 (fun p hp=>absurd hp (by simp))) (fun b hb=>by
    rw[zW.mp hb];exact⟨_,au,fun v q=>nomatch q⟩)
   have pD:∀p∈[]++zX [D] s5.heap,p.1=D:=fun p hp=>by
    rw[Qr] at hp;exact zW.mp (v0 hp).1
   have mD:(D,({ cls:=.type "list",data:=.seq a2.toArray z5 }:Obj))∈[]++zX [D] s5.heap:=by
    rw[Qr];exact qP (zW.mpr rfl) au
   have ag:∀{H':Hp},(∀b∈fp,H' b=none)->∀b∈fp,jZ 0#h ([]++zX [D] s5.heap) H' b:=fun hn b hb=>b3 hb (hn b hb) fun p hp=>by
    rw[pD p hp];exact fD b hb
   rcases az i n ys H5 w5 with ⟨stop,ap,q⟩ | ⟨go,N,hN,step⟩
   ·refine thn (T.done 0#h rfl rfl rfl hc i _ s5 _ H5 _ aj (ag al) ay stop) fun r s6 ⟨hr,I6⟩=>?_
    subst hr;obtain⟨m6,aq,_⟩:=I6.loc;obtain⟨o6,aw,_⟩:=I6.pin (D,_) (qG _ mD);have k7:∀b o,b≠C->s6.heap.get? b=some o->s6.heap.get? b=some o:=fun b o _ e=>e
    have J0:Inv X a1 σ (upd H5 D (.lst ys)) s6:=by
     refine I3.call' (s':=s6) (ch:=D::fp) I6.os (yb (VI I6.base (xJ eC) k7) jK (I2.hok.fresh ?_)) (we (Jm I6.hok I6.free k7) aw ⟨ap,a2,z5,a6,k7 D _ a5 o6⟩) I6.bare fun b hb=>?_
     ·rw[<- eD];exact zD _
     ·rcases zC.mp hb with y | hb
      ·subst y
       refine⟨.inr (by rw[<- eD];exact I2.sz),by rw[<- eD];exact jH I2.lt,fun x c e=>?_,fun p hp=>?_⟩
       ·obtain⟨v,q⟩:=I2.cell x c e
        rw[<- eD];exact zP q.lt
       ·rw[<- eD];exact zP (zH (I2.pin p hp).1)
      ·obtain⟨_,g1,_,g3,g4,g5⟩:=f2 b hb
       exact⟨g3,g1,g4,g5⟩
    obtain⟨oC,af,dC⟩:∃o,s6.heap.get? C=some o/\∀v,o.data≠.cell v:=by
     obtain⟨o,es,ep,ho,hd,_⟩:=aq;exact⟨o,ho,fun v z=>by rw[hd] at z;cases z⟩
    have b6:(upd H5 D (.lst ys)) C=none:=by
     rw[zq (zG a5)];exact I6.free
    have J1:=J0.pinned (fp:=[C]) (fun b hb=>by rw[zW.mp hb];exact⟨b6,ak⟩) (fun b hb=>by rw[zW.mp hb];exact⟨oC,af,dC⟩)
    have mC:(C,oC)∈a1++zX [C] s6.heap:=qG _ (qP (zW.mpr rfl) af);refine thn (b9 _ s6 σ _ (.ref D) (.ref D) _ J1 rfl (q D aw)) fun _ s8 ⟨σ8,H8,I8,q8⟩=>?_
    obtain⟨e8,n8,_⟩:=I8.pin (C,oC) (qG _ mC);refine⟨m6,?_,fun h9 bb=>⟨σ8,H8,?_,q8⟩⟩
    ·obtain⟨o,es,ep,ho,r⟩:=aq
     have as:s6.heap.get? C=some o:=ho;rw[af] at as;cases as
     exact⟨oC,es,ep,e8,r⟩
    ·obtain⟨g1,_,g3,g4,g5⟩:=ak
     exact(I8.unpinned).turned (t':=s8.toks) (it:=C) (fun b o hb e=>bb.extBut b o hb e) n8 g1 g3 g4 g5
   ·refine thn (T.item 0#h rfl rfl rfl hc i _ s5 _ H5 _ aj (ag al) ay go) fun r s6 ⟨u,hr,h6⟩=>?_
    subst hr;refine thn h6 fun _ s7 ⟨x7,H7,I7,r7,y7,a7,b5⟩=>?_
    have b1:=I7.pinned (ag b5) (T.obj _ _ a7);refine thn (hg _ _ _ _ _ s7 _ H7 x7 u _ b1 r7 (step x7 H7 y7)) fun _ s8 ⟨σ8,H8,I8,b8,q8⟩=>?_
    refine thn (hf _ _ _ _ _ s8 σ8 H8 _ I8 q8) fun ok s9 ⟨H9,I9,q9⟩=>?_
    have ae:∀{H':Hp} {s':Shared},Inv 0#h (([]++zX [D] s5.heap)++zX fp s7.heap) σ8 H' s' ->
      Inv 0#h [] (upS 1 js σ) H' s':=fun {H' s'} J=>by
     refine(J.unpinned).unpinned.weak (I5.len.trans J.len.symm) fun k v e=>?_
     obtain⟨hn,e1,_⟩:=xO e;rw[<- b8,Xw] at e1;rw[<- e1];congr 1
     omega
    have mF:∀b∈fp,∀o,s7.heap.get? b=some o->(b,o)∈([]++zX [D] s5.heap)++zX fp s7.heap:=fun b hb o e=>qG _ (qP hb e)
    have av:=vg (zX fp s7.heap) mD;have am:∀{H':Hp} {s':Shared},Inv 0#h (([]++zX [D] s5.heap)++zX fp s7.heap) σ8 H' s'->∀b∈fp,H' b=none:=fun {H' s'} J b hb=>by
     obtain⟨o,e,_⟩:=T.obj _ _ a7 b hb;exact(J.pin (b,o) (qG _ (mF b hb o e))).2.1
    cases ok with
    | false=>
     have ah:N ys H9:=by simpa using q9
     obtain⟨m',hm,w'⟩:=hN _ _ ah;obtain⟨o9,bf,_⟩:=I9.pin (D,_) (qG _ av);exact⟨m',hm,i+1,ys,a2,H9,z5,ae I9,T.keep _ _ _ a7 fun b hb o e=>(I9.pin (b,o) (qG _ (mF b hb o e))).1,am I9,bf,o9,a6,w'⟩
    | true=>
     have ah:M σ8 H9 fun y H6=>ys.length<sizeLine/\N (ys++[y]) H6:=by simpa using q9
     refine thn (he _ _ _ _ _ s9 σ8 H9 _ I9 ah) fun yv bi ⟨y,b0,a4,bh,ba,bj⟩=>?_
     obtain⟨m',hm,w'⟩:=hN _ _ bj;obtain⟨bg,ab,_⟩:=a4.pin (D,_) (qG _ av);refine wpAny_list_append_plain (l:=D) (items:=a2.toArray) (hsz:=by rw[zZ,<- a6.length];exact vp ba) ⟨_,bg⟩ fun bn ao a9=>?_
     obtain⟨bm,b2⟩:=ao;refine⟨m',hm,i+1,ys++[y],a2++[yv],b0,bm,?_,T.keep _ _ _ a7 fun b hb o e=>a9.extBut b o (zG (fD b hb)) (a4.pin (b,o) (qG _ (mF b hb o e))).1,am a4,ab,?_,a6.append (.cons bh .nil),w'⟩
     ·exact(ae a4).turned (t':=bi.toks) (it:=D) (fun b o hb e=>a9.extBut b o hb e) ab a5 (.inl jK) (fun x c e=>hx x c e) fun p hp=>absurd (show p∈([]:List 0#l) from hp) (by simp)
     ·rw[b2];simp
  ·subst e4
   exact⟨0,[],[],H2,0,I4,T.keep _ _ _ ai fun b hb o e=>k4 b o (k3 b o e),fun b hb=>(f2 b hb).1,I2.hok.fresh (by rw[<- eD];exact zD _),an,.nil,w0⟩
 exact codeAny_compStart_list (aa _ rfl) (T.self X.A 0 _ _ _ (T.keep _ _ _ ai fun b hb o e=>k4 b o (k3 b o e)) (aa _ rfl))
theorem zeQ{O:Pos}{J:Str}{G c:Pos}{N:TG}(o:List Str)(I:List Nat)(hc:X.calm=true)(hk:scope.kind=.function)(hb:Ql scope.names X.env.scope.names X.N x o I=true)(hi:PI X (.Name x O) t Y)
  (T:∀C s H l,PF (qh X ([x]++o) scope x C s H l) A U) (Q:∀C s H l,PE (qh X ([x]++o) scope x C s H l) w M)
  (u:PG X (.Name J G) N) (D:swapsWith (.ListComp w [⟨.Name x O,t,A,0⟩] scope E) (some (.Name J G)) c.line X.env=pure true:=by rfl)
  (hs:∀x,foldedSetIterable t X.env x=pure x:=by intro _;rfl):PS X (.Assign [.Name J G] (.ListComp w [⟨.Name x O,t,A,0⟩] scope E) c) (zc9 (tLC Y 1 I (xY 0) U M) N):=by
 have B:=yX hb;refine ziC o I hc hk hb hi (fun C s H l=>?_) T Q u D hs
 have lk:(compEnvC scope ((x,C+1)::qy X.env.cells scope.names []) C X.env).scope.names.lookup x=some .cell:=ww B.lk;exact zB (X:=qh X ([x]++o) scope x C s H l) B.nd rfl (.inr lk) (.inl (by show(x==x)=true;simp))
variable{y:Str}{O G tp:Pos}{kk:Nat}
end
def Up(c:Array Nat):Prop:=c.toList.Pairwise (·< ·)
theorem Up.lt{g:Array Nat}(h:Up g){i j:Nat}{a b:Nat}(s:g[i]? =some a)(t:g[j]? =some b)(c:i<j):a<b:=by
 have l:=WR.mp s;have o:=WR.mp t;obtain⟨u,e1⟩:=l;obtain⟨w,e2⟩:=o;have:=zbg.mp h i j (by simpa using u) (by simpa using w) c
 simpa [e1,e2] using this
theorem Xj(l:Array Nat)(j:Nat):∀(fuel lo g:Nat),g-lo<=fuel->lo<=g->g<=l.size->Up l->(∀i a,i<lo->l[i]? =some a->a<j)->(∀i a,g<=i->l[i]? =some a->j<=a) ->
  SetTable.below.go l j fuel lo g<=l.size/\(∀i a,i<SetTable.below.go l j fuel lo g->l[i]? =some a->a<j)/\∀i a,SetTable.below.go l j fuel lo g<=i->l[i]? =some a->j<=a
 | 0,lo,g,E,G,w,u,s,t=>by
  have e:g=lo:=by omega
  subst e;exact⟨w,s,t⟩
 | fuel+1,lo,g,E,G,w,u,s,t=>by
  unfold SetTable.below.go;by_cases c:lo<g
  ·rw[zu c]
   dsimp only;have A:(lo+g)/2<l.size:=by omega
   have o:l[(lo+g)/2]? =some (l[(lo+g)/2]'A):=xh A;have D:l.getD ((lo+g)/2) j=l[(lo+g)/2]'A:=by rw[vm,o];rfl
   rw[D];by_cases d:l[(lo+g)/2]'A<j
   ·rw[zu d]
    refine Xj l j fuel _ g (by omega) (by omega) w u (fun i a B e=>?_) t
    by_cases q:i=(lo+g)/2
    ·subst q;rw[o] at e;cases e;exact d
    ·have:=u.lt e o (by omega)
     omega
   ·rw[zk d]
    refine Xj l j fuel lo _ (by omega) (by omega) (by omega) u s fun i a B e=>?_
    by_cases q:i=(lo+g)/2
    ·subst q;rw[o] at e;cases e;omega
    ·have:=u.lt o e (by omega)
     omega
  ·rw[zk c]
   have e:g=lo:=by omega
   subst e;exact⟨w,s,t⟩
theorem Y8{c:Array Nat}(u:Up c)(j:Nat):SetTable.below c j<=c.size/\(∀i a,i<SetTable.below c j->c[i]? =some a->a<j)/\∀i a,SetTable.below c j<=i->c[i]? =some a->j<=a:=by
 unfold SetTable.below;exact Xj c j c.size 0 c.size (by omega) (qB _) (zD _) u (fun i a h=>absurd h (xZ _)) fun i a h e=>absurd (WR.mp e).1 (by omega)
theorem Y9{g:Array Nat}(u:Up g){i:Nat}{j:Nat}(B:i<=g.size)(t:∀k a,k<i->g[k]? =some a->a<j)(w:∀k a,i<=k->g[k]? =some a->j<=a):SetTable.below g j=i:=by
 obtain⟨A,o,s⟩:=Y8 u j;by_cases c:SetTable.below g j<i
 ·have l:SetTable.below g j<g.size:=by omega
  have e:=xh l;have:=t _ _ c e;have:=s _ _ (zD _) e;omega
 ·by_cases d:i<SetTable.below g j
  ·have l:i<g.size:=by omega
   have e:=xh l;have:=o _ _ d e;have:=w _ _ (zD _) e;omega
  ·omega
theorem XX{c:Array Nat}(u:Up c){j:Nat}(H:c[SetTable.below c j]?≠some j):Up (SetTable.insertAt c (SetTable.below c j) j):=by
 obtain⟨I,D,l⟩:=Y8 u j;unfold Up SetTable.insertAt;generalize SetTable.below c j=p at *
 have E:((c.extract 0 p).push j++c.extract p c.size).toList=c.toList.take p++(j::c.toList.drop p):=by
  simp[Array.toList_extract,List.extract_eq_drop_take];exact WO (by simp)
 rw[E,List.pairwise_append];have B:c.toList.Pairwise (·< ·):=u
 refine⟨B.sublist (zaV _ _),Qy.mpr ⟨fun a s=>?_,B.sublist (List.drop_sublist _ _)⟩,fun a s b hb=>?_⟩
 ·obtain⟨k,hk,e⟩:=zfX.mp s
  have g:c[k+p]? =some a:=by rw[<- wR,zU];exact⟨by omega,by rw[<- e];congr 1;omega⟩
  have:=l (k+p) a (by omega) g
  by_cases q:k=0
  ·subst q
   rw[Xm] at g;exact Nat.lt_of_le_of_ne this fun z=>H (by rw[g,z])
  ·have w:p<c.size:=by rw[qK] at hk;omega
   have:=l p _ (zD _) (xh w);have:=u.lt (xh w) g (by omega)
   omega
 ·obtain⟨k,hk,e⟩:=zfW.mp s
  have g:c[k]? =some a:=by rw[<- wR,zU];exact⟨by omega,e⟩
  have t:=D k a (by omega) g
  rcases zC.mp hb with z | z
  ·rw[z];exact t
  ·obtain⟨A,G,e2⟩:=zfX.mp z
   have o:c[A+p]? =some b:=by rw[<- wR,zU];exact⟨by omega,by rw[<- e2];congr 1;omega⟩
   have:=l (A+p) b (by omega) o
   omega
structure TabOk(b:Bool)(t:SetTable):Prop where
 up:Up t.place
 no:t.dummies=#[]
 led:t.led=b
theorem J7(j:Nat):SetTable.has #[] j=false:=by
 unfold SetTable.has;rw[show(#[]:Array Nat)[SetTable.below #[] j]? =none from XC (by simp)]
 rfl
theorem Z7{t:SetTable}(h:t.dummies=#[])(j:Nat):(t.slot j=.empty/\t.place[SetTable.below t.place j]?≠some j)\/∃i,t.slot j=.live i:=by
 unfold SetTable.slot;rw[h,J7];dsimp only;by_cases c:(t.place[SetTable.below t.place j]? ==some j)=true
 ·rw[zu c]
  exact .inr ⟨_,rfl⟩
 ·rw[zk c,zk qU]
  exact .inl ⟨rfl,fun z=>c (by rw[z];simp)⟩
theorem XS(t:SetTable)(p:SetTable.Probe):(t.advance p).dummy=p.dummy:=by
 unfold SetTable.advance;split
 ·rfl
 ·rfl
theorem QH{t:SetTable}(hd:t.dummies=#[]){f:Nat->Int}{h:Int}:∀(fuel:Nat) (p:SetTable.Probe) (j:Nat) (d:Option Nat),SetTable.probe.go t f h fuel p=some (.empty j d)->t.place[SetTable.below t.place j]?≠some j/\d=p.dummy
 | 0,p,j,d,e=>by unfold SetTable.probe.go at e;cases e
 | fuel+1,p,j,d,e=>by
  unfold SetTable.probe.go at e;rcases Z7 hd p.j with ⟨g,l⟩ | ⟨i,c⟩
  ·rw[g] at e
   cases e;exact⟨l,rfl⟩
  ·rw[c] at e
   dsimp only at e;split at e
   ·cases e
   ·have:=QH hd fuel _ j d e
    rw[XS] at this;exact this
theorem zha{t:SetTable}(hd:t.dummies=#[]){h:Int}{s:Nat}{w:Bool}(e:t.freeSlot h=some (s,w)):t.place[SetTable.below t.place s]?≠some s:=by
 unfold SetTable.freeSlot SetTable.probe at e;split at e
 ·rename_i j d q
  obtain⟨c,g⟩:=QH hd _ _ _ _ q;cases(show d=none from g)
  cases e;exact c
 ·cases e
theorem zd9(n:Nat):Up (Array.range n):=by
 unfold Up;rw[Array.toList_range];exact zba
theorem TabOk.stand{b:Bool}{t:SetTable}(h:TabOk b t)(n:Nat):TabOk b (t.standIn n):=⟨zd9 n,rfl,h.led⟩
theorem TabOk.plain{b p:Bool}{t:SetTable}(h:TabOk b t):TabOk b { t with plain:=p }:=⟨h.up,h.no,h.led⟩
theorem TabOk.or{b:Bool}{t:SetTable}(h:TabOk b t)(n:Nat):TabOk b (t.orStandIn n):=by
 unfold SetTable.orStandIn;split
 ·exact h
 ·exact h.stand n
theorem TabOk.layNew{b:Bool}{t:SetTable}(h:TabOk b t)(g:Array (Int×Value))(k:Int)(x:Value):TabOk b (layNew t g k x).2.1:=by
 unfold PySem.layNew;split
 ·rename_i c w e
  have l:TabOk b (t.put c).1:=⟨XX h.up (zha h.no e),by
   show(if SetTable.has t.dummies c=true then _ else t.dummies)=#[]
   rw[h.no,J7];rfl,h.led⟩
  exact l.or _
 ·exact h.stand _
theorem zbr{α:Type}(m:Nat)(f:Nat->Option α):(((List.range m).filterMap fun j=>(f j).map (j,·)).map (·.1)).Pairwise (·< ·):=by
 have g:∀l:List Nat,((l.filterMap fun j=>(f j).map (j,·)).map (·.1)).Sublist l:=fun l=>by
  induction l with
  | nil=>exact .slnil
  | cons x l c=>
   rw[WK];cases f x with
   | none=>exact c.cons _
   | some y=>exact c.cons₂ _
 exact List.Pairwise.sublist (g _) zba
theorem TabOk.relay{b:Bool}{t:SetTable}(h:TabOk b t)(l:Array (Int×Value))(n:Nat):TabOk b (relayAll t l n).2.1:=by
 unfold relayAll;split
 ·rename_i o g e
  dsimp only;split
  ·unfold SetTable.relaid SetTable.laid at e
   obtain⟨c,_,e2⟩:=Option.bind_eq_some_iff.mp e;cases e2;refine⟨?_,rfl,h.led⟩
   exact zbr _ fun j=>c.getD j none
  ·exact h.stand _
 ·exact h.stand _
theorem TabOk.fresh(b:Bool):TabOk b (.fresh 0 0 b):=⟨List.Pairwise.nil,rfl,rfl⟩
theorem zdw{α:Type}{l:List α}{x:α}(h:l.Nodup)(hx:x∉l):(l++[x]).Nodup:=by
 rw[y6];exact⟨h,by simp,fun a c b hb e=>hx (by rw[zW] at hb;rw[<- hb,<- e];exact c)⟩
theorem QJ{α β:Type}{R:α->β->Prop}{w o:List β}(p:o.Perm w):∀{g:List α},Paired R g w->∃c,c.Perm g/\Paired R c o:=by
 induction p with
 | nil=>intro g h;exact⟨g,.refl _,h⟩
 | cons y _ E=>
  intro g h;cases h with
  | cons r t=>
   obtain⟨c,G,A⟩:=E t;exact⟨_::c,G.cons _,.cons r A⟩
 | swap y z l=>
  intro g h;cases h with
  | cons r t=>
   cases t with
   | cons J L=>exact⟨_,.swap _ _ _,.cons J (.cons r L)⟩
 | trans _ _ s u=>
  intro g h;obtain⟨N,H,B⟩:=u h;obtain⟨M,I,D⟩:=s B;exact⟨M,I.trans H,D⟩
theorem JQ{α β:Type}{R:α->β->Prop}{x:α}{y:β}(r:R x y):∀{c:List α} {g:List β},Paired R c g->Paired R (c++[x]) (g++[y])
 | _,_,.nil=>.cons r .nil
 | _,_,.cons h t=>.cons h (JQ r t)
theorem JO{α β:Type}{R:α->β->Prop}:∀{c:List α} {g:List β},Paired R c g->(∀x∈c,∃y∈g,R x y)/\∀y∈g,∃x∈c,R x y
 | _,_,.nil=>⟨fun x h=>(nomatch h),fun y h=>(nomatch h)⟩
 | _,_,.cons h t=>by
  obtain⟨a,b⟩:=JO t;refine⟨fun x hx=>?_,fun y hy=>?_⟩
  ·rcases zC.mp hx with z | z
   ·rw[z];exact⟨_,jK,h⟩
   ·obtain⟨y,hy,r⟩:=a x z
    exact⟨y,z9 _ hy,r⟩
  ·rcases zC.mp hy with z | z
   ·rw[z];exact⟨_,jK,h⟩
   ·obtain⟨x,hx,r⟩:=b y z
    exact⟨x,z9 _ hx,r⟩
section
variable{u:Program}{w:World}{K:Type}[DecidableEq K](l:KeyKind u w K)
def ElX(g:List (Int×Value))(o:List K):Prop:=ElemsOf l g/\∃c,c.Perm o/\Paired (fun k (e:Int×Value)=>l.is k e.2=true) c g
def ObX(b:Bool)(o:Obj)(g:List K):Prop:=∃c B t,o.ExactSet/\o.data=.set c B t/\ElX l c.toList g/\g.Nodup/\c.size<scanBound/\t.fits c.size=true/\TabOk b t
def SetX(b:Bool)(h:Heap)(a:Addr)(c:List K):Prop:=∃o,h.get? a=some o/\ObX l b o c
variable{l}
theorem ElX.perm{o c:List (Int×Value)}{t:List K}(h:ElX l o t)(p:c.Perm o):ElX l c t:=by
 obtain⟨B,D,G,I⟩:=h;obtain⟨g,H,pr2⟩:=QJ p I;exact⟨B.perm p,g,H.trans G,pr2⟩
theorem ElX.len{c:List (Int×Value)}{g:List K}(h:ElX l c g):c.length=g.length:=by
 obtain⟨_,o,t,B⟩:=h;rw[<- t.length_eq];exact(Xn B).symm
theorem ElX.mem{c:List (Int×Value)}{g:List K}(h:ElX l c g)(k:K):k∈g↔∃e∈c,l.is k e.2=true:=by
 obtain⟨_,t,B,D⟩:=h;obtain⟨a,b⟩:=JO D;rw[<- B.mem_iff];refine⟨a k,fun ⟨e,o,r⟩=>?_⟩
 obtain⟨H,hk,G⟩:=b e o;rwa[l.inj _ _ _ r G]
theorem ElX.snoc{g:List (Int×Value)}{o:List K}(h:ElX l g o){k:K}{x:Value}(hk:l.is k x=true)(hx:x.scannable=true):ElX l (g++[(l.hash k,x)]) (o++[k]):=by
 obtain⟨t,c,B,D⟩:=h;exact⟨t.push hk hx,c++[k],B.append_right _,JQ (R:=fun k (e:Int×Value)=>l.is k e.2=true) hk D⟩
theorem SetX.at{b:Bool}{h c:Heap}{a:Addr}{g:List K}(x:SetX l b h a g)(k:∀o,h.get? a=some o->c.get? a=some o):SetX l b c a g:=let ⟨o,e,r⟩:=x;⟨o,k o e,r⟩
variable{A:Around}{E:Value->Shared->Prop}{s:Shared}
theorem zkd{b:Bool}{h:Heap}{a:Addr}{o:Obj}{L:Array (Int×Value)}{H:Nat}{t:SetTable}(N:h.get? a=some o)(D:o.ExactSet)(hd:o.data=.set L H t){c:Array (Int×Value)}{B:SetTable}{I:List K}(J:ElX l c.toList I)(O:I.Nodup)
  (hb:c.size<scanBound) (M:B.fits c.size=true) (Q:TabOk b B):∃G,(h.update a (Obj.putSet c B)).get? a=some G/\G.ExactSet/\G.data=.set c (H+1) B/\ObX l b G I:=by
 have g:=xE (Obj.putSet c B) N (by rw[putSet_of c B hd];rfl)
 rw[putSet_of c B hd] at g;exact⟨_,g,D,rfl,c,H+1,B,D,rfl,J,O,hb,M,Q⟩
theorem zhu{b:Bool}{g:Bool->Sem Unit}(hg:∀(c:Bool) (s1:Shared) (O:Unit->Shared->Prop),O () s1->wpAny (model u w) A (g c) O E s1){a:Addr}{o:Obj}{es:Array (Int×Value)}{ep:Nat}{t:SetTable}(U:s.heap.get? a=some o)(J:o.ExactSet)
  (hd:o.data=.set es ep t) {B:Array (Int×Value)} {G:SetTable} {L:List K} (T:ElX l B.toList L) (Y:L.Nodup) (hb:B.size<scanBound) (hf:G.fits B.size=true) (tb:TabOk b G) {D:Bool} {R:Option Bool->Shared->Prop}
  (h:∀I,Heap.SameBut a s.heap I->SetX l b I a L->R (some true) { s with heap:=I }) :
  wpAny (model u w) A (storeSet a B G >>= fun _=>if(!D&&G.tooFull)=true then g (relayAll G B (SetTable.grown B.size)).2.2 >>= fun _=>storeSet a (relayAll G B (SetTable.grown B.size)).1 (relayAll G B (SetTable.grown B.size)).2.1 >>= fun _=>pure (some true) else pure (some true)) R E s:=by
 obtain⟨o1,H,x1,Q,M⟩:=zkd U J hd T Y hb hf tb;have sb:=yC s.heap a (Obj.putSet B G);refine zf (wpAny_storeSet_of U hd ?_ (fits_of_scanBound hb))
 split
 ·have pm:=relayAll_perm G B (SetTable.grown B.size)
  have ft:=relayAll_fits G B (SetTable.grown B.size);have tr:=tb.relay B (SetTable.grown B.size);have sz:(relayAll G B (SetTable.grown B.size)).1.size=B.size:=by have:=pm.length_eq;rwa[qK,qK] at this
  obtain⟨o2,g2,x2,d2,N⟩:=zkd H x1 Q (T.perm pm) Y (by rw[sz];exact hb) ft tr
  exact zf (hg _ _ _ (zf (wpAny_storeSet_of H Q (zx (h _ (sb.trans (yC _ a _)) ⟨o2,g2,N⟩)) (fits_of_scanBound (by rw[sz];exact hb)))))
 ·exact zx (h _ sb ⟨o1,H,M⟩)
theorem zlo{b:Bool}{a:Addr}{g:List K}{k:K}{x:Value}{Q:Bool->Shared->Prop}(B:l.is k x=true)(M:x.scannable=true)(hS:SetX l b s.heap a g)(J:g.length+1<scanBound)
  (h:∀H c,Heap.SameBut a s.heap H->SetX l b H a (if k∈g then g else g++[k])->Q c { s with heap:=H }):wpAny (model u w) A (setAddHashed a x (l.hash k)) Q E s:=by
 obtain⟨o,Y,N,ep,t,I,hd,D,nd,hb,hf,tb⟩:=hS;have ln:=D.len;rw[qK] at ln;unfold setAddHashed setAddHashedIn;refine jD (zf (wP Y hd hf ?_));dsimp only
 rw[byScan_of M hb D.1,zu rfl];unfold setAddByScan;refine zf (zf (xS (zf (wpAny_setScan_of B Y hd hf D.1 ?_))))
 cases hr:List.findIdx? (fun e=>l.is k e.2) N.toList with
 | some j=>
  obtain⟨hj,a1,_⟩:=List.findIdx?_eq_some_iff_getElem.mp hr
  have hk:k∈g:=(D.mem k).mpr ⟨_,xB hj,a1⟩;have:=h s.heap false (zaT a s.heap) (by rw[zu hk];exact⟨o,Y,N,ep,t,I,hd,D,nd,hb,hf,tb⟩)
  exact zx (zx this)
 | none=>
  have hk:k∉g:=fun z=>by
   obtain⟨e,he,r⟩:=(D.mem k).mp z;have:=List.findIdx?_eq_none_iff.mp hr e he
   rw[r] at this;cases this
  rw[zk hk] at h;have gw:∀(c:Bool) (s1:Shared) (Q':Unit->Shared->Prop),Q' () s1->wpAny (model u w) A (match c with | true=>rule "set.scan.the-table-gave-way" | false=>pure ()) Q' E s1:=fun c s1 Q' hq=>by
   cases c
   ·exact zx hq
   ·exact xS hq
  have pm:=layNew_perm t N (l.hash k) x;have T:=layNew_fits t N (l.hash k) x;have tn:=tb.layNew N (l.hash k) x;generalize layNew t N (l.hash k) x=L at pm T tn;obtain⟨O,t1,wd,a2⟩:=L;dsimp only at pm T tn ⊢;rw[Xu] at pm;have G:ElX l O.toList (g++[k]):=(D.snoc B M).perm pm;have l1:=G.len;rw[qK,qz] at l1;have U:O.size<scanBound:=by rw[l1];exact J
  have a0:(g++[k]).Nodup:=zdw nd hk;refine zf (gw _ _ _ ?_)
  split
  ·rw[hashByValue_scannable 8 M]
   refine zf (zx (zhu gw Y I hd G a0 U ?_ ?_ fun H sb sx=>zx (h H true sb sx)))
   ·split
    ·exact T
    ·exact SetTable.fits_plain_off T
   ·split
    ·exact tn
    ·exact tn.plain
  ·exact zf (zx (zhu gw Y I hd G a0 U T tn fun H sb sx=>zx (h H true sb sx)))
end
def Wd(w:World):Bool:=!w.params.followText "set-order"
def wY(w:World):Obj:={ cls:=.type "set",dict:=none,data:=.set #[] 0 (.fresh 0 0 (Wd w)) }
section
variable{K:Type}[DecidableEq K]
def ZY(c:List K)(k:K):List K:=if k∈c then c else c++[k]
def Z5(o c:List K):List K:=c.foldl ZY o
theorem VD(c:List K)(k:K):(ZY c k).length<=c.length+1:=by
 unfold ZY;split
 ·omega
 ·rw[qz];exact zD _
theorem W4:∀(o c:List K),(Z5 c o).length<=c.length+o.length
 | [],c=>zD _
 | j::o,c=>by
  have s:=W4 o (ZY c j);have t:=VD c j;show(Z5 (ZY c j) o).length<=_;rw[jJ];omega
theorem W3:∀{o c:List K} {x:K},x∈Z5 c o↔x∈c\/x∈o
 | [],c,x=>by simp[Z5]
 | j::o,c,x=>by
  show x∈Z5 (ZY c j) o↔_;rw[W3,zC];unfold ZY;split
  ·rename_i h
   constructor
   ·rintro(z | z)
    ·exact .inl z
    ·exact .inr (.inr z)
   ·rintro(z | z | z)
    ·exact .inl z
    ·rw[z];exact .inl h
    ·exact .inr z
  ·rw[ja,zW,or_assoc]
theorem zc4{o c:List K}{i:Nat}{k:K}(h:c[i]? =some k):Z5 (ZY o k) (c.drop (i+1))=Z5 o (c.drop i):=by
 obtain⟨s,t⟩:=zU.mp h;rw[zfY s,t];rfl
variable{g:Program}{w:World}{knd:KeyKind g w K}{A:Around}{R:Result->Shared->Prop}{it l S:Addr}{items:Array Value}{keys:List K}{b:Bool}
theorem zgp(hh:A.handled=none)(L:l≠it)(M:l≠S)(E:it≠S)(a0:keys.length=items.size)(J:∀(j:Nat) (u:Value),items[j]? =some u->∃k,keys[j]? =some k/\knd.is k u=true/\u.scannable=true) :
  ∀(m:Nat) (s:Shared) (i:Nat) (B:List K),items.size-i=m->i<=items.size->s.heap.IsListIter it l i->s.heap.IsList l items->SetX knd b s.heap S B->B.length+m+1<scanBound ->
   (∀D U,SetX knd b D S (Z5 B (keys.drop i))->(∀c o,c≠it->c≠S->s.heap.get? c=some o->D.get? c=some o)->R (.ok (.ret .none)) { s with heap:=D,toks:=U }) ->
   codeAny (model g w) A (.builtin "set.update.loop" ⟨[.ref S,.ref it],[]⟩) R s:=by
 intro m;induction m with
 | zero=>
  intro s i B hm hi N I O hz q;have G:items[i]? =none:=by simp;omega
  refine codeAny_builtin zf9 ?_
  rw[wQ zbi _];refine zf (wpAny_pyNext_list_end hh N I G fun D hx=>zx ?_)
  have e0:Z5 B (keys.drop i)=B:=by rw[List.drop_eq_nil_of_le (by omega)];rfl
  exact q D s.toks (by rw[e0];exact O.at fun o e=>hx S o (zG E) e) fun c o hc _ e=>hx c o hc e
 | succ m ih=>
  intro s i B hm hi N I O hz q;have H:i<items.size:=by omega
  obtain⟨u,hu⟩:∃u,items[i]? =some u:=⟨_,xh H⟩;obtain⟨k,ek,kk,sc⟩:=J i u hu;refine codeAny_builtin zf9 ?_
  rw[wQ zbi _];refine zf (wpAny_pyNext_list_item N I hu fun Y i1 s1=>?_)
  have k1:∀c o,c≠it->s.heap.get? c=some o->Y.get? c=some o:=fun c o hc e=>(s1.2 c hc).trans e
  refine zf (jD (show wpAny _ _ (setAdd S u) _ _ _ from jD (zf (knd.pyHash kk ?_))))
  refine zlo (s:={ s with heap:=Y,toks:=s.toks+1 }) kk sc (O.at fun o e=>k1 S o (zG E) e) (by omega) fun h2 c sb T=>?_
  have k2:∀c o,c≠it->c≠S->s.heap.get? c=some o->h2.get? c=some o:=fun c o hc t e=>(sb.2 c t).trans (k1 c o hc e)
  have lk:=VD B k;refine zx ⟨plainId_quiet zbi _,?_⟩
  refine ih { s with heap:=h2,toks:=s.toks+1 } (i+1) (ZY B k) (by omega) H (i1.at fun o e=>(sb.2 it E).trans e) (I.at fun o e=>k2 l o L M e) T (by omega) fun D U Q kp=>?_
  exact q D U (by rw[<- zc4 ek];exact Q) fun c o hc t e=>kp c o hc t (k2 c o hc t e)
end
section
variable{l:Program}{w:World}{A:Around}{E:Value->Shared->Prop}{s:Shared}
theorem zgj{T o g:String}{args:List Value}{Q Q1:Value->Shared->Prop}(t:TypeCalled T o g)(L:checkTypeCall T ⟨args,[]⟩=pure ())
  (G:codeAny (model l w) A.in1 (.call (.builtin o) ⟨.type T::args,[]⟩) (wants Q1 E) s)
  (B:∀u s1,Q1 u s1->s1.TypeIs u T/\codeAny (model l w) A.in1 (.call (.builtin g) ⟨u::args,[]⟩) (wants (fun r s2=>r=.none/\Q u s2) E) s1) :
  wpAny (model l w) A (call (.type T) args) Q E s:=by
 obtain⟨c,tl,N⟩:=t.mro;have O:=t.made;have U:=t.sub;have Y:=t.notType;have m5:=t.canCreate;refine wpAny_call (codeAny_of_tree (show wpAny _ _ (callAny (.type T) _) _ _ _ from zx ⟨Code.quiet_builtin _ (by decide +kernel),codeAny_builtin F.entry_type_call ?_⟩))
 rw[Around.under_plain (weight_type_call_type T args []) rfl];repeat' (first| assumption | wp_step)
 refine codeAny_mono G fun r s1 H=>?_
 match r,H with
 | .error e,H=>exact H
 | .ok (.ret u),H=>
  obtain⟨ty,I⟩:=B _ _ H;have m6:=t.init.lookup;have m7:=t.init.bind u;repeat' (first| assumption | wp_step)
  refine codeAny_mono I fun M s2 D=>?_
  match M,D with
  | .error e,D=>exact D
  | .ok (.ret v),⟨J,hq⟩=>
   subst J;repeat' (first| assumption | wp_step)
theorem zfj(x:Value){c:Value->Shared->Prop}(h:c (.ref s.heap.objs.size) { s with heap:=s.heap.push (wY w) }) :
  codeAny (model l w) A (.call (.builtin "set.__new__") ⟨[.type "set",x],[]⟩) (wants c E) s:=by
 refine codeAny_call_builtin F.plain_set_new F.entry_set_new (yD (F.newCall_set_1 x) ?_)
 unfold Builtin.«set.__new__» Builtin.Frozenset.newClass;have t:=sub_set_self;obtain⟨o,g,d,u,os⟩:=s;dsimp only;wp_walk
 refine wpAny_askSetting (zx ?_)
 simp only[newObj];exact zf (wpAny_alloc (zx (zx h)))
end
section
variable{g:Program}{w:World}{K:Type}[DecidableEq K]{knd:KeyKind g w K}{A:Around}{E:Value->Shared->Prop}{s:Shared}
theorem zew(h:Heap):SetX knd (Wd w) (h.push (wY w)) h.objs.size []:=
 ⟨wY w,zL _ rfl,#[],0,_,⟨rfl,rfl,rfl⟩,rfl,⟨fun e c=>by simp at c,[],.refl _,.nil⟩,vq,by decide,rfl,TabOk.fresh _⟩
theorem zdT{l:Addr}{t:Array Value}{n:Nat}{keys:List K}{Q:Value->Shared->Prop}(hh:A.handled=none)(Y:s.heap.get? l=some { cls:=.type "list",data:=.seq t n })(H:keys.length=t.size)(hb:t.size+1<scanBound)
  (L:∀(j:Nat) (u:Value),t[j]? =some u->∃k,keys[j]? =some k/\knd.is k u=true/\u.scannable=true)
  (h:∀D T,SetX knd (Wd w) D s.heap.objs.size (Z5 [] keys)->(∀c o,s.heap.get? c=some o->D.get? c=some o)->Q (.ref s.heap.objs.size) { s with heap:=D,toks:=T }) :
  wpAny (model g w) A (call (.type "set") [.ref l]) Q E s:=by
 refine zgj (Q1:=fun u s1=>u=.ref s.heap.objs.size/\s1={ s with heap:=s.heap.push (wY w) }) F.called_set (F.typeCall_set_1 (.ref l)) (zfj (.ref l) ⟨rfl,rfl⟩) fun u s1 e=>?_
 obtain⟨eu,es⟩:=e;subst eu es;have U:(s.heap.push (wY w)).get? s.heap.objs.size=some (wY w):=zL _ rfl;have J:Shared.TypeIs { s with heap:=s.heap.push (wY w) } (.ref s.heap.objs.size) "set" :=⟨_,U,rfl⟩;have B:=zN (wY w) Y;refine⟨J,codeAny_call_builtin F.called_set.init.plain F.entry_set_init (check_set_init_1 J ?_)⟩
 have m1:=F.sub_list_set;have m2:=F.sub_list_frozenset;have m3:(Value.type "list" == Value.type "dict")=false:=by decide
 have G:l<s.heap.objs.size:=zH Y;unfold wY at U J B;unfold Builtin.«set.__init__» noKeywords Builtin.Frozenset.updateFrom wY;generalize I:pyIter=PI;wp_walk
 subst I;refine wpAny_pyIter_list ⟨_,B,rfl,n,rfl⟩ (zf (wpAny_runValue ?_))
 have M:A.in1.in1.in1.handled=none:=by simp[hh]
 have O:(s.heap.push (wY w)).objs.size=s.heap.objs.size+1:=qJ ..;have N:∀c o,s.heap.get? c=some o->c<s.heap.objs.size:=fun c o e=>zH e
 refine zgp (knd:=knd) (b:=Wd w) (A:=A.in1.in1) (S:=s.heap.objs.size) (it:=(s.heap.push (wY w)).objs.size) (l:=l) (items:=t) (keys:=keys) M (by rw[O];exact zP (xt G)) (zP G) (by rw[O];exact jH (xg _)) H L t.size
  ⟨(s.heap.push (wY w)).push { cls:=.type "list_iterator",data:=.fields #[.ref l,.int 0 0] },s.gens,s.drawn,s.toks,s.os⟩ 0 [] rfl (qB _) ⟨_,zL _ rfl,rfl,rfl⟩ ⟨_,zN _ B,rfl,n,rfl⟩ ((zew s.heap).at fun o e=>zN _ e) (by rw[Zr];omega) fun D T sx kp=>?_
 refine zx (zx ⟨rfl,h D T (by simpa using sx) fun c o e=>?_⟩)
 have:=N c o e;exact kp c o (by rw[O];exact zP (xt this)) (zP this) (zN _ (zN _ e))
end
theorem jq:Slot "set_iterator" "__next__" "set_iterator.__next__" :=
 .of (owner:= "set_iterator") (n:= "__next__") (by rw[typeLookup_type,builtinLookup_eq_fast];kernel_rfl) (by decide +kernel) (by decide +kernel) (by decide +kernel)
  (by first| exact .inl (by decide +kernel) | exact .inr (by decide +kernel)) (by rw[isSubtype_type];kernel_rfl)
theorem yZ:entryFor table "set_iterator.__next__" = some Builtin.«set_iterator.__next__»:=entryFor_of_tree (by kernel_rfl)
theorem ZU(x:Value):argsOk "set_iterator.__next__" ⟨[x],[]⟩:=by unfold argsOk;kernel_rfl
theorem slot_set_iter:Slot "set" (Str.ofString "__iter__") "set.__iter__" :=PySem.F.slot_set_iter
theorem Xa:entryFor table "set.__iter__" = some Builtin.«frozenset.__iter__»:=
 entryFor_alias (id':= "frozenset.__iter__") (by kernel_rfl) (by first| rfl | decide +kernel) (by decide +kernel) (by kernel_rfl)
theorem XR(x:Value):argsOk "set.__iter__" ⟨[x],[]⟩:=by unfold argsOk;kernel_rfl
theorem Zh{α:Type}:∀(l:List α) (i:Nat) (h:i<l.length),(l[i]::l.eraseIdx i).Perm l
 | x::l,0,_=>.refl _
 | x::l,i+1,h=>by
  have:=Zh l i (by simpa using h)
  exact(List.Perm.swap _ _ _).trans (this.cons x)
section
variable{M:Model}{A:Around}{E:Value->Shared->Prop}{s:Shared}
theorem zcF{c:Source}{n:Nat}{Q:Nat->Shared->Prop}(g:0<n)(h:∀i,i<n->Q i { s with drawn:=s.drawn.bump c }):wpAny M A (choose c n) Q E s:=fun Γ p l=>
 ⟨jH g,h _ (wE _ g)⟩
theorem WU{α:Type}:∀(n:Nat) (c:List α) (s:Shared) {Q:List α->Shared->Prop},c.length<=n->(∀d l,l.Perm c->Q l { s with drawn:=d })->wpAny M A (drawOrder n c) Q E s
 | 0,c,s,Q,g,h=>by
  cases c with
  | nil=>exact zx (h s.drawn [] (.refl _))
  | cons x c=>simp at g
 | n+1,[],s,Q,g,h=>zx (h s.drawn [] (.refl _))
 | n+1,x::c,s,Q,g,h=>by
  unfold drawOrder;refine zf (zcF (by simp) fun i o=>?_)
  rw[qg o];dsimp only;refine zf (WU n ((x::c).eraseIdx i) _ ?_ fun d l p=>zx (h d _ ?_))
  ·rw[List.length_eraseIdx]
   split<;>simp at* <;>omega
  ·exact(p.cons _).trans (Zh _ _ o)
end
theorem zcc{α:Type}(next:Nat->Nat):∀(fuel k:Nat) (left:List α) (c:Array α),left.length<=fuel->(pickOrder.go next fuel k left c).toList.Perm (c.toList++left)
 | 0,k,left,c,h=>by
  cases left with
  | nil=>unfold pickOrder.go;simp
  | cons x g=>simp at h
 | fuel+1,k,left,c,h=>by
  unfold pickOrder.go;cases left with
  | nil=>simp
  | cons x g=>
   have l:next k % (x::g).length<(x::g).length:=wE _ (by simp)
   rw[qg l];dsimp only;have o:=zcc next fuel (k+1) ((x::g).eraseIdx (next k % (x::g).length)) (c.push ((x::g)[next k % (x::g).length]'l)) (by rw[List.length_eraseIdx,zu l];simp at h ⊢;omega)
   refine o.trans ?_
   rw[Xu,WD];exact List.Perm.append_left _ (Zh _ _ l)
theorem Ve{α:Type}(next:Nat->Nat)(c:Array α):(pickOrder next c).toList.Perm c.toList:=by
 unfold pickOrder;have:=zcc next c.size 0 c.toList #[] (by simp)
 simpa using this
def siO(first:Value)(i:Nat)(c:Value)(n g:Nat):Obj:={ cls:=.type "set_iterator",data:=.fields #[first,.int i 0,c,.int n 0,.int g 0] }
section
variable{c:Program}{w:World}{A:Around}{E:Value->Shared->Prop}{h:Heap}{g:Array GenState}{d:Drawn}{l:Nat}{os:OsState}{D a:Addr}{o:Obj}{B:Array (Int×Value)}{u:Nat}{t:SetTable}{i:Nat}
theorem Ys{sl:Nat}{x:Value}{nx:Nat}{Q:Fin->Shared->Prop}(J:h.get? D=some (siO (.int sl 0) i (.ref a) B.size u))(U:h.get? a=some o)(hd:o.data=.set B u t)(T:t.fits B.size=true)
  (M:∀(G:Option (Value×Nat)->Shared->Prop),G (some (x,nx)) ⟨h,g,d,l,os⟩->wpAny 0#e A (setNext a sl i u) G E ⟨h,g,d,l,os⟩)
  (hq:∀H,H.get? D=some (siO (.int nx 0) (i+1) (.ref a) B.size u)->Heap.SameBut D h H->Q (.done (.ret x)) ⟨H,g,d,l,os⟩) :
  wpAny 0#e A (Builtin.«set_iterator.__next__» ⟨[.ref D],[]⟩) Q E ⟨h,g,d,l,os⟩:=by
 unfold siO at J;have N:∀{G:Array (Int×Value)->Shared->Prop},G B ⟨h,g,d,l,os⟩->wpAny 0#e A (setEntries a) G E ⟨h,g,d,l,os⟩:=fun q=>wpAny_setEntries_of (s:=⟨h,g,d,l,os⟩) U hd T q
 unfold Builtin.«set_iterator.__next__»;generalize O:setNext=SN at M;generalize I:setField=SF;repeat(any_goals (first| assumption | (with_reducible refine N ?_) | wp_step))
 subst I;have Y:((sl:Int)).toNat=sl:=vG _;have z2:((i:Int)).toNat=i:=vG _;have z3:((u:Int)).toNat=u:=vG _;rw[Y,z2,z3];refine M _ ?_
 refine zf (yG J rfl (by show 0<5;decide) ?_)
 have L:=xE (Obj.mapFields (·.setIfInBounds 0 (rawInt nx))) J rfl
 refine zf (yG L rfl (by show 1<5;decide) (zx (hq _ ?_ ?_)))
 ·exact xE (Obj.mapFields (·.setIfInBounds 1 (rawInt ((i:Int)+1)))) L rfl
 ·exact(yC _ _ _).trans (yC _ _ _)
theorem ZH{sl:Nat}{Q:Fin->Shared->Prop}(U:A.handled=none)(L:h.get? D=some (siO (.int sl 0) i (.ref a) B.size u))(Y:h.get? a=some o)(hd:o.data=.set B u t)(T:t.fits B.size=true)
  (J:∀(G:Option (Value×Nat)->Shared->Prop),G none ⟨h,g,d,l,os⟩->wpAny 0#e A (setNext a sl i u) G E ⟨h,g,d,l,os⟩)
  (hq:∀H e,Heap.ExtBut D h H->(∃M,H.get? e=some M/\M.cls=.type "StopIteration")->E (.ref e) ⟨H,g,d,l,os⟩) :
  wpAny 0#e A (Builtin.«set_iterator.__next__» ⟨[.ref D],[]⟩) Q E ⟨h,g,d,l,os⟩:=by
 unfold siO at L;have N:∀{G:Array (Int×Value)->Shared->Prop},G B ⟨h,g,d,l,os⟩->wpAny 0#e A (setEntries a) G E ⟨h,g,d,l,os⟩:=fun q=>wpAny_setEntries_of (s:=⟨h,g,d,l,os⟩) Y hd T q
 unfold Builtin.«set_iterator.__next__»;generalize O:setNext=SN at J;generalize I:setField=SF;repeat(any_goals (first| assumption | (with_reducible refine N ?_) | wp_step))
 subst I;have z1:((sl:Int)).toNat=sl:=vG _;have z2:((i:Int)).toNat=i:=vG _;have z3:((u:Int)).toNat=u:=vG _;rw[z1,z2,z3];refine J _ (zf (yG L rfl (by show 2<5;decide) ?_))
 refine zf (show wpAny _ _ (newExc (.type "StopIteration") []) _ _ _ from ?_)
 unfold newExc newTuple;refine zf (jY (zf (m:=firstArgMember _ _) (yD (a:=Value.none) (by first| rfl | (simp only[firstArgMember];rfl)) (jY ?_))))
 unfold raiseNew;refine zf (wpAny_handled ?_)
 rw[U];refine zf (zx (Qn (hq _ _ (fun b p hb e=>?_) ⟨_,zL _ rfl,rfl⟩)))
 exact zN _ (zN _ ((x6 _ _ (zG hb)).trans e))
end
section
variable{c:Program}{w:World}{A:Around}{E:Value->Shared->Prop}{s:Shared}{a:Addr}{o:Obj}{g:Array (Int×Value)}{l:Nat}{t:SetTable}{i u:Nat}
theorem Jq{Q:Bool->Shared->Prop}(h:Q (w.params.followText "set-order") s):wpAny 0#e A setsByText Q E s:=zf (wpAny_askSetting (zx h))
theorem Vi{Q:Option (Value×Nat)->Shared->Prop}(B:w.params.followText "set-order" = true)(G:s.heap.get? a=some o)(hd:o.data=.set g l t)(D:t.fits g.size=true)
  (h:Q (((pickOrder (w.params.setOrder a l) g)[i]?).map fun e=>(e.2,u)) s):wpAny 0#e A (setNext a u i l) Q E s:=by
 unfold setNext;refine zf (wP G hd D (zf (Jq ?_)))
 rw[B,zu rfl,zk (by simp)]
 refine zf ?_
 unfold setWalk;refine zf (wP G hd D (zf (Jq ?_)))
 rw[B,zu rfl];exact zf (wpAny_askSetting (zx (zx h)))
theorem YC{Q:Option (Value×Nat)->Shared->Prop}(B:w.params.followText "set-order" = false)(I:(!t.plain&&decide (g.size>1))=false)(G:t.led=true)(H:s.heap.get? a=some o)(hd:o.data=.set g l t)(D:t.fits g.size=true)
  (h:Q (match g[SetTable.below t.place u]?,t.place[SetTable.below t.place u]? with | some (_,x),some j=>some (x,j+1) | _,_=>none) s):wpAny 0#e A (setNext a u i l) Q E s:=by
 unfold setNext;refine zf (wP H hd D (zf (Jq ?_)))
 rw[B,zk qU];refine(show wpAny _ _ (if(!t.plain&&decide (g.size>1))=true then _ else _) _ _ _ from ?_)
 rw[I,zk qU];refine zf (show wpAny _ _ (if(!t.led&&!g.isEmpty)=true then unsupported "set:maker-not-led" else pure ()) _ _ _ from ?_)
 rw[G];exact zx (zx h)
theorem zay{x:Value}{G:Int}{p:Nat}{Q:Value->Shared->Prop}(D:s.heap.get? a=some o)(hd:o.data=.set g l t)(B:t.fits g.size=true)(hx:g[p]? =some (G,x))(h:Q x s):wpAny 0#e A (setNextDrawn a p l) Q E s:=by
 unfold setNextDrawn;refine zf (wP D hd B ?_)
 dsimp only;rw[zk (by simp),hx]
 exact zx h
theorem zfz{Q:Bool->Shared->Prop}(D:s.heap.get? a=some o)(hd:o.data=.set g l t)(B:t.fits g.size=true)(h:Q (!w.params.followText "set-order" && (!t.plain&&decide (g.size>1))) s):wpAny 0#e A (setDrawn a) Q E s:=by
 unfold setDrawn;exact zf (wP D hd B (zf (Jq (zx h))))
end
section
variable{l:Program}{w:World}{A:Around}{E:Value->Shared->Prop}{h:Heap}{g:Array GenState}{d:Drawn}{u:Nat}{os:OsState}{G a T:Addr}{o I:Obj}{B:Array (Int×Value)}{D:Nat}{t:SetTable}{i n c:Nat}{H:Array Value}
theorem zdh{x:Value}{hs:Int}{p:Nat}{Q:Fin->Shared->Prop}(U:h.get? G=some (siO (.ref T) i (.ref a) B.size D))(ho:h.get? a=some o)(hd:o.data=.set B D t)(Y:t.fits B.size=true)(hT:h.get? T=some I)(O:I.data=.seq H c)
  (hp:H[i]? =some (.int p 0)) (hx:B[p]? =some (hs,x)) (hq:∀L,L.get? G=some (siO (.ref T) (i+1) (.ref a) B.size D)->Heap.SameBut G h L->Q (.done (.ret x)) ⟨L,g,d,u,os⟩) :
  wpAny (model l w) A (Builtin.«set_iterator.__next__» ⟨[.ref G],[]⟩) Q E ⟨h,g,d,u,os⟩:=by
 unfold siO at U;have hE:∀{J:Array (Int×Value)->Shared->Prop},J B ⟨h,g,d,u,os⟩->wpAny (model l w) A (setEntries a) J E ⟨h,g,d,u,os⟩:=fun q=>wpAny_setEntries_of (s:=⟨h,g,d,u,os⟩) ho hd Y q
 have hS:∀{J:Option (Array Value)->Shared->Prop},J (some H) ⟨h,g,d,u,os⟩->wpAny (model l w) A (seqItems? (.ref T)) J E ⟨h,g,d,u,os⟩:=fun q=>jO (s:=⟨h,g,d,u,os⟩) hT O q
 unfold Builtin.«set_iterator.__next__»;generalize N:setNextDrawn=SN;generalize M:setField=SF;repeat(any_goals (first| assumption | (with_reducible refine hE ?_) | (with_reducible refine hS ?_) | wp_step))
 subst M N;have z2:((i:Int)).toNat=i:=vG _;have z3:((D:Int)).toNat=D:=vG _;rw[z2,z3,hp];refine zf (show wpAny _ _ (setNextDrawn a ((p:Int)).toNat D) _ _ _ from ?_)
 rw[vG];refine zay (s:=⟨h,g,d,u,os⟩) ho hd Y hx (zf (yG U rfl (by show 1<5;decide) (zx (hq _ ?_ (yC _ _ _)))))
 exact xE (Obj.mapFields (·.setIfInBounds 1 (rawInt ((i:Int)+1)))) U rfl
theorem XM{Q:Fin->Shared->Prop}(hh:A.handled=none)(U:h.get? G=some (siO (.ref T) i (.ref a) B.size D))(ho:h.get? a=some o)(hd:o.data=.set B D t)(hf:t.fits B.size=true)(hT:h.get? T=some I)(O:I.data=.seq H c)
  (hp:H[i]? =none) (hq:∀L e,Heap.ExtBut G h L->(∃Y,L.get? e=some Y/\Y.cls=.type "StopIteration")->E (.ref e) ⟨L,g,d,u,os⟩) :
  wpAny (model l w) A (Builtin.«set_iterator.__next__» ⟨[.ref G],[]⟩) Q E ⟨h,g,d,u,os⟩:=by
 unfold siO at U;have hE:∀{J:Array (Int×Value)->Shared->Prop},J B ⟨h,g,d,u,os⟩->wpAny (model l w) A (setEntries a) J E ⟨h,g,d,u,os⟩:=fun q=>wpAny_setEntries_of (s:=⟨h,g,d,u,os⟩) ho hd hf q
 have hS:∀{J:Option (Array Value)->Shared->Prop},J (some H) ⟨h,g,d,u,os⟩->wpAny (model l w) A (seqItems? (.ref T)) J E ⟨h,g,d,u,os⟩:=fun q=>jO (s:=⟨h,g,d,u,os⟩) hT O q
 unfold Builtin.«set_iterator.__next__»;generalize N:setNextDrawn=SN;generalize M:setField=SF;repeat(any_goals (first| assumption | (with_reducible refine hE ?_) | (with_reducible refine hS ?_) | wp_step))
 subst M N;have z2:((i:Int)).toNat=i:=vG _;rw[z2,hp];refine zf (yG U rfl (by show 0<5;decide) ?_)
 have g1:=xE (Obj.mapFields (·.setIfInBounds 0 (rawInt 0))) U rfl
 refine zf (yG g1 rfl (by show 2<5;decide) ?_)
 refine zf (show wpAny _ _ (newExc (.type "StopIteration") []) _ _ _ from ?_)
 unfold newExc newTuple;refine zf (jY (zf (m:=firstArgMember _ _) (yD (a:=Value.none) (by first| rfl | (simp only[firstArgMember];rfl)) (jY ?_))))
 unfold raiseNew;refine zf (wpAny_handled ?_)
 rw[hh];refine zf (zx (Qn (hq _ _ (fun b p hb e=>?_) ⟨_,zL _ rfl,rfl⟩)))
 exact zN _ (zN _ ((x6 _ _ (zG hb)).trans ((x6 _ _ (zG hb)).trans e)))
end
section
variable{c:Program}{w:World}{A:Around}{E:Value->Shared->Prop}{s:Shared}{g:Addr}{l:Obj}
theorem zgt{x:Value}{Q:Option Value->Shared->Prop}{N:Heap->Prop}(u:s.heap.get? g=some l)(hc:l.cls=.type "set_iterator")
  (G:∀(t:Fin->Shared->Prop) (D:Value->Shared->Prop),(∀o,N o->Heap.SameBut g s.heap o->t (.done (.ret x)) { s with heap:=o })->wpAny 0#e A.in1 (Builtin.«set_iterator.__next__» ⟨[.ref g],[]⟩) t D s)
  (hq:∀o,N o->Heap.SameBut g s.heap o->Q (some x) { s with heap:=o }):wpAny 0#e A (pyNext (.ref g)) Q E s:=by
 unfold pyNext;refine zf (yF (y9 (name:=Str.ofString "__next__") (T:= "set_iterator") ⟨_,u,hc⟩ jq (xD jq (T:= "set_iterator") ⟨_,u,hc⟩ yZ (G _ _ fun o n H=>⟨x,rfl,zx (hq o n H)⟩) (ZU _))))
theorem zgs{Q:Option Value->Shared->Prop}(B:s.heap.get? g=some l)(hc:l.cls=.type "set_iterator")
  (H:∀(G:Fin->Shared->Prop) (u:Value->Shared->Prop),(∀o e,Heap.ExtBut g s.heap o->(∃t,o.get? e=some t/\t.cls=.type "StopIteration")->u (.ref e) { s with heap:=o })->wpAny 0#e A.in1 (Builtin.«set_iterator.__next__» ⟨[.ref g],[]⟩) G u s)
  (hq:∀o,Heap.ExtBut g s.heap o->Q none { s with heap:=o }):wpAny 0#e A (pyNext (.ref g)) Q E s:=by
 unfold pyNext;refine zf (yF (y9 (name:=Str.ofString "__next__") (T:= "set_iterator") ⟨_,B,hc⟩ jq (xD jq (T:= "set_iterator") ⟨_,B,hc⟩ yZ (H _ _ fun o e I t=>?_) (ZU _))))
 obtain⟨t,e1,e2⟩:=t;refine zf (yz (T:= "StopIteration") (b:=true) ⟨_,e1,e2⟩ isSubtype_stop ?_)
 exact zx (hq o I)
end
theorem ZG:Slot "set_iterator" "__iter__" "set_iterator.__iter__" :=
 .of (owner:= "set_iterator") (n:= "__iter__") (by rw[typeLookup_type,builtinLookup_eq_fast];kernel_rfl) (by decide +kernel) (by decide +kernel) (by decide +kernel)
  (by first| exact .inl (by decide +kernel) | exact .inr (by decide +kernel)) (by rw[isSubtype_type];kernel_rfl)
theorem XN:entryFor table "set_iterator.__iter__" = some Builtin.«dict_keyiterator.__iter__»:=
 entryFor_alias (id':= "dict_keyiterator.__iter__") (by kernel_rfl) (by first| rfl | decide +kernel) (by decide +kernel) (by kernel_rfl)
theorem Wq(x:Value):argsOk "set_iterator.__iter__" ⟨[x],[]⟩:=by unfold argsOk;kernel_rfl
section
variable{D:Program}{w:World}{A:Around}
theorem JD{B:Addr}{L:List Addr}{n:Nat}{P:Nat->Value->Prop}{St:Nat->Heap->Prop}(hf:B∈L)(U:∀i h,St i h->∃H,h.get? B=some H/\H.cls=.type "set_iterator")
  (N:∀i h g,St i h->(∀b∈L,∀o,h.get? b=some o->g.get? b=some o)->St i g)
  (O:∀i (s:Shared),i<n->St i s.heap->∃x,P i x/\∀(J:Fin->Shared->Prop) (I:Value->Shared->Prop),(∀g,St (i+1) g->Heap.SameBut B s.heap g->J (.done (.ret x)) { s with heap:=g })->wpAny (model D w) A.in1 (Builtin.«set_iterator.__next__» ⟨[.ref B],[]⟩) J I s)
  (M:∀(s:Shared),St n s.heap->∀(J:Fin->Shared->Prop) (I:Value->Shared->Prop),(∀g e,Heap.ExtBut B s.heap g->(∃ob,g.get? e=some ob/\ob.cls=.type "StopIteration")->I (.ref e) { s with heap:=g })->wpAny (model D w) A.in1 (Builtin.«set_iterator.__next__» ⟨[.ref B],[]⟩) J I s) :
  Walks D w A B L [B] n P St where
 sub:=fun b hb=>by rw[zW.mp hb];exact hf
 frame:=N
 item:=fun i s Q E hi st u=>by
  obtain⟨H,e,c⟩:=U i _ st;obtain⟨x,px,hx⟩:=O i s hi st;exact zgt e c hx fun g Y sb=>u x g s.toks px Y fun b o hb e=>(sb.2 b fun z=>hb (by rw[z];exact zW.mpr rfl)).trans e
 done:=fun s Q E st u=>by
  obtain⟨H,e,c⟩:=U n _ st;exact zgs e c (M s st) fun g xb=>u g s.toks fun b o hb e=>xb b o (fun z=>hb (by rw[z];exact zW.mpr rfl)) e
 self:=fun i s Q E st u=>by
  obtain⟨H,e,c⟩:=U i _ st;refine wpAny_pyIter_slot (T:= "set_iterator") ⟨_,e,c⟩ ZG (xD ZG (T:= "set_iterator") ⟨_,e,c⟩ XN ?_ (Wq _))
  exact zx ⟨_,rfl, "set_iterator",_,⟨_,e,c⟩,jq.lookup,u⟩
def Zc(g:Array Nat):Nat->Nat
 | 0=>0
 | i+1=>g.getD i 0+1
theorem Xi{g:Array Nat}(u:Up g){i:Nat}(h:i<=g.size):SetTable.below g (Zc g i)=i:=by
 cases i with
 | zero=>exact Y9 u (qB _) (fun k a hk=>absurd hk (xZ _)) fun k a _ _=>qB _
 | succ i=>
  have e:g[i]? =some (g[i]'(by omega)):=xh _
  have l:Zc g (i+1)=g[i]'(by omega)+1:=by show g.getD i 0+1=_;rw[vm,e];rfl
  rw[l];refine Y9 u h (fun k a hk s=>?_) fun k a hk s=>?_
  ·by_cases q:k=i
   ·subst q;rw[e] at s;cases s;omega
   ·have:=u.lt s e (by omega);omega
  ·have:=u.lt e s (by omega);omega
variable{B a T:Addr}{o oT:Obj}{l:Array (Int×Value)}{G c:Nat}{t:SetTable}
theorem zc3(hh:A.handled=none)(L:w.params.followText "set-order" = true)(hd:o.data=.set l G t)(E:t.fits l.size=true) :
  Walks D w A B [B,a] [B] l.size (fun i v=>((pickOrder (w.params.setOrder a G) l).toList.map (·.2))[i]? =some v) (fun i h=>h.get? B=some (siO (.int 0 0) i (.ref a) l.size G)/\h.get? a=some o):=by
 have ln:(pickOrder (w.params.setOrder a G) l).size=l.size:=by have:=(Ve (w.params.setOrder a G) l).length_eq;rwa[qK,qK] at this
 refine JD (by simp) (fun i h st=>⟨_,st.1,rfl⟩) (fun i h u st k=>⟨k B (by simp) _ st.1,k a (by simp) _ st.2⟩) (fun i s hi st=>?_) fun s st O N hq=>?_
 ·have e:(pickOrder (w.params.setOrder a G) l)[i]? =some ((pickOrder (w.params.setOrder a G) l)[i]'(by omega)):=xh _
  refine⟨((pickOrder (w.params.setOrder a G) l)[i]'(by omega)).2,by rw[zY,wR,e];rfl,fun O N hq=>?_⟩
  obtain⟨h,g,d,I,os⟩:=s;refine Ys (sl:=0) (nx:=0) st.1 st.2 hd E (fun Q H=>Vi (s:=⟨h,g,d,I,os⟩) L st.2 hd E (by rw[e];exact H)) fun u U M=>hq u ⟨U,?_⟩ M
  have ne:a≠B:=fun z=>by
   have Y:=st.1;have J:=st.2;rw[z,Y] at J;cases J;cases hd
  exact(M.2 a ne).trans st.2
 ·have e:(pickOrder (w.params.setOrder a G) l)[l.size]? =none:=XC (by omega)
  obtain⟨h,g,d,I,os⟩:=s;exact ZH (sl:=0) hh st.1 st.2 hd E (fun Q H=>Vi (s:=⟨h,g,d,I,os⟩) L st.2 hd E (by rw[e];exact H)) fun u e xb ob=>hq u e xb ob
theorem zd7(hh:A.handled=none)(O:w.params.followText "set-order" = false)(Y:(!t.plain&&decide (l.size>1))=false)(U:t.led=true)(u:Up t.place)(hd:o.data=.set l G t)(E:t.fits l.size=true) :
  Walks D w A B [B,a] [B] l.size (fun i v=>(l.toList.map (·.2))[i]? =some v) (fun i h=>h.get? B=some (siO (.int (Zc t.place i:Nat) 0) i (.ref a) l.size G)/\h.get? a=some o):=by
 have sz:t.place.size=l.size:=by
  simp only[SetTable.fits,jI,xp] at E;exact E.1
 refine JD (by simp) (fun i h st=>⟨_,st.1,rfl⟩) (fun i h I st k=>⟨k B (by simp) _ st.1,k a (by simp) _ st.2⟩) (fun i s Q st=>?_) fun s st Q' E' hq=>?_
 ·have e:l[i]? =some (l[i]'Q):=xh _
  have H:t.place[i]? =some (t.place[i]'(by omega)):=xh _
  have L:Zc t.place (i+1)=t.place[i]'(by omega)+1:=by show t.place.getD i 0+1=_;rw[vm,H];rfl
  refine⟨(l[i]'Q).2,by rw[zY,wR,e];rfl,fun Q' E' hq=>?_⟩
  obtain⟨h,g,d,M,os⟩:=s;refine Ys (sl:=Zc t.place i) (nx:=Zc t.place (i+1)) st.1 st.2 hd E (fun Q2 J=>YC (s:=⟨h,g,d,M,os⟩) O Y U st.2 hd E ?_) fun I g1 sb=>hq I ⟨g1,?_⟩ sb
  ·rw[Xi u (by omega),e,H]
   rw[L] at J;exact J
  ·have ne:a≠B:=fun z=>by
    have h1:=st.1;have N:=st.2;rw[z,h1] at N;cases N;cases hd
   exact(sb.2 a ne).trans st.2
 ·obtain⟨h,g,d,M,os⟩:=s
  refine ZH (sl:=Zc t.place l.size) hh st.1 st.2 hd E (fun Q2 J=>YC (s:=⟨h,g,d,M,os⟩) O Y U st.2 hd E ?_) fun I e xb ob=>hq I e xb ob
  rw[Xi u (by omega),XC (xs:=l) (by omega)]
  exact J
theorem zab{ps:List Nat}(hh:A.handled=none)(hd:o.data=.set l G t)(O:t.fits l.size=true)(I:oT.data=.seq (ps.map fun i:Nat=>Value.int i 0).toArray c)(Q:ps.Perm (List.range l.size)) :
  Walks D w A B [B,a,T] [B] l.size (fun i v=>(ps.map fun j=>(l.getD j (0,.none)).2)[i]? =some v) (fun i h=>h.get? B=some (siO (.ref T) i (.ref a) l.size G)/\h.get? a=some o/\h.get? T=some oT):=by
 have ln:ps.length=l.size:=by have:=Q.length_eq;rwa[zV] at this
 have lt:∀j∈ps,j<l.size:=fun j E=>qt.mp (Q.mem_iff.mp E)
 have ne:∀(h:Heap) (i:Nat),h.get? B=some (siO (.ref T) i (.ref a) l.size G)->h.get? a=some o->h.get? T=some oT->a≠B/\T≠B:=fun h i L M N=>by
  refine⟨fun z=>?_,fun z=>?_⟩
  ·rw[z,L] at M;cases M;cases hd
  ·rw[z,L] at N;cases N;cases I
 refine JD (by simp) (fun i h st=>⟨_,st.1,rfl⟩) (fun i h H st k=>⟨k B (by simp) _ st.1,k a (by simp) _ st.2.1,k T (by simp) _ st.2.2⟩) (fun i s hi st=>?_) fun s st Y U hq=>?_
 ·have u:i<ps.length:=by omega
  have E:=lt _ (xB u);have e:l[ps[i]]? =some (l[ps[i]]'E):=xh _;refine⟨(l[ps[i]]'E).2,?_,fun Y U hq=>?_⟩
  ·rw[zY,qg u]
   show some (l.getD ps[i] (0,.none)).2=some _;rw[vm,e];rfl
  obtain⟨h,g,d,tk,os⟩:=s;obtain⟨n1,n2⟩:=ne h i st.1 st.2.1 st.2.2;refine zdh (p:=ps[i]) st.1 st.2.1 hd O st.2.2 I (by simp[u]) (hs:=(l[ps[i]]'E).1) e fun H g1 J=>hq H ⟨g1,(J.2 a n1).trans st.2.1,(J.2 T n2).trans st.2.2⟩ J
 ·obtain⟨h,g,d,tk,os⟩:=s
  exact XM hh st.1 st.2.1 hd O st.2.2 I (by simp;omega) fun H e xb ob=>hq H e xb ob
end
section
variable{prog:Program}{w:World}{A:Around}{E:Value->Shared->Prop}{s:Shared}{a:Addr}{o:Obj}{g:Array (Int×Value)}{B:Nat}{t:SetTable}
def zk0(prog:Program)(w:World)(s:Shared)(a:Addr)(g:Array (Int×Value))(Q:Value->Shared->Prop):Prop:=
 ∀(D:Addr) (I:List Addr) (G:Heap) (J:Drawn) (l:List Value) (St:Nat->Heap->Prop),s.heap.objs.size<=D->(∀H:Around,H.handled=none->Walks prog w H D I [D] g.size (fun i v=>l[i]? =some v) St)->St 0 G ->
  (∀c u,s.heap.get? c=some u->G.get? c=some u)->(∀c∈I,c=a\/s.heap.objs.size<=c)->l.Perm (g.toList.map (·.2))->Q (.ref D) { s with heap:=G,drawn:=J }
theorem zdF{Q:Value->Shared->Prop}(l:s.heap.get? a=some o)(L:o.ExactSet)(hd:o.data=.set g B t)(D:t.fits g.size=true)(hb:g.size<scanBound)(Y:TabOk (Wd w) t)(h:zk0 prog w s a g Q):wpAny (model prog w) A (pyIter (.ref a)) Q E s:=by
 have U:s.TypeIs (.ref a) "set" :=⟨_,l,L.1⟩;refine wpAny_pyIter_slot U slot_set_iter (xD slot_set_iter U Xa ?_ (XR _))
 have lt:=zH l;unfold Builtin.«frozenset.__iter__»;refine zf (show wpAny _ _ (pure a) _ _ _ from zx ?_)
 refine zf (show wpAny _ _ (setEntries a >>= fun x=>pure x.size) _ _ _ from zf (wpAny_setEntries_of l hd D (zx ?_)))
 refine zf (zfz l hd D ?_)
 cases J:w.params.followText "set-order" with
 | true=>
  refine zf (zx (zf (wpAny_setEpoch_of l hd D (zf (jY (zx ⟨_,rfl, "set_iterator",_,⟨_,zL _ rfl,rfl⟩,jq.lookup,?_⟩))))))
  refine h s.heap.objs.size [s.heap.objs.size,a] _ s.drawn _ _ (zD _) (fun N H=>zc3 H J hd D) ⟨zL _ rfl,zN _ l⟩ (fun c u e=>zN _ e) (fun c hc=>?_) ((Ve _ g).map _)
  rcases zC.mp hc with z | z
  ·rw[z];exact .inr (zD _)
  ·exact .inl (zW.mp z)
 | false=>
  have hl:t.led=true:=by rw[Y.led];unfold Wd;rw[J];rfl
  cases hp:(!t.plain&&decide (g.size>1)) with
  | false=>
   refine zf (zx (zf (wpAny_setEpoch_of l hd D (zf (jY (zx ⟨_,rfl, "set_iterator",_,⟨_,zL _ rfl,rfl⟩,jq.lookup,?_⟩))))))
   refine h s.heap.objs.size [s.heap.objs.size,a] _ s.drawn _ _ (zD _) (fun N H=>zd7 H J hp hl Y.up hd D) ⟨zL _ rfl,zN _ l⟩ (fun c u e=>zN _ e) (fun c hc=>?_) (.refl _)
   rcases zC.mp hc with z | z
   ·rw[z];exact .inr (zD _)
   ·exact .inl (zW.mp z)
  | true=>
   refine zf (WU _ _ s (by simp) fun d' G M=>?_)
   have ln:G.length=g.size:=by have:=M.length_eq;rwa[zV] at this
   refine zf (show wpAny _ _ (newObj (.type "tuple") (.seq (G.map fun(i:Nat)=>rawInt i).toArray)) _ _ _ from jY ?_ (by show(G.map fun(i:Nat)=>rawInt i).toArray.size<=sizeLine;rw[zZ,zv,ln];exact fits_of_scanBound hb))
   have I:=zN { cls:=.type "tuple",data:=.seq (G.map fun(i:Nat)=>rawInt i).toArray } l
   refine zf (wpAny_setEpoch_of I hd D (zf (jY (zx ⟨_,rfl, "set_iterator",_,⟨_,zL _ rfl,rfl⟩,jq.lookup,?_⟩))))
   refine h _ [_,a,s.heap.objs.size] _ d' _ _ ?_ (fun N H=>zab (T:=s.heap.objs.size) (ps:=G) H hd D (c:=0) (oT:={ cls:=.type "tuple",data:=.seq (G.map fun(i:Nat)=>rawInt i).toArray }) rfl M) ⟨zL _ rfl,zN _ I,zN _ (zL _ rfl)⟩ (fun c u e=>zN _ (zN _ e)) (fun c hc=>?_) ?_
   ·rw[qJ];exact vn _
   ·rcases zC.mp hc with z | z
    ·rw[z,qJ];exact .inr (vn _)
    ·rcases zC.mp z with z | z
     ·exact .inl z
     ·rw[zW.mp z];exact .inr (zD _)
   ·have e:g.toList.map (·.2)=(List.range g.size).map fun j=>(g.getD j (0,.none)).2:=by
     refine Zu (by simp) fun j O h2=>?_
     simp only[zv,zV,qK] at O;simp[vm,O]
    rw[e];exact M.map _
theorem zfA{Q:Bool->Shared->Prop}(c:s.TypeIs (.ref a) "set")(h:Q false s):wpAny (model prog w) A (Builtin.List.listLengthHint (.ref a)) Q E s:=by
 unfold Builtin.List.listLengthHint;refine zf (wpAny_specialOf c PySem.F.slot_set_len.lookup ?_)
 generalize u:("set.__len__" : String)=l;wp_delta
 rw[show splitId l=some ("set", "__len__") from by subst u;decide +kernel]
 subst u;refine zf (yz (T:= "set") (b:=true) c (by rw[isSubtype_type];kernel_rfl) ?_)
 refine wpAny_ite_split (fun z=>absurd z (by decide)) fun _=>wpAny_ite_split (fun _=>zf (Zn c (zx h))) fun z=>absurd (by decide +kernel) z
theorem zhp{c:Array Value}{u:List Value}{n:Nat}(h:ItemsOf (fun i v=>u[i]? =some v) c n)(l:u.length=n):c.toList=u:=by
 refine List.ext_getElem? fun i=>?_
 by_cases D:i<c.size
 ·have e:=xh D
  rw[wR,e];exact(h.2 i _ e).symm
 ·rw[List.getElem?_eq_none (by rw[qK];omega),List.getElem?_eq_none (by have:=h.1;omega)]
theorem zfH{R:Result->Shared->Prop}(hh:A.handled=none)(ho:s.heap.get? a=some o)(H:o.ExactSet)(hd:o.data=.set g B t)(hf:t.fits g.size=true)(hb:g.size<scanBound)(tb:TabOk (Wd w) t)(S:Addr)(M:S≠a)(res:Value)(c0:Nat)
  (hS:s.heap.get? S=some { cls:=.type "list",data:=.seq #[] c0 })
  (hR:∀h' U d' c J,(∀b u,b≠S->s.heap.get? b=some u->h'.get? b=some u)->h'.get? S=some { cls:=.type "list",dict:=none,data:=.seq c J,slots:=#[] }->c.toList.Perm (g.toList.map (·.2))->R (.ok (.ret res)) { s with heap:=h',toks:=U,drawn:=d' }) :
  wpAny (model prog w) A.in1 (Builtin.List.listExtendWith (.ref S) (.ref a) res) (fun a0 I=>match a0 with | .done f=>R (.ok f) I | .again J=>J.quiet=true/\codeAny (model prog w) A J R I) (fun e I=>R (.error e) I) s:=by
 have hn:=fits_of_scanBound hb;have hT:s.TypeIs (.ref a) "set" :=⟨_,ho,H.1⟩;have ltS:=zH hS;have a7:Builtin.List.listSameRef (.ref S) (.ref a)=false:=by simp[Builtin.List.listSameRef,M]
 have nl:(Value.type "set" == Value.type "list")=false:=by decide
 have nt:(Value.type "set" == Value.type "tuple")=false:=by decide
 unfold Builtin.List.listExtendWith;refine zf (Zn hT ?_)
 simp only[a7,nl,nt,Bool.or_false,jw,if_false];refine zf (zdF ho H hd hf hb tb fun it fp Q d1 a8 St a5 W st T a1 pm=>?_)
 have lo:a8.length=g.size:=by have:=pm.length_eq;rwa[zv,qK] at this
 have N:S∉fp:=fun z=>by
  rcases a1 S z with q | q
  ·exact M q
  ·exact absurd ltS (Qm.mpr q)
 have D:∀(L:Heap) (Y U:Nat),St 0 L->(∀b u,b≠S->s.heap.get? b=some u->L.get? b=some u)->L.get? S=some { cls:=.type "list",data:=.seq #[] Y } ->
   codeAny (model prog w) A (.builtin "list.extend.loop" ⟨[.ref S,.ref it,res],[]⟩) R ⟨L,s.gens,d1,U,s.os⟩:=by
  intro L Y U a9 k2 l;refine codeAny_extend_loopS (W A.in1 hh).toS hn S N res g.size 0 _ #[] Y rfl (qB _) a9 l (ItemsOf.nil _) fun I c J hm a2 a6=>?_
  rw[Moved.eq_with hm];refine hR I.heap I.toks d1 c J (fun b u hb e=>hm.heap b u (fun z=>?_) (k2 b u hb e)) a2 (by rw[zhp a6 lo];exact pm)
  rcases zC.mp z with q | q
  ·exact hb q
  ·rw[zW.mp q] at e
   exact absurd (zH e) (Qm.mpr a5)
 have G:=T S _ hS;have a4:Shared.TypeIs ⟨Q,s.gens,d1,s.toks,s.os⟩ (.ref a) "set" :=⟨_,T a _ ho,H.1⟩;refine zf (jD (zfA a4 ?_))
 refine wpAny_ite_split (fun _=>?_) (fun _=>zx ⟨plainId_quiet zfV _,D Q c0 _ st (fun b u _ e=>T b u e) G⟩)
 refine zf (xS (zf (show wpAny _ _ (updateSeq S (·.push .none) >>= fun _=>updateSeq S (·.pop)) _ _ _ from zf (wG G rfl ?_))))
 have l:=xE (Obj.mapSeq (·.push Value.none)) G rfl
 refine wG (hz:=by seq_fits) l rfl ?_
 have a3:=xE (Obj.mapSeq (·.pop)) l rfl
 have O:∀b u,b≠S->Q.get? b=some u->((Q.update S (Obj.mapSeq (·.push Value.none))).update S (Obj.mapSeq (·.pop))).get? b=some u:=fun b u hb e=>(x6 _ _ (zG hb)).trans ((x6 _ _ (zG hb)).trans e)
 refine zx ⟨plainId_quiet zfV _,D _ _ _ ((W A.in1 hh).frame 0 _ _ st fun b hb u e=>O b u (fun z=>N (z▸hb)) e) (fun b u hb e=>O b u hb (T b u e)) a3⟩
theorem zdQ{R:List Value->Shared->Prop}(hh:A.handled=none)(T:s.heap.get? a=some o)(M:o.ExactSet)(hd:o.data=.set g B t)(hf:t.fits g.size=true)(hb:g.size<scanBound)(tb:TabOk (Wd w) t)
  (h:∀D H G U,(∀b u,s.heap.get? b=some u->D.get? b=some u)->U.Perm (g.toList.map (·.2))->R U { s with heap:=D,toks:=H,drawn:=G }):wpAny (model prog w) A (collect (.ref a)) R E s:=by
 have lt:=zH T;unfold collect;refine zf (wpAny_runValue (codeAny_builtin PySem.F.entry_proto_collect ?_))
 rw[wQ PySem.F.plain_proto_collect _];refine(show wpAny _ A.in1 (newList [] >>= fun l=>again (.builtin "list.__iadd__" ⟨[l,.ref a],[]⟩)) _ _ s from zf (jY (zx ⟨plainId_quiet PySem.F.plain_list_iadd _,codeAny_builtin PySem.F.entry_list_iadd ?_⟩)))
 rw[wQ PySem.F.plain_list_iadd _];have hS:(s.heap.push { cls:=.type "list",data:=.seq ([]:List Value).toArray }).get? s.heap.objs.size=some { cls:=.type "list",data:=.seq #[] }:=zL _ rfl;have N:=zfH (A:=A) (w:=w) (prog:=prog) (s:={ s with heap:=s.heap.push { cls:=.type "list",data:=.seq ([]:List Value).toArray } }) (a:=a)
  (R:=fun q O=>∃(D:Heap) (H:Nat) (G:Drawn) (c:Array Value) (I:Nat),q=.ok (.ret (.ref s.heap.objs.size))/\O={ s with heap:=D,toks:=H,drawn:=G }/\(∀b u,s.heap.get? b=some u->D.get? b=some u) /\
   D.get? s.heap.objs.size=some { cls:=.type "list",dict:=none,data:=.seq c I,slots:=#[] }/\c.toList.Perm (g.toList.map (·.2)))
  hh (zN _ T) M hd hf hb tb s.heap.objs.size (jH lt) (.ref s.heap.objs.size) 0 hS fun D H G c I k e p=>⟨D,H,G,c,I,rfl,rfl,fun b u Q=>k b u (zP (zH Q)) (zN _ Q),e,p⟩
 refine jt N (fun L O x=>?_) fun e O x=>?_
 ·cases L with
  | done f=>
   obtain⟨D,H,G,c,I,e,rfl,k,J,p⟩:=x;cases e;exact zf (wpAny_load J (zx (h D H G _ k p)))
  | again c1=>
   refine⟨x.1,codeAny_mono x.2 fun q s2 y=>?_⟩
   obtain⟨D,H,G,c,I,rfl,rfl,k,J,p⟩:=y;exact zf (wpAny_load J (zx (h D H G _ k p)))
 ·obtain⟨_,_,_,_,_,Y,_⟩:=x
  cases Y
end
section
variable{X:Cx}
def zex(P:Program)(w:World)(p:Addr)(c:List Key):HO:=.ext fun h=>SetX (zM P w) (Wd w) h p c
inductive QT(P:Program)(w:World)(g:List V)(H:Hp)(Q:VK):Prop
 | mk (a:Addr) (c:List Key) (_:g=[.ref a]) (_:H a=some (.lst (c.map kV))) (_:c.length<=4000) (_:∀p,H p=none->Q (.ref p) (upd H p (zex P w p (Z5 [] c)))):QT P w g H Q
theorem zdU(J:X.A.handled=none):jE X (.type "set") (QT X.prog X.w):=by
 intro D s σ H xs us Q I r h;obtain⟨a,g,rfl,hx,hl,q⟩:=h;obtain⟨u,rfl,O⟩:=u9 r;cases(show u=Value.ref a from O)
 obtain⟨zz,M,n,c,hg⟩:=(show ObjOk X.prog X.w H s.heap a (.lst (g.map kV)) from I.hok a _ hx)
 have ln:=c.length;rw[zv] at ln;have L:H s.heap.objs.size=none:=I.hok.fresh (zD _);have sb:scanBound=4096:=rfl;refine zdT (knd:=zM X.prog X.w) (keys:=g) J hg (by simp[ln]) (by simp;omega) (fun j u e=>?_) fun U T E k=>?_
 ·rw[List.getElem?_toArray] at e
  obtain⟨x,w,l⟩:=Vals.at c e;rw[zY] at w;obtain⟨B,G,rfl⟩:=qH.mp w;refine⟨B,G,xc l,?_⟩
  cases B with
  | inl i=>obtain⟨t,rfl⟩:=l;rfl
  | inr i=>obtain⟨t,rfl⟩:=l;rfl
 ·refine⟨.ref s.heap.objs.size,_,I.laid (a:=s.heap.objs.size) (o:=zex X.prog X.w s.heap.objs.size (Z5 [] g)) (t':=T) k (zD _) ⟨E,?_,fun Y h2 x e=>x.at e⟩,rfl,q _ L⟩
  obtain⟨o,e,_⟩:=E;exact⟨o,e⟩
end
theorem Inv.drawn{X:Cx}{c:List (Addr×Obj)}{σ:St}{H:Hp}{s:Shared}(I:Inv X c σ H s)(d:Drawn):Inv X c σ H { s with drawn:=d }:=
 I.call' (s':={ s with drawn:=d }) (ch:=[]) rfl Un.refl I.hok I.bare fun b hb=>(nomatch hb)
theorem JP{α β γ:Type}{R:α->γ->Prop}{f:β->γ}:∀{c:List α} {g:List β},Paired (fun x y=>R x (f y)) c g->Paired R c (g.map f)
 | _,_,.nil=>.nil
 | _,_,.cons h t=>.cons h (JP t)
theorem zeM:∀{ks:List Key},(∀k∈ks,∃i,k=Sum.inr i)->∃c:List Str,ks=c.map Sum.inr
 | [],_=>⟨[],rfl⟩
 | k::ks,h=>by
  obtain⟨i,e⟩:=h k (by simp)
  obtain⟨c,e2⟩:=zeM (ks:=ks) fun g hk=>h g (z9 _ hk)
  exact⟨i::c,by rw[e,e2];rfl⟩
theorem QF{P:Program}{w:World}:∀{g:List Str} {c:List Value},Paired (fun k v=>(zM P w).is k v=true) (g.map Sum.inr) c->StrsAre c g
 | [],c,h=>by cases h;exact .nil
 | z::g,c,h=>by
  cases h with
  | cons r t=>
   obtain⟨l,rfl⟩:=zfx r;exact .cons z l (QF t)
theorem V8{α β:Type}{f:α->β}{l:List α}(h:(l.map f).Nodup):l.Nodup:=by
 have c:l.Pairwise fun a b=>f a≠f b:=wO.mp h
 exact c.imp fun n e=>n (by rw[e])
section
variable{X:Cx}
theorem zdd{D:List (Addr×Obj)}{σ:St}{H:Hp}{s:Shared}{a:Addr}{A:List Key}{E:Value->Shared->Prop}{Q:Value->Shared->Prop}(hh:X.A.handled=none)(I:Inv X D σ H s)(hx:H a=some (zex X.prog X.w a A))
  (h:∀(c:Heap) (N:Nat) (J:Drawn) (g:List Value) (B:List Key),B.Perm A->A.Nodup->Paired (fun k v=>(zM X.prog X.w).is k v=true) B g->(∀b u,s.heap.get? b=some u->c.get? b=some u) ->
   wpAny 0#b X.A.in1.in1 (Builtin.«list.sort» ⟨[.ref c.objs.size],[]⟩) (fun l U=>∃v,l=.done (.ret v)/\Q (.ref c.objs.size) U) E { s with heap:=c.push (seqObj "list" g.toArray 0),toks:=N,drawn:=J }) (a0:A.length<64) :
  wpAny 0#b X.A (call (.builtin "sorted") [.ref a]) Q E s:=by
 obtain⟨sx,_,_⟩:=(show ObjOk X.prog X.w H s.heap a (zex X.prog X.w a A) from I.hok a _ hx)
 obtain⟨o,ho,Y,ep,t,L,hd,O,nd,hb,hf,tb⟩:=sx;have le:=O.len;rw[qK] at le;obtain⟨_,a1,p1,pr⟩:=O;have sz:sizeLine=16777216:=sizeLine_eq;refine zbf kind_sorted plain_sorted entry_sorted (args_sorted1 _) ?_
 delta Builtin.«sorted»;refine zf (m:=checkCount "sorted" 1 1 _) (zx (zf (zdQ hh ho L hd hf hb tb fun c N J g w T=>?_)))
 obtain⟨M,p2,pr2⟩:=QJ T (JP (R:=fun k v=>(zM X.prog X.w).is k v=true) (f:=Prod.snd) pr)
 have lv:g.length=Y.size:=by have:=T.length_eq;rwa[zv,qK] at this
 refine zf (wpAny_newList ?_ (by omega))
 have G:(c.push (seqObj "list" g.toArray 0)).get? c.objs.size=some (seqObj "list" g.toArray 0):=zL _ rfl;refine zf (jD (xD slot_list_sort ⟨_,G,rfl⟩ entry_list_sort (jt (h c N J g M (p2.trans p1) nd pr2 w) (fun l U x=>?_) fun _ _ e=>e) (args_list_sort _)))
 obtain⟨v,ev,q⟩:=x;exact⟨v,ev,zx ⟨_,rfl,q⟩⟩
theorem yk{l:List (Addr×Obj)}{σ:St}{H:Hp}{s:Shared}{g:Heap}{vs:List Value}{out:Array Value}{zs:List V}{tk:Nat}{d':Drawn}(I:Inv X l σ H s)(c:∀b u,s.heap.get? b=some u->g.get? b=some u)(D:Vals zs out.toList)(G:zs.length<=sizeLine) :
  Inv X l σ (upd H g.objs.size (.lst zs)) { s with heap:=sortedHeap (g.push (seqObj "list" vs.toArray 0)) g.objs.size vs out,toks:=tk,drawn:=d' }/\H g.objs.size=none:=by
 have w:(g.push (seqObj "list" vs.toArray 0)).get? g.objs.size=some (seqObj "list" vs.toArray 0):=zL _ rfl;have t:s.heap.get? g.objs.size=none:=by
  cases z:s.heap.get? g.objs.size with
  | none=>rfl
  | some o=>exact absurd (zH (c _ _ z)) (jW _)
 obtain⟨A,B⟩:=sortedHeap_at (out:=out) w;refine⟨(I.drawn d').laidN (a:=g.objs.size) (o:=.lst zs) (t':=tk) (fun b o e=>?_) t ⟨G,out.toList,A,D,by rw[B]⟩,I.hok.none_of t⟩
 have E:=zH (c b o e);rw[sortedHeap_old (zP E) (by rw[qJ];exact xt E)]
 exact zN _ (c b o e)
inductive wV(P:Program)(w:World)(l:List V)(H:Hp)(Q:VK):Prop
 | mk (a:Addr) (g:List Str) (_:l=[.ref a]) (_:H a=some (zex P w a (Z5 [] (g.map Sum.inr)))) (_:g.length<64) (_:∀(p:Addr) (c:List Str),H p=none->sortedS c=true->c.Nodup->(∀j,j∈c↔j∈g)->Q (.ref p) (upd H p (.lst (c.map V.str)))):wV P w l H Q
theorem XO(hh:X.A.handled=none):jE X (.builtin "sorted") (wV X.prog X.w):=by
 intro T s σ H xs us Q I r h;obtain⟨a,O,rfl,hx,a0,q⟩:=h;obtain⟨u,rfl,ru⟩:=u9 r;cases(show u=Value.ref a from ru)
 have lk:=W4 (O.map Sum.inr:List Key) [];rw[Zr,zv] at lk;have sz:sizeLine=16777216:=sizeLine_eq;refine zdd hh I hx (fun l L w c B E nd U g=>?_) (by omega)
 have mem:∀k,k∈B↔k∈O.map Sum.inr:=fun k=>by rw[E.mem_iff,W3];simp
 obtain⟨M,ez⟩:=zeM fun k hk=>by
  obtain⟨i,_,e⟩:=qr.mp ((mem k).mp hk);exact⟨i,e.symm⟩
 subst ez;have t:(l.push (seqObj "list" c.toArray 0)).get? l.objs.size=some (seqObj "list" c.toArray 0):=zL _ rfl;have lz:=E.length_eq;rw[zv] at lz;have lv:c.length=M.length:=by have:=Xn U;rw[zv] at this;omega
 have A:=QF U;refine list_sort_treeK strKind_oneLt (s:={ s with heap:=l.push (seqObj "list" c.toArray 0),toks:=L,drawn:=w }) t A.keysOf (fun v1 v2 rest e=>keyKind_strs (by rw[<- e];exact A)) (by omega) fun G b1 b2=>⟨_,rfl,?_⟩
 obtain⟨N,Y,o,a3⟩:=sorted_out_str A b1 b2;have D:M.Nodup:=V8 (E.nodup_iff.mpr nd);obtain⟨J,hn⟩:=yk (vs:=c) (out:=(arrOf G).map (·.2)) (zs:=N.map V.str) (tk:=L) (d':=w) I g (XU Y) (by rw[zv,o.length_eq];omega)
 refine⟨.ref l.objs.size,_,J,rfl,q _ N hn a3 (o.nodup_iff.mpr D) fun j=>?_⟩
 rw[o.mem_iff];have:=mem (Sum.inr j);simpa using this
end
section
variable{X:Cx}{D t A:Expr}{w E:List Expr}{scope:Scope}{H:Pos}{wi L:TI}{tf I:TT}{Y:TE}{x y z u:Str}{O Q U N tp J:Pos}{M G:Nat}
variable{s e:Expr}{g:List Expr}{to:TE}{B:TA}{l:Str}{o c:Pos}{T id:String}{r:V->List V->Hp->VK->Prop}
theorem ze0{K:W.Frag}(hK:X.K=K)(pa:PlainAttrs T)(a4:Slot T l id)(a5:typeOf (.builtin id)=pure (.type "method_descriptor"))(hm:MtR X id r)(ho:PE X s to)(ha:PA X (e::g) B)
  (a1:attributeBase s l X.env (eval s X.env)=eval s X.env:=by rfl)
  (a3:((backTo c (starEach (e::g) X.env)).all (fun x=>!x.1)&&(backToKw c (keywordEach [] X.env)).all (fun x=>x.1.isSome)&&decide ((e::g).length+([]:List Keyword).length+(if([]:List Keyword).isEmpty then 0 else 1)<30))=true:=by rfl)
  (a2:(o.endLine==c.line)=true:=by rfl) (hs:starEach (e::g) X.env=(false,eval e X.env)::starEach g X.env:=by rfl) (a0:(backTo c (starEach g X.env)).any (·.1)=false:=by rfl) :
  PE X (.Call (.Attribute s l o) (e::g) [] c) (tBM K T r to B):=by
 subst hK;exact yi pa a4 a5 hm ho ha a1 a3 a2 hs a0
end
end L2
namespace L2
open PySem PySem.Spec PyProof.Rows PySem.W
def KRun{α:Type}(c:Nat->Nat->Bool)(n:Nat):KasT α->(α->Prop)->Prop
 | .ret a,Q=>Q a
 | .ask i j k,Q=>i<n/\j<n/\KRun c n (k (c i j)) Q
theorem KRun.mono{α:Type}{l:Nat->Nat->Bool}{n:Nat}{Q g:α->Prop}(h:∀a,Q a->g a):∀{t:KasT α},KRun l n t Q->KRun l n t g
 | .ret a,x=>h a x
 | .ask i j k,⟨a,b,c⟩=>⟨a,b,KRun.mono h c⟩
def u8:=@KRun.mono
theorem KRun.bind{α β:Type}{g:Nat->Nat->Bool}{n:Nat}{f:α->KasT β}{Q:β->Prop}:∀{t:KasT α},KRun g n t (fun a=>KRun g n (f a) Q)->KRun g n (t.bind f) Q
 | .ret a,x=>x
 | .ask i j k,⟨a,b,c⟩=>⟨a,b,KRun.bind c⟩
def uc:=@KRun.bind
theorem KRun.wp{α:Type}{bt:Nat->Nat->Bool}{n:Nat}{ask:Nat->Nat->(Bool->Shared->Prop)->Shared->Prop}{J:Shared->Prop}{Q:α->Prop}{G:α->Shared->Prop}
  (o:∀i j,i<n->j<n->∀(C:Bool->Shared->Prop) s,J s->(∀l,J l->C (bt i j) l)->ask i j C s) (hg:∀a s,Q a->J s->G a s):∀{t:KasT α} {s:Shared},KRun bt n t Q->J s->t.kasWp ask G s
 | .ret a,s,x,j=>hg a s x j
 | .ask i j k,s,⟨a,b,c⟩,u=>o i j a b _ s u fun l g=>KRun.wp o hg c g
section
variable{n:Nat}{r:Nat->Nat}
def vA(r:Nat->Nat)(p:Array Nat)(k:Nat):Nat:=r (p.getD k 0)
structure Gd(n:Nat)(p:Array Nat):Prop where
 pm:p.toList.Perm (List.range n)
theorem Gd.sz{p:Array Nat}(g:Gd n p):p.size=n:=by have:=g.pm.length_eq;rwa[qK,zV] at this
theorem Gd.at{p:Array Nat}(g:Gd n p){k:Nat}(h:k<n):p[k]? =some (p.getD k 0):=by
 rw[vm,xh (by rw[g.sz];exact h)]
 rfl
theorem Gd.lt{p:Array Nat}(g:Gd n p)(c:0<n)(k:Nat):p.getD k 0<n:=by
 by_cases h:k<n
 ·have:=g.at h
  rw[<- wR] at this;exact qt.mp (g.pm.mem_iff.mp (qw this))
 ·rw[vm,XC (by rw[g.sz];omega)]
  exact c
theorem Gd.inj{p:Array Nat}(g:Gd n p)(o:∀i j,i<n->j<n->r i=r j->i=j){i j:Nat}(B:i<n)(D:j<n)(e:vA r p i=vA r p j):i=j:=by
 have t:0<n:=by omega
 have A:=o _ _ (g.lt t i) (g.lt t j) e;have E:p.toList.Nodup:=g.pm.nodup_iff.mpr Zt;have c:=g.at B;have l:=g.at D;rw[<- wR] at c l;obtain⟨G,u⟩:=zU.mp c;obtain⟨H,w⟩:=zU.mp l;exact(Qw E).mp (by rw[u,w,A])
theorem Gd.rev{p:Array Nat}(g:Gd n p)(i j:Nat):Gd n (kas_rev p i j):=⟨(zf1.mp (mirror_perm p i j _)).trans g.pm⟩
theorem Gd.bub{p:Array Nat}(g:Gd n p)(i j:Nat):Gd n (bubble p i j):=⟨(zf1.mp (bubble_perm p i j)).trans g.pm⟩
def AscA(r:Nat->Nat)(p:Array Nat)(m:Nat):Prop:=∀i j,i<j->j<m->vA r p i<vA r p j
def DscA(r:Nat->Nat)(p:Array Nat)(m:Nat):Prop:=∀i j,i<j->j<m->vA r p j<vA r p i
theorem AscA.step{p:Array Nat}{m:Nat}(h:AscA r p m)(l:1<=m)(g:vA r p (m-1)<vA r p m):AscA r p (m+1):=fun i j c t=>by
 by_cases e:j=m
 ·subst e
  by_cases e2:i=j-1
  ·subst e2;exact g
  ·have:=h i (j-1) (by omega) (by omega)
   omega
 ·exact h i j c (by omega)
theorem DscA.step{p:Array Nat}{m:Nat}(h:DscA r p m)(l:1<=m)(g:vA r p m<vA r p (m-1)):DscA r p (m+1):=fun i j c t=>by
 by_cases e:j=m
 ·subst e
  by_cases e2:i=j-1
  ·subst e2;exact g
  ·have:=h i (j-1) (by omega) (by omega)
   omega
 ·exact h i j c (by omega)
variable{s:Nat->Nat->Bool}(o:∀i j,i<n->j<n->r i=r j->i=j)(hb:∀i j,i<n->j<n->s i j=decide (r i<r j))
include o hb
theorem VR{p:Array Nat}(g:Gd n p):∀(f m:Nat),1<=m->m+f<=n->AscA r p m->KRun s n (kas_asc p f m) fun l=>AscA r p l/\m<=l/\l<=m+f/\(l<m+f->vA r p l<vA r p (l-1))
 | 0,m,u,B,a=>⟨a,zD _,zD _,fun z=>absurd z (jW _)⟩
 | f+1,m,u,B,a=>by
  have t:0<n:=by omega
  refine⟨g.lt t _,g.lt t _,?_⟩
  rw[hb _ _ (g.lt t _) (g.lt t _)];by_cases c:vA r p m<vA r p (m-1)
  ·rw[show decide (r (p.getD m 0)<r (p.getD (m-1) 0))=true from zT c]
   dsimp only;rw[zu rfl];exact⟨a,zD _,by omega,fun _=>c⟩
  ·rw[show decide (r (p.getD m 0)<r (p.getD (m-1) 0))=false from jb c]
   dsimp only;rw[zk qU];have ne:vA r p m≠vA r p (m-1):=fun z=>by have:=g.inj o (by omega) (by omega) z;omega
   refine u8 (fun l ⟨w,D,E,A⟩=>⟨w,by omega,by omega,fun z=>A (by omega)⟩) (VR g f (m+1) (by omega) (by omega) (a.step u (by omega)))
theorem Yx{p:Array Nat}(g:Gd n p):∀(f m:Nat),1<=m->m+f<=n->DscA r p m->KRun s n (kas_desc f p m 0) fun x=>x.1=p/\x.2.2=0/\DscA r p x.2.1/\m<=x.2.1/\x.2.1<=m+f
 | 0,m,t,B,a=>⟨rfl,rfl,a,zD _,zD _⟩
 | f+1,m,t,B,a=>by
  have l:0<n:=by omega
  refine⟨g.lt l _,g.lt l _,?_⟩
  rw[hb _ _ (g.lt l _) (g.lt l _)];by_cases c:vA r p m<vA r p (m-1)
  ·rw[show decide (r (p.getD m 0)<r (p.getD (m-1) 0))=true from zT c]
   dsimp only;rw[zu rfl,zk (jW 0)];exact u8 (fun x ⟨u,w,A,D,E⟩=>⟨u,w,A,by omega,by omega⟩) (Yx g f (m+1) (by omega) (by omega) (a.step t c))
  ·rw[show decide (r (p.getD m 0)<r (p.getD (m-1) 0))=false from jb c]
   dsimp only;rw[zk qU];have ne:vA r p m≠vA r p (m-1):=fun z=>by have:=g.inj o (by omega) (by omega) z;omega
   refine⟨g.lt l _,g.lt l _,?_⟩
   rw[hb _ _ (g.lt l _) (g.lt l _),show decide (r (p.getD (m-1) 0)<r (p.getD m 0))=true from zT (show vA r p (m-1)<vA r p m by omega)]
   dsimp only;rw[zu rfl];exact⟨rfl,rfl,a,zD _,(by show m<=m+(f+1);omega)⟩
theorem Z9{p:Array Nat}(g:Gd n p){k:Nat}(hk:k<n)(a:AscA r p k):∀(f l h:Nat),h-l<=f->l<=h->h<=k->(∀i,i<l->vA r p i<vA r p k)->(∀i,h<=i->i<k->vA r p k<vA r p i) ->
  KRun s n (kas_place p k f l h) fun x=>x<=k/\(∀i,i<x->vA r p i<vA r p k)/\∀i,x<=i->i<k->vA r p k<vA r p i
 | 0,l,h,D,E,w,t,u=>by
  have e:l=h:=by omega
  subst e;exact⟨w,t,u⟩
 | f+1,l,h,D,E,w,t,u=>by
  have A:0<n:=by omega
  unfold kas_place;by_cases c:l≥h
  ·rw[zu c]
   have e:l=h:=by omega
   subst e;exact⟨w,t,u⟩
  ·rw[zk c]
   refine⟨g.lt A _,g.lt A _,?_⟩
   rw[hb _ _ (g.lt A _) (g.lt A _)];by_cases d:vA r p k<vA r p ((l+h)/2)
   ·rw[show decide (r (p.getD k 0)<r (p.getD ((l+h)/2) 0))=true from zT d]
    dsimp only;rw[zu rfl];refine Z9 g hk a f l _ (by omega) (by omega) (by omega) t fun i G B=>?_
    by_cases q:i=(l+h)/2
    ·rw[q];exact d
    ·have:=a ((l+h)/2) i (by omega) B
     omega
   ·rw[show decide (r (p.getD k 0)<r (p.getD ((l+h)/2) 0))=false from jb d]
    dsimp only;rw[zk qU];have ne:vA r p k≠vA r p ((l+h)/2):=fun z=>by have:=g.inj o hk (by omega) z;omega
    refine Z9 g hk a f _ h (by omega) (by omega) w (fun i G=>?_) u
    by_cases q:i=(l+h)/2
    ·rw[q];omega
    ·have:=a i ((l+h)/2) (by omega) (by omega)
     omega
omit hb in
theorem zgw{p:Array Nat}(g:Gd n p){m:Nat}(u:m<=n)(d:DscA r p m):AscA r (kas_rev p 0 m) m:=fun i j l t=>by
 have c:∀k,k<m->vA r (kas_rev p 0 m) k=vA r p (m-1-k):=fun k hk=>by
  unfold vA kas_rev;have e:=getElem?_mirror_all (xs:=p) (i:=0) (j:=m) (by rw[g.sz];exact u) k
  rw[zu ⟨qB _,hk⟩,Xm] at e;rw[vm,e,<- vm]
 rw[c i (by omega),c j t]
 exact d _ _ (by omega) (by omega)
theorem zeJ{p:Array Nat}(g:Gd n p){m:Nat}(t:1<=m)(u:m<=n)(d:DscA r p m):KRun s n (kas_tail3 m n p) fun x=>Gd n x.2/\AscA r x.2 x.1/\1<=x.1/\x.1<=n:=by
 unfold kas_tail3;refine uc (u8 (fun c ⟨l,w,A,_⟩=>?_) (VR o hb (g.rev 0 m) (n-m) m t (by omega) (zgw o g u d)))
 exact⟨g.rev 0 m,l,by show 1<=c;omega,by show c<=n;omega⟩
theorem zdl{p:Array Nat}(g:Gd n p)(N:2<=n):KRun s n (kas_count n p) fun x=>Gd n x.2/\AscA r x.2 x.1/\1<=x.1/\x.1<=n:=by
 have l:0<n:=by omega
 unfold kas_count;refine uc (u8 (fun m ⟨t,w,J,B⟩=>?_) (VR o hb g (n-1) 1 (zD _) (by omega) fun i j u I=>by omega))
 by_cases c:(m==n)=true
 ·rw[zu c]
  exact⟨g,t,w,by show m<=n;omega⟩
 ·rw[zk c]
  have O:m<n:=by
   have:m≠n:=fun z=>c (by rw[z];simp)
   omega
  by_cases A:m>1
  ·rw[zu A]
   refine⟨g.lt l _,g.lt l _,?_⟩
   rw[hb _ _ (g.lt l _) (g.lt l _),show decide (r (p.getD 0 0)<r (p.getD (m-1) 0))=true from zT (show vA r p 0<vA r p (m-1) from t 0 (m-1) (by omega) (by omega))]
   dsimp only;rw[zu rfl];exact⟨g,t,w,by show m<=n;omega⟩
  ·rw[zk A]
   have e:m=1:=by omega
   subst e;have H:DscA r p 2:=fun i j u I=>by
    have:i=0:=by omega
    have:j=1:=by omega
    subst i j;exact B (by omega)
   unfold kas_descPart;refine uc (u8 (fun x ⟨D,E,G,L,M⟩=>?_) (Yx o hb g (n-(1+1)) (1+1) (by omega) (by omega) H))
   rw[E,zk (jW 0),D];exact zeJ o hb g (by omega) (by omega) G
theorem zb3:∀(f:Nat) (p:Array Nat) (k:Nat),Gd n p->k+f=n->AscA r p k->KRun s n (kas_bin f p k) fun x=>Gd n x/\AscA r x n
 | 0,p,k,g,e,a=>by
  have:k=n:=by omega
  subst this;exact⟨g,a⟩
 | f+1,p,k,g,e,a=>by
  unfold kas_bin;have hk:k<n:=by omega
  refine uc (u8 (fun l ⟨I,D,E⟩=>?_) (Z9 o hb g hk a k 0 k (by omega) (qB _) (zD _) (fun i G=>absurd G (xZ _)) fun i L M=>by omega))
  refine zb3 f _ (k+1) (g.bub k (k-l)) (by omega) fun i j w N=>?_
  have u:∀i,vA r (bubble p k (k-l)) i=if i=l then vA r p k else if l<i/\i<=k then vA r p (i-1) else vA r p i:=fun i=>by
   unfold vA;have e:=getElem?_bubble (xs:=p) (src:=k) (by rw[g.sz];exact hk) (k-l) (by omega) i
   rw[show k-(k-l)=l by omega] at e
   rw[vm,e];by_cases c:i=l
   ·rw[zu c,zu c,<- vm]
   ·rw[zk c,zk c]
    by_cases t:l<i/\i<=k
    ·rw[zu t,zu t,<- vm]
    ·rw[zk t,zk t,<- vm]
  rw[u i,u j];by_cases c:i=l
  ·rw[zu c,zk (by omega),zu (by omega)]
   exact E (j-1) (by omega) (by omega)
  ·rw[zk c]
   by_cases t:l<i/\i<=k
   ·rw[zu t,zk (by omega),zu (by omega)]
    exact a (i-1) (j-1) (by omega) (by omega)
   ·rw[zk t]
    by_cases A:j=l
    ·rw[zu A]
     exact D i (by omega)
    ·rw[zk A]
     by_cases B:l<j/\j<=k
     ·rw[zu B]
      by_cases J:i=j-1
      ·omega
      ·exact a i (j-1) (by omega) (by omega)
     ·rw[zk B]
      exact a i j w (by omega)
theorem zeK(E:2<=n):KRun s n (kas_sort n) fun p=>p.toList.Perm (List.range n)/\(p.toList.map r).Pairwise (·< ·):=by
 have l:∀p:Array Nat,Gd n p->AscA r p n->p.toList.Perm (List.range n)/\(p.toList.map r).Pairwise (·< ·):=fun p g a=>by
  refine⟨g.pm,wO.mpr (zbg.mpr fun i j w u t=>?_)⟩
  rw[qK,g.sz] at w u;have:=a i j t u;unfold vA at this;rw[vm,vm,xh (by rw[g.sz];exact w),xh (by rw[g.sz];exact u)] at this
  simpa using this
 unfold kas_sort;refine uc (u8 (fun x ⟨g,a,B,G⟩=>?_) (zdl o hb (p:=List.toArray (List.range n)) ⟨.refl _⟩ E))
 by_cases c:x.1<n
 ·rw[zu c,Nat.max_eq_left B]
  exact u8 (fun p ⟨D,A⟩=>l p D A) (zb3 o hb (n-x.1) x.2 x.1 g (by omega) a)
 ·rw[zk c]
  have e:x.1=n:=by omega
  rw[e] at a;exact l x.2 g a
end
end L2
namespace L2
open PySem PySem.Spec PyProof.Rows PySem.W
section
variable{g:Program}{w:World}{A:Around}{E:Value->Shared->Prop}{s:Shared}
theorem JG(c:List Value):((List.range c.length).map fun i=>c.getD i Value.none)=c:=by
 refine Zu (by simp) fun i o l=>?_
 simp[l]
theorem Vb{a:Addr}{l:List Value}{n:Nat}{P:PySem.Fin->Shared->Prop}(N:s.heap.get? a=some (seqObj "list" l.toArray n))(U:l.length<64)(r:Nat->Nat)(ri:∀i j,i<l.length->j<l.length->r i=r j->i=j)
  (hk:2<=l.length->∀L,(∀b o,b≠a->s.heap.get? b=some o->L.get? b=some o)->∃κ,(∀Q:SortKind->Shared->Prop,Q κ { s with heap:=L }->wpAny (model g w) A (keyKind' l.toArray) Q 0#r { s with heap:=L }) /\
   ∀i j,i<l.length->j<l.length->∀C:Bool->Shared->Prop,C (decide (r i<r j)) { s with heap:=L }->kas_ask g w A κ l i j C { s with heap:=L })
  (h:∀p:List Nat,p.Perm (List.range l.length)->(p.map r).Pairwise (·< ·)->P (.done (.ret .none)) { s with heap:=sortedHeap s.heap a l (p.map fun i=>l.getD i Value.none).toArray }) :
  wpAny (model g w) A (Builtin.«list.sort» ⟨[.ref a],[]⟩) P E s:=by
 have ha:a<s.heap.objs.size:=zH N;have sz:sizeLine=16777216:=sizeLine_eq;obtain⟨e1,M⟩:∃e1,(s.heap.update a (Obj.mapSeq fun _=>(#[]:Array Value))).get? a=some (seqObj "list" #[] e1):=⟨_,get?_update_seq N fun _=>#[]⟩
 rw[list_sort_plain];refine zf (listItems_at N rfl (zf (listUpdate_at N rfl ?_ (by rw[zZ];omega) (qB _))))
 refine zf (seqEpoch_at M rfl (zf (wpAny_newTuple ?_ (by show l.length<=_;omega))))
 refine zf (wpAny_newList ?_ (qB _))
 refine jD (show wpAny (model g w) A _ P E { s with heap:=((s.heap.update a (Obj.mapSeq fun _=>(#[]:Array Value))).push (seqObj "tuple" l.toArray 0)).push (seqObj "list" #[] 0) } from ?_)
 have u:(((s.heap.update a (Obj.mapSeq fun _=>(#[]:Array Value))).push (seqObj "tuple" l.toArray 0)).push (seqObj "list" #[] 0)).get? a=some (seqObj "list" #[] e1):=zN _ (zN _ M)
 have a0:∀b o,b≠a->s.heap.get? b=some o->(((s.heap.update a (Obj.mapSeq fun _=>(#[]:Array Value))).push (seqObj "tuple" l.toArray 0)).push (seqObj "list" #[] 0)).get? b=some o:=fun b o hb e=>zN _ (zN _ ((x6 _ _ (zG hb)).trans e))
 dsimp only;by_cases H:l.toArray.size<2
 ·rw[zu H,zu H]
  have l2:l.length<2:=by rw[zZ] at H;exact H
  refine zf (zx ?_)
  rw[StateT.run_pure];refine zf (zx ?_)
  dsimp only;have eo:((l.toArray.zip l.toArray).map (·.2))=((List.range l.length).map fun i=>l.getD i Value.none).toArray:=by
   rw[JG];refine Array.ext (by simp) fun i h1 h3=>?_
   simp
  refine zf (seqEpoch_at u rfl (zf (listUpdate_at u rfl ?_ (qB _) (by rw[show arrOf (SortSt.mk' general' (l.toArray.zip l.toArray) #[] 7 none)=l.toArray.zip l.toArray from rfl,eo,JG,zZ];omega))))
  simp only[bne_self_eq_false,jw,if_false];refine zx ?_
  have:=h (List.range l.length) (.refl _) (wO.mpr (zbg.mpr fun i j hi Y a1=>by simp at Y;omega))
  rw[<- eo] at this;exact this
 ·rw[zk H,zk H]
  have I:2<=l.length:=by rw[zZ] at H;omega
  obtain⟨κ,kk,ask⟩:=hk I _ a0;refine zf (jt (kk (fun κ' t=>κ'=κ/\t=_) ⟨rfl,rfl⟩) (fun κ' t e=>?_) fun _ _ x=>x.elim)
  obtain⟨O,T⟩:=e;subst O T;refine zf (jt (kat_run (ks:=l) (vs:=l) (κ:=κ') (Q:=fun B t=>∃p:Array Nat,arrOf B=p.map (kas_item (l.toArray.zip l.toArray))/\failedOf B=none/\p.toList.Perm (List.range l.length)/\(p.toList.map r).Pairwise (·< ·)/\t={ s with heap:=((s.heap.update a (Obj.mapSeq fun _=>(#[]:Array Value))).push (seqObj "tuple" l.toArray 0)).push (seqObj "list" #[] 0) })
   (G:=fun p t=>p.toList.Perm (List.range l.length)/\(p.toList.map r).Pairwise (·< ·)/\t={ s with heap:=((s.heap.update a (Obj.mapSeq fun _=>(#[]:Array Value))).push (seqObj "tuple" l.toArray 0)).push (seqObj "list" #[] 0) })
   rfl I U (fun p B t _ a2 a3 ⟨a4,a5,a6⟩=>⟨p,a2,a3,a4,a5,a6⟩) (KRun.wp (J:=fun t=>t={ s with heap:=((s.heap.update a (Obj.mapSeq fun _=>(#[]:Array Value))).push (seqObj "tuple" l.toArray 0)).push (seqObj "list" #[] 0) }) (bt:=fun i j=>decide (r i<r j)) (n:=l.length)
    (fun i j hi Y C t e c=>?_) (fun p t ⟨q1,q2⟩ e=>⟨q1,q2,e⟩) (zeK ri (fun i j _ _=>rfl) I) rfl)) (fun x t hx=>?_) fun _ _ e=>e)
  ·subst e
   exact ask i j hi Y C (c _ rfl)
  ·obtain⟨⟨⟩,B⟩:=x
   obtain⟨p,b1,b2,b3,b4,b5⟩:=hx;subst b5;dsimp only;have D:=kat_snds (ks:=l) (vs:=l) rfl b1;have lp:p.toList.length=l.length:=by have:=b3.length_eq;rwa[zV] at this
   refine zf (seqEpoch_at u rfl (zf (listUpdate_at u rfl ?_ (qB _) (by rw[D,zZ,zv];omega))))
   rw[b2];simp only[bne_self_eq_false,jw,if_false];refine zx ?_
   have:=h p.toList b3 b4;rw[<- D] at this;exact this
end
end L2
namespace L2
open PySem PySem.Spec PyProof.Rows PySem.W
def rkB(n:Nat)(c:Nat->Nat->Bool)(i:Nat):Nat:=(List.range n).countP fun j=>c j i
theorem VU{n:Nat}{g:Nat->Nat->Bool}(A:∀i,i<n->g i i=false)(D:∀i j k,i<n->j<n->k<n->g i j=true->g j k=true->g i k=true){i j:Nat}(u:i<n)(B:j<n)(h:g i j=true):rkB n g i<rkB n g j:=by
 unfold rkB;have sub:∀l:List Nat,(∀x∈l,x<n)->l.countP (fun x=>g x i)<=l.countP (fun x=>g x j):=fun l=>by
  induction l with
  | nil=>intro _;exact zD _
  | cons x l w=>
   intro s;have E:=w fun y hy=>s y (z9 _ hy)
   rw[Xp,Xp];by_cases c:g x i=true
   ·have:=D x i j (s x (by simp)) u B c h
    rw[zu c,zu this];omega
   ·rw[zk c]
    split<;>omega
 have o:∀l:List Nat,(∀x∈l,x<n)->i∈l->l.countP (fun x=>g x i)<l.countP (fun x=>g x j):=fun l=>by
  induction l with
  | nil=>intro _ z;cases z
  | cons x l w=>
   intro s G;have t:∀y∈l,y<n:=fun y hy=>s y (z9 _ hy)
   rw[Xp,Xp];rcases zC.mp G with z | z
   ·subst z
    rw[zk (by rw[A i u];exact qU),zu h]
    have:=sub l t;omega
   ·have E:=w t z
    by_cases c:g x i=true
    ·have:=D x i j (s x (by simp)) u B c h
     rw[zu c,zu this];omega
    ·rw[zk c]
     split<;>omega
 exact o _ (fun x hx=>qt.mp hx) (qt.mpr u)
theorem Jh{n:Nat}{g:Nat->Nat->Bool}(l:∀i,i<n->g i i=false)(t:∀i j k,i<n->j<n->k<n->g i j=true->g j k=true->g i k=true)(tot:∀i j,i<n->j<n->i≠j->g i j=true\/g j i=true){i j:Nat}(o:i<n)(s:j<n):g i j=decide (rkB n g i<rkB n g j):=by
 by_cases c:g i j=true
 ·rw[c,zT (VU l t o s c)]
 ·rw[(Xq _).mp c,eq_comm]
  refine jb fun z=>?_
  by_cases e:i=j
  ·subst e;omega
  ·rcases tot i j o s e with q | q
   ·exact c q
   ·have:=VU l t s o q;omega
theorem zb5{n:Nat}{g:Nat->Nat->Bool}(l:∀i,i<n->g i i=false)(t:∀i j k,i<n->j<n->k<n->g i j=true->g j k=true->g i k=true)(tot:∀i j,i<n->j<n->i≠j->g i j=true\/g j i=true)(i j:Nat)(o:i<n)(s:j<n)(e:rkB n g i=rkB n g j):i=j:=by
 by_cases c:i=j
 ·exact c
 ·rcases tot i j o s c with q | q
  ·have:=VU l t o s q;omega
  ·have:=VU l t s o q;omega
def ltS(a b:Str):Bool:=decide (a.cps.toList<b.cps.toList)
theorem yS(a:Str):ltS a a=false:=jb (List.lt_irrefl _)
theorem zaE{a b c:Str}(g:ltS a b=true)(l:ltS b c=true):ltS a c=true:=zT (List.lt_trans (jy g) (jy l))
theorem zgq{a b:Str}(h:a.cps.toList=b.cps.toList):a=b:=by
 cases a;cases b
 congr
 exact Array.toList_inj.mp h
theorem zcj{a b:Str}(h:a≠b):ltS a b=true\/ltS b a=true:=by
 by_cases c:a.cps.toList<b.cps.toList
 ·exact .inl (zT c)
 ·by_cases g:b.cps.toList<a.cps.toList
  ·exact .inr (zT g)
  ·exact absurd (zgq (List.le_antisymm (show a.cps.toList<=b.cps.toList from g) c)) h
theorem JF:∀{l:List Str} {p:Str},risingS p l=true->(p::l).Nodup->(p::l).Pairwise fun a b=>ltS a b=true
 | [],p,_,_=>List.pairwise_singleton _ _
 | x::l,p,h,t=>by
  have o:(!ltCps x.cps.toList p.cps.toList&&risingS x l)=true:=h;rw[jI] at o;have g:=xA.mp t;have s:=JF o.2 g.2;have c:ltS p x=true:=by
   rcases zcj (a:=p) (b:=x) (fun e=>g.1 (by rw[e];simp)) with q | q
   ·exact q
   ·have z:=o.1
    rw[ltCps_eq] at z;rw[show decide (x.cps.toList<p.cps.toList)=true from q] at z
    cases z
  refine Qy.mpr ⟨fun b hb=>?_,s⟩
  rcases zC.mp hb with e | e
  ·rw[e];exact c
  ·exact zaE c ((Qy.mp s).1 b e)
theorem zaj{l:List Str}(h:sortedS l=true)(c:l.Nodup):l.Pairwise fun a b=>ltS a b=true:=by
 cases l with
 | nil=>exact .nil
 | cons p l=>exact JF h c
theorem VH:∀{o s:List Str},(o.Pairwise fun a b=>ltS a b=true)->(s.Pairwise fun a b=>ltS a b=true)->(∀j,j∈o↔j∈s)->o=s
 | [],[],_,_,_=>rfl
 | [],y::s,_,_,h=>absurd ((h y).mpr (by simp)) (by simp)
 | x::o,[],_,_,h=>absurd ((h x).mp (by simp)) (by simp)
 | x::o,y::s,hx,hy,h=>by
  obtain⟨t,E⟩:=Qy.mp hx;obtain⟨u,G⟩:=Qy.mp hy;have D:∀{a b:Str},ltS a b=true->ltS b a=true->False:=fun w A=>by have:=zaE w A;rw[yS] at this;cases this
  have e:x=y:=by
   rcases zC.mp ((h x).mp (by simp)) with a | a
   ·exact a
   ·rcases zC.mp ((h y).mpr (by simp)) with b | b
    ·exact b.symm
    ·exact(D (t y b) (u x a)).elim
  subst e;have g:∀{l:List Str},(∀b∈l,ltS x b=true)->x∉l:=fun B z=>by have:=B x z;rw[yS] at this;cases this
  rw[VH E G fun j=>?_]
  constructor
  ·intro c
   rcases zC.mp ((h j).mp (z9 _ c)) with a | a
   ·exact absurd (a▸c) (g t)
   ·exact a
  ·intro c
   rcases zC.mp ((h j).mpr (z9 _ c)) with a | a
   ·exact absurd (a▸c) (g u)
   ·exact a
section
variable{X:Cx}{g:List (Addr×Obj)}{σ:St}{s:Shared}
theorem XZ:∀(t:List Addr) (A:List (List V)) (H:Hp),t.Nodup->(∀a∈t,jZ X g H a)->Inv X g σ H s->t.length=A.length ->
  (∀(j:Nat) a o,t[j]? =some a->A[j]? =some o->o.length<=sizeLine/\∃u:List Value,Vals o u/\TupX s.heap a u.toArray) ->
  ∃w,Inv X g σ w s/\Same H w/\(∀c,c∉t->w c=H c)/\∀(j:Nat) a o,t[j]? =some a->A[j]? =some o->w a=some (.tup o)
 | [],A,H,_,_,I,_,_=>⟨H,I,u6 _,fun _ _=>rfl,fun j a o e=>by simp at e⟩
 | a::t,[],H,_,_,_,l,_=>by simp at l
 | a::t,o::A,H,T,B,I,l,J=>by
  obtain⟨Q,E⟩:=xA.mp T;obtain⟨z,u,Y,O⟩:=J 0 a o rfl rfl;have N:Inv X g σ (upd H a (.tup o)) s:=I.track (B a (by simp)) ⟨z,u,Y,O⟩
  have D:∀b∈t,jZ X g (upd H a (.tup o)) b:=fun b hb=>⟨by rw[zq (show b≠a from fun e=>Q (e▸hb))];exact(B b (z9 _ hb)).1,(B b (z9 _ hb)).2⟩
  obtain⟨w,M,L,U,t'⟩:=XZ t A _ E D N (by simpa using l) fun j b G e1 e2=>J (j+1) b G (by simpa using e1) (by simpa using e2)
  refine⟨w,M,(zd (B a (by simp)).1).trans L,fun c hc=>?_,fun j b G e1 e2=>?_⟩
  ·rw[U c (fun z=>hc (z9 _ z)),zq (fun z=>hc (by rw[z];simp))]
  ·cases j with
   | zero=>
    cases e1;cases e2;exact L _ _ ze
   | succ j=>exact t' j b G (by simpa using e1) (by simpa using e2)
end
end L2
namespace L2
open PySem PySem.Spec PyProof.Rows PySem.W
def ltI(c:List (Str×Int))(i j:Nat):Bool:=ltS (c.getD i ("",0)).1 (c.getD j ("",0)).1
theorem zgZ{c:List (Str×Int)}(o:(c.map (·.1)).Nodup)(i j:Nat)(g:i<c.length)(l:j<c.length)(h:i≠j):ltI c i j=true\/ltI c j i=true:=by
 refine zcj fun e=>h ?_
 have e1:(c.map (·.1))[i]'(by simpa using g)=(c.map (·.1))[j]'(by simpa using l):=by simpa [g,l] using e
 exact(Qw o).mp e1
theorem J6{h:Heap}:∀(c:List Addr),(∀a∈c,∃o g n x t,h.get? a=some o/\o.cls=.type "tuple" /\ o.data=.seq g n/\g[0]? =some (Value.str x t))->∃fs,KatTups h (c.map Value.ref) fs/\fs.length=c.length/\∀v∈fs,∃x t,v=Value.str x t
 | [],_=>⟨[],KatTups.nil,rfl,fun v hv=>nomatch hv⟩
 | a::c,s=>by
  obtain⟨fs,k,l,m⟩:=J6 c fun b hb=>s b (z9 _ hb)
  obtain⟨o,g,n,x,t,e1,e2,u,w⟩:=s a (by simp)
  refine⟨.str x t::fs,KatTups.cons e1 e2 u w k,by rw[jJ,l];rfl,fun v hv=>?_⟩
  rcases zC.mp hv with z | z
  ·exact⟨x,t,z⟩
  ·exact m v z
section
variable{X:Cx}
def xu(p d:Addr):HO:=.ext fun h=>h.IsItemsView p d
inductive zeO(x:V)(g:List V)(H:Hp)(Q:VK):Prop
 | mk (d c:_) (_:x=.ref d) (_:g=[]) (_:H d=some (.dK c)) (_:∀p,H p=none->Q (.ref p) (upd H p (xu p d))):zeO  x g H Q
theorem zfl:MtM X "dict.items" zeO:=by
 intro g s σ H x l v M Q I E D h;obtain⟨d,A,rfl,rfl,hd,q⟩:=h;cases E;cases D;obtain⟨N,lo,l,B,c⟩:=YY I.hok hd;have t:H s.heap.objs.size=none:=I.hok.fresh (zD _);refine call_meetsIn QE c.typeIs PySem.F.entry_dict_items (zfU _) (meets_dict_items (zM X.prog X.w) d lo) ⟨⟨l,c⟩,?_⟩
 refine⟨.ref s.heap.objs.size,_,I.laid (a:=s.heap.objs.size) (o:=xu s.heap.objs.size d) (t':=s.toks) (fun b u e=>zN _ e) (zD _) ⟨⟨_,zL _ rfl,rfl,rfl⟩,⟨_,zL _ rfl⟩,fun G J x e=>let ⟨o,w,r⟩:=x;⟨o,e o w,r⟩⟩,rfl,q _ t⟩
inductive wW(u:List V)(H:Hp)(Q:VK):Prop
 | mk (p d:Addr) (c:List (Str×Int)) (_:u=[.ref p]) (_:H p=some (xu p d)) (_:H d=some (.dK (c.map fun t=>(Sum.inr t.1,.int t.2)))) (_:(c.map (·.1)).Nodup) (_:c.length<64) (_:∀(l:Addr) (o:List (Str×Int)) (s:List V) g,Same H g->H l=none->g l=some (.lst s)->o.Perm c->((o.map (·.1)).Pairwise fun a b=>ltS a b=true)->s.length=o.length->(∀(j:Nat) q,o[j]? =some q->∃T,s[j]? =some (.ref T)/\H T=none/\g T=some (.tup [.str q.1,.int q.2]))->Q (.ref l) g):wW u H Q
theorem XQ(hh:X.A.handled=none):jE X (.builtin "sorted") (wW):=by
 intro N s σ H xs us Q I r h;obtain⟨p,d,c,rfl,hp,hx,nd,a5,q⟩:=h;obtain⟨u,rfl,ru⟩:=u9 r;cases(show u=Value.ref p from ru)
 obtain⟨hv,_,_⟩:=(show ObjOk X.prog X.w H s.heap p (xu p d) from I.hok p _ hp)
 obtain⟨zz,lo,vs,E,dd⟩:=YY I.hok hx;obtain⟨ep,da⟩:=dd.dictAt;have ln:=E.length;rw[zv] at ln;have sz:sizeLine=16777216:=sizeLine_eq;refine zbf kind_sorted plain_sorted entry_sorted (args_sorted1 _) ?_
 delta Builtin.«sorted»;refine zf (m:=checkCount "sorted" 1 1 _) (zx (zf (kdx_collect (knd:=zM X.prog X.w) (kvs:=vs) (ep:=ep) hh hv da (by omega) fun M Y g a4 la G=>?_)))
 have tup:∀(j:Nat) a o,g[j]? =some a->c[j]? =some o->∃B D,M.get? a=some { cls:=.type "tuple",data:=.seq #[.str o.1 B,.int o.2 D] }:=fun j a o e1 e2=>by
  obtain⟨ac,k,x,e3,e4,e5⟩:=G.pairs j a e1;obtain⟨p',e6,e7,e8⟩:=KV.get E e3;rw[zY,e2] at e6;cases e6;have e7:(Sum.inr o.1:Key)=k:=e7;subst e7;obtain⟨B,rfl⟩:=zfx e4;obtain⟨D,rfl⟩:=(show RelV (.int o.2) x from e8)
  exact⟨B,D,e5⟩
 have lv:(g.map Value.ref).length=c.length:=by rw[zv];omega
 refine zf (wpAny_newList ?_ (by rw[lv];omega))
 have a0:(M.push (seqObj "list" (g.map Value.ref).toArray 0)).get? M.objs.size=some (seqObj "list" (g.map Value.ref).toArray 0):=zL _ rfl;have T:∀i,i<c.length->ltI c i i=false:=fun i _=>yS _
 have tr:∀i j k,i<c.length->j<c.length->k<c.length->ltI c i j=true->ltI c j k=true->ltI c i k=true:=fun i j k _ _ _=>zaE
 have tot:=zgZ nd;have a8:g.Nodup:=G.rise.imp fun h=>zP h
 have a9:∀a∈g,a≠M.objs.size:=fun a U=>zP (G.there U)
 refine zf (jD (xD slot_list_sort ⟨_,a0,rfl⟩ entry_list_sort (Vb (s:={ s with heap:=M.push (seqObj "list" (g.map Value.ref).toArray 0),toks:=Y }) a0 (by rw[lv];exact a5) (rkB c.length (ltI c)) (by rw[lv];exact zb5 T tr tot) (fun g2 h2 k2=>?_) fun p pm pw=>⟨_,rfl,?_⟩) (args_list_sort _)))
 ·have D:∀(j:Nat) a o,g[j]? =some a->c[j]? =some o->∃B D,h2.get? a=some { cls:=.type "tuple",data:=.seq #[.str o.1 B,.int o.2 D] }:=fun j a o e1 e2=>by
   obtain⟨B,D,e⟩:=tup j a o e1 e2;exact⟨B,D,k2 a _ (a9 a (qw e1)) (zN _ e)⟩
  obtain⟨fs,kt,lf,sf⟩:=J6 (h:=h2) g fun a U=>by
   obtain⟨j,A⟩:=Xz.mp U;have ab:=(zU.mp A).1;obtain⟨B,ag,e⟩:=D j a (c[j]'(by omega)) A (qg _)
   exact⟨_,_,_,_,B,e,rfl,rfl,rfl⟩
  refine⟨tuples' (Value.type "str" != Value.type "tuple"),fun Q' a7=>kat_kind kt (by rw[lf];rw[zv] at g2;omega) (fun v hv=>?_) rfl a7,fun i j w A C hC=>?_⟩
  ·obtain⟨x,t,rfl⟩:=sf v hv
   exact Looks.now
  ·rw[lv] at w A
   have L:g[i]? =some (g[i]'(by omega)):=qg _
   have ej:g[j]? =some (g[j]'(by omega)):=qg _
   have fi:c[i]? =some (c[i]'w):=qg _;have fj:c[j]? =some (c[j]'A):=qg _;obtain⟨a1,a2,oi⟩:=D i _ _ L fi;obtain⟨b1,b2,oj⟩:=D j _ _ ej fj;have vi:(g.map Value.ref).getD i Value.none=.ref (g[i]'(by omega)):=by rw[qI,zY,L];rfl
   have vj:(g.map Value.ref).getD j Value.none=.ref (g[j]'(by omega)):=by rw[qI,zY,ej];rfl
   have gi:c.getD i ("",0)=c[i]'w:=by rw[qI,fi];rfl
   have gj:c.getD j ("",0)=c[j]'A:=by rw[qI,fj];rfl
   rw[<- Jh T tr tot w A] at hC;have O:C (ltS (c[i]'w).1 (c[j]'A).1) { s with heap:=h2,toks:=Y }:=by unfold ltI at hC;rw[gi,gj] at hC;exact hC
   unfold kas_ask;rw[vi,vj];refine kat_lt oi rfl oj rfl (kat_cons ((zM X.prog X.w).eqBool (a:=Sum.inr (c[i]'w).1) (b:=Sum.inr (c[j]'A).1) (xc ⟨a1,rfl⟩) (xc ⟨b1,rfl⟩) ?_))
   refine kat_go (fun e=>?_) (fun e=>?_)
   ·have ek:(c[i]'w).1=(c[j]'A).1:=Wt (jy e)
    have ij:i=j:=by
     by_cases z:i=j
     ·exact z
     ·have tt:=tot i j w A z
      unfold ltI at tt;rw[gi,gj,ek,yS] at tt;rcases tt with q | q<;>cases q
    subst ij;refine kat_yes (kat_cons ((zM X.prog X.w).eqBool (a:=Sum.inl (c[i]'w).2) (b:=Sum.inl (c[i]'w).2) (xc ⟨a2,rfl⟩) (xc ⟨b2,rfl⟩) ?_))
    rw[zT rfl];refine kat_yes (kat_nil ?_)
    rw[yS] at O;exact O
   ·refine kat_no (strKind_oneLt X.prog X.w _ _ _ _ _ ((c[i]'w).1.cps.toList) ((c[j]'A).1.cps.toList) rfl rfl ?_)
    exact O
 ·rw[lv] at pm
  have a3:∀a∈g,jZ X N H a:=fun a U=>I.fpOk (vp (G.above a U)) (I.hok.fresh (vp (G.above a U)))
  have I1:Inv X N σ H { s with heap:=M,toks:=Y }:=I.kept a4;obtain⟨H1,J1,s1,_,B⟩:=XZ (s:={ s with heap:=M,toks:=Y }) g (c.map fun o=>[V.str o.1,V.int o.2]) H a8 a3 I1 (by rw[zv];omega) fun j a ys e1 e2=>by
   rw[zY] at e2;obtain⟨o,e3,rfl⟩:=qH.mp e2;obtain⟨b1,b2,e⟩:=tup j a o e1 e3;exact⟨by show 2<=_;omega,[.str o.1 b1,.int o.2 b2],.cons ⟨b1,rfl⟩ (.cons ⟨b2,rfl⟩ .nil),TupX.by e⟩
  have lt:∀i∈p,i<c.length:=fun i w=>qt.mp (pm.mem_iff.mp w)
  have E:Vals (p.map fun i=>V.ref (g.getD i 0)) ((p.map fun i=>(g.map Value.ref).getD i Value.none).toArray.toList):=by
   rw[za3];have go:∀l:List Nat,(∀i∈l,i<c.length)->Vals (l.map fun i=>V.ref (g.getD i 0)) (l.map fun i=>(g.map Value.ref).getD i Value.none):=fun l=>by
    induction l with
    | nil=>intro _;exact .nil
    | cons i l ih=>
     intro hl;refine .cons ?_ (ih fun k hk=>hl k (z9 _ hk))
     have w:=hl i (by simp)
     have L:g[i]? =some (g[i]'(by omega)):=qg _
     show(g.map Value.ref).getD i Value.none=Value.ref (g.getD i 0);rw[qI,zY,L,qI,L];rfl
   exact go p lt
  have lp:p.length=c.length:=by have:=pm.length_eq;rwa[zV] at this
  obtain⟨J,hn⟩:=yk (vs:=g.map Value.ref) (out:=(p.map fun i=>(g.map Value.ref).getD i Value.none).toArray) (zs:=p.map fun i=>V.ref (g.getD i 0)) (tk:=Y) (d':=s.drawn) J1 (fun _ _ e=>e) E (by rw[zv];omega)
  refine zx ⟨_,rfl,.ref M.objs.size,_,J,rfl,q _ (p.map fun i=>c.getD i ("",0)) (p.map fun i=>V.ref (g.getD i 0)) _ (s1.trans (zd hn)) (s1.free hn) ze ?_ ?_ (by rw[zv,zv]) fun j qq e=>?_⟩
  ·have e1:(List.range c.length).map (fun i=>c.getD i ("",0))=c:=by
    refine Zu (by simp) fun i h1 h2=>?_
    simp[h2]
   rw[<- e1];rw[e1];have:=pm.map (fun i=>c.getD i ("",0))
   rwa[e1] at this
  ·rw[j9]
   have aa:=wO.mp pw;refine wO.mpr (aa.imp_of_mem fun {i j} w A a6=>?_)
   have:=Jh T tr tot (lt i w) (lt j A);rw[zT a6] at this;exact this
  ·rw[zY] at e
   obtain⟨i,L,rfl⟩:=qH.mp e;have w:=lt i (qw L);have ea:g[i]? =some (g[i]'(by omega)):=qg _
   have ga:g.getD i 0=g[i]'(by omega):=by rw[qI,ea];rfl
   have ek:c[i]? =some (c.getD i ("",0)):=by rw[qI,qg w];rfl
   have ma:g.getD i 0∈g:=by rw[ga];exact xB _
   refine⟨g.getD i 0,by rw[zY,L];rfl,(a3 _ ma).1,?_⟩
   have:=B i (g.getD i 0) [V.str (c.getD i ("",0)).1,V.int (c.getD i ("",0)).2] (by rw[ga];exact ea) (by rw[zY,ek];rfl)
   rw[zq (zo this hn)];exact this
end
end L2
namespace L2
open PySem PySem.Spec PyProof.Rows
section
variable{X:Cx}
variable{g c:Expr}{l:List Expr}{scope:Scope}{o:Pos}{G:TI}{D:TT}{B:TE}{x y z:Str}{u w A E:Pos}{t:Nat}
theorem ziQ(J:List Str)(N:List Nat)(hc:X.calm=true)(hk:scope.kind=.function)(hb:Zi scope.names X.env.scope.names X.N [x,y,z] J N=true)(U:PI X (.Tuple [.Name x u,.Name y w,.Name z A] t E) c G)
  (T:∀C s H I,PF (qm X ([x,y,z]++J) scope C s H I) l D) (Q:∀C s H I,PE (qm X ([x,y,z]++J) scope C s H I) g B) (Y:∀x,foldedSetIterable c X.env x=pure x:=by intro _;rfl) :
  PE X (.ListComp g [⟨.Tuple [.Name x u,.Name y w,.Name z A] t E,c,l,0⟩] scope o) (tLC G 3 N (zaF X.K 3 (wf (xY 0) (wf (xY 1) (wf (xY 2) zdI)))) D B):=by
 obtain⟨O,L,M⟩:=wq hb;refine zeX [x,y,z] J N hc hk O U (fun C s H I=>?_) T Q Y
 exact jP (X:=qm X ([x,y,z]++J) scope C s H I) hc (zI (vK (L x (by simp)) M rfl) (zI (vK (L y (by simp)) M rfl) (zI (vK (L z (by simp)) M rfl) jd)))
end
section
variable{X:Cx}
end
section
variable{X:Cx}{w M t:Expr}{A:List Expr}{scope:Scope}{E:Pos}{O:TI}{g:TG}{L:TT}{G:TE}{x:Str}
theorem zaL{Y:List (Addr×Obj)}{σ:St}{H:Hp}{s:Shared}{fp:List Addr}(ow fr:List Str)(js:List Nat)(I:Inv X Y σ H s)(B:BlkOkC scope.names X.env.scope.names X.N x fr js)(hk:scope.kind=.function)
  (f2:∀b∈fp,jZ X Y H b) (fl:∀b∈fp,b<s.heap.objs.size) {D C:Addr} (hD:D=s.heap.objs.size) {h3 h1:Heap} (e3:h3=s.heap.push { cls:=.type "list",dict:=none,data:=.seq ([]:List Value).toArray }) (hC:C=h3.objs.size)
  {m:Str->Option Value} (aa:h1.Ns C m) (a3:h1.IsCell (C+1) none) (k4:∀b o,h3.get? b=some o->h1.get? b=some o) {t4:Nat} :
  Inv (qh X (ow++fr) scope x C { s with heap:=h3 } H (D::fp)) [] (upS ow.length js σ) H { s with heap:=h1,toks:=t4 }:=by
 have k3:∀b o,s.heap.get? b=some o->h3.get? b=some o:=fun b o e=>by rw[e3];exact zN _ e
 have I3:Inv X Y σ H { s with heap:=h3 }:=I.kept (t':=s.toks) k3;have hz:h3.objs.size=s.heap.objs.size+1:=by rw[e3,qJ]
 have J:∀y∈scope.names,y.2=NameKind.free->∃c,X.env.cells.lookup y.1=some c:=fun y hy e=>I.ok.has y.1 (B.free y hy e)
 have Q:∀x c,X.env.cells.lookup x=some c->c<s.heap.objs.size:=fun x c e=>by
  obtain⟨v,q⟩:=I.cell x c e;exact q.lt
 have a4:∀y c,(qy X.env.cells scope.names []).lookup y=some c->c<C:=fun y c e=>by
  have:=Q y c (zO e J);rw[hC,hz];exact xt this
 have look:∀y c,((x,C+1)::qy X.env.cells scope.names []).lookup y=some c->(y=x/\c=C+1)\/(y≠x/\(qy X.env.cells scope.names []).lookup y=some c):=fun y c e=>by
  rw[jg] at e;by_cases q:(y==x)=true
  ·rw[q] at e
   exact .inl ⟨by simpa using q,(qT e).symm⟩
  ·rw[(Xq _).mp q] at e
   exact .inr ⟨fun z=>q (by simpa using z),e⟩
 refine⟨⟨I.ok.mod,hk,I.ok.glob,I.ok.blt,xJ hC.symm,fun y1 y2 c e1 e2=>?_,fun y hy=>?_,fun y c hf e=>?_,fun hc=>I.ok.hd hc,I.ok.frames,.inl rfl,fun b hb=>?_,I3.bs,xa I.ok.bsz I3.sz,fun b o e hb=>?_,fun b hb hf=>?_,I3.stack,I3.stkFree⟩,
  rfl,I.bare,Un.kept k4,⟨m,aa,fun i y v e1 e2 ab=>?_⟩,fun y c e=>?_,?_,fun y c e=>?_,fun p hp=>absurd (show p∈([]:List 0#l) from hp) (by simp),I3.hok.kept k4,?_⟩
 ·rcases look _ _ e1 with ⟨T,N⟩ | ⟨T,N⟩<;>rcases look _ _ e2 with ⟨b1,b2⟩ | ⟨b1,b2⟩
  ·rw[T,b1]
  ·have:=a4 _ _ b2
   rw[N] at this;exact absurd this (Qm.mpr (vn _))
  ·have:=a4 _ _ N
   rw[b2] at this;exact absurd this (Qm.mpr (vn _))
  ·exact I.ok.inj _ _ c (zO N J) (zO b2 J)
 ·by_cases q:y=x
  ·subst q
   exact⟨C+1,by show List.lookup y ((y,C+1)::_)=_;simp[jg]⟩
  obtain⟨k,e,z⟩:∃k,scope.names.lookup y=some k/\(k=.free):=by
   rcases hy with hx | hx
   ·obtain⟨k,e,z⟩:=xv hx
    rcases z with z | z
    ·subst z;exact absurd (B.is (vI e) rfl) q
    ·exact⟨k,e,z.1⟩
   ·obtain⟨k,e,z⟩:=xv hx
    rcases z with z | z
    ·subst z;exact⟨_,e,rfl⟩
    ·exact⟨k,e,z.1⟩
  subst z;refine⟨(X.env.cells.lookup y).getD 0,?_⟩
  show List.lookup y ((x,C+1)::_)=_;rw[jg,show(y==x)=false from by simpa using q]
  exact xo e
 ·rcases look _ _ e with ⟨T,N⟩ | ⟨T,N⟩
  ·rw[N]
   show h3.objs.size<=C+1;rw[hC];exact vn _
  ·exact absurd (by simpa using hf) T
 ·have U:∀b,b<C->∀y c,((x,C+1)::qy X.env.cells scope.names []).lookup y=some c->(∀y c,X.env.cells.lookup y=some c->c≠b)->c≠b:=fun b hb y c e h=>by
   rcases look _ _ e with ⟨T,N⟩ | ⟨T,N⟩
   ·rw[N];exact jH (xt hb)
   ·exact h y c (zO N J)
  rcases zC.mp hb with z | hb
  ·subst z
   refine⟨by rw[hD,hC,hz];exact zP (xg _),fun y c e=>U _ (by rw[hD,hC,hz];exact xg _) y c e fun y c e=>?_⟩
   have:=Q y c e;rw[hD];exact zP this
  ·have a8:b<C:=by rw[hC,hz];exact xt (fl b hb)
   exact⟨zP a8,fun y c e=>U _ a8 y c e fun y c e=>(f2 b hb).2.2.2.2.1 y c e⟩
 ·rcases zC.mp hb with z | hb
  ·have:=zH (I.bk b o e)
   rw[z,hD] at this;exact jW _ this
  ·rcases(f2 b hb).2.2.2.1 with z | z
   ·exact I.ok.noex b o e z
   ·exact absurd (jz (zH (I.ok.bs b o e).1) z) (jW _)
 ·have a6:=zC.mp (I.stkSub b hf)
  rcases zC.mp hb with z | hb
  ·rcases a6 with y | y
   ·have:=I.lt
    rw[<- y,z,hD] at this;exact jW _ this
   ·exact I.nofs (a:=b) (by rw[z,hD];exact zD _) y
  ·rcases a6 with y | y
   ·exact(f2 b hb).2.1 y
   ·exact(f2 b hb).2.2.1 y
 ·obtain⟨hn,_,j,ej,es⟩:=xO e2
  have ex:fr[i-ow.length]? =some y:=by
   rw[vh (show ow.length<=i from hn)] at e1
   exact e1
  obtain⟨a0,j',a5,eN⟩:=B.fr _ y ex;have:j'=j:=by rw[ej] at a5;exact(qT a5).symm
  subst this;have a7:=B.free _ (vI a0) rfl;obtain⟨m0,_,hl⟩:=I.loc;obtain⟨u,r,l⟩:=hl j' y v eN es (by rcases a7 with z | z;exact .inr (.inl z);exact .inr (.inr z))
  refine⟨u,r,.inr ?_⟩
  have yx:y≠x:=fun z=>by
   have:=B.lk;rw[<- z,a0] at this;cases this
  rcases l with ⟨kl,_⟩ | ⟨_,c,ec,o,eo,ed⟩
  ·have a9:X.env.scope.names.lookup y=some .local:=kl
   rcases a7 with z | z
   ·exact absurd (z.symm.trans a9) (by decide)
   ·exact absurd (z.symm.trans a9) (by decide)
  ·obtain⟨k',e',z⟩:=x9 (env:=X.env) a0
   have eq:((x,C+1)::qy X.env.cells scope.names []).lookup y=some c:=by
    rw[jg,show(y==x)=false from by simpa using yx]
    show(qy X.env.cells scope.names []).lookup y=some c;rw[xo a0,ec];rfl
   refine⟨?_,c,eq,o,k4 c o (k3 c o eo),ed⟩
   rcases z with z | z
   ·subst z;exact .inl e'
   ·subst z;exact .inr e'
 ·rcases look _ _ e with ⟨T,N⟩ | ⟨T,N⟩
  ·rw[N];exact⟨none,a3⟩
  ·obtain⟨v,o,eo,ed⟩:=I.cell y c (zO N J)
   exact⟨v,o,k4 c o (k3 c o eo),ed⟩
 ·exact I3.hok.fresh (xJ hC.symm)
 ·rcases look _ _ e with ⟨T,N⟩ | ⟨T,N⟩
  ·rw[N]
   exact I3.hok.fresh (by show h3.objs.size<=C+1;rw[hC];exact vn _)
  ·exact I.freeC y c (zO N J)
 ·rw[Jd,<- B.len]
  show _=(ow++fr).length;rw[qz]
theorem ziP(ow fr:List Str)(js:List Nat)(hc:X.calm=true)(hk:scope.kind=.function)(hb:Ql scope.names X.env.scope.names X.N x fr js=true)(hi:PI X M t O)
  (hg:∀C s H ex,PG (qh X (ow++fr) scope x C s H ex) M g) (hf:∀C s H ex,PF (qh X (ow++fr) scope x C s H ex) A L) (he:∀C s H ex,PE (qh X (ow++fr) scope x C s H ex) w G)
  (hs:∀x,foldedSetIterable t X.env x=pure x:=by intro _;rfl):PE X (.ListComp w [⟨M,t,A,0⟩] scope E) (tLC O ow.length js g L G):=by
 intro a2 s σ H Q I h;have B:=yX hb;have a6:∀y∈scope.names,y.2=NameKind.free->∃c,X.env.cells.lookup y.1=some c:=fun y hy e=>I.ok.has y.1 (B.free y hy e)
 rw[eval_ListComp];refine wpAny_comprehension_free (use:=none) rfl hs (Jp a6) hk (fun y hy e=>B.loc y hy e) (thn (hi a2 s σ H _ I h) fun v s1 h1=>thn h1 fun bf s2 h2=>?_)
 obtain⟨it,Y,tn,J,H2,e,I2,T,af,f2,W,⟨m0,w0⟩,as⟩:=h2;subst e;have fl:∀b∈Y,b<s2.heap.objs.size:=fun b hb=>let ⟨o,e,_⟩:=T.obj _ _ af b hb;zH e
 refine jY (JT B.one ?_)
 dsimp only;generalize e3:s2.heap.push { cls:=.type "list",dict:=none,data:=.seq ([]:List Value).toArray }=h3;have am:((h3.push { cls:=.type "dict",data:=.dict #[] }).push { cls:=.type "cell",data:=.cell none }).Ns h3.objs.size (fun _=>none):=(Heap.Ns.new h3 (.type "dict")).keeps fun b o e=>zN _ e
 have a1:((h3.push { cls:=.type "dict",data:=.dict #[] }).push { cls:=.type "cell",data:=.cell none }).IsCell (h3.objs.size+1) none:=⟨_,by have:=zL (h3.push { cls:=.type "dict",data:=.dict #[] }) (o:={ cls:=.type "cell",data:=.cell none }) rfl;rwa[qJ] at this,rfl⟩
 have k4:∀b o,h3.get? b=some o->((h3.push { cls:=.type "dict",data:=.dict #[] }).push { cls:=.type "cell",data:=.cell none }).get? b=some o:=fun b o e=>zN _ (zN _ e)
 generalize (h3.push { cls:=.type "dict",data:=.dict #[] }).push { cls:=.type "cell",data:=.cell none }=h1 at am a1 k4;have k3:∀b o,s2.heap.get? b=some o->h3.get? b=some o:=fun b o e=>by rw[<- e3];exact zN _ e
 have I4:Inv (qh X (ow++fr) scope x h3.objs.size { s2 with heap:=h3 } H2 (s2.heap.objs.size::Y)) [] (upS ow.length js σ) H2 { s2 with heap:=h1 }:=
  zaL ow fr js I2 B hk f2 fl rfl e3.symm rfl am a1 k4
 have I3:Inv X a2 σ H2 { s2 with heap:=h3 }:=I2.kept (t':=s2.toks) k3;have hz:h3.objs.size=s2.heap.objs.size+1:=by rw[<- e3,qJ]
 have ac:s2.heap.objs.size≠h3.objs.size:=by rw[hz];exact zP (xg _)
 have aj:h1.get? s2.heap.objs.size=some { cls:=.type "list",data:=.seq ([]:List Value).toArray }:=k4 _ _ (by rw[<- e3];exact zL _ rfl)
 generalize eD:s2.heap.objs.size=D at *
 generalize eC:h3.objs.size=C at *
 have fD:∀b∈Y,D≠b:=fun b hb=>jH (fl b hb)
 have look:∀y c,((x,C+1)::qy X.env.cells scope.names []).lookup y=some c->c=C+1\/X.env.cells.lookup y=some c:=fun y c e=>by
  rw[jg] at e;by_cases q:(y==x)=true
  ·rw[q] at e
   exact .inl (qT e).symm
  ·rw[(Xq _).mp q] at e
   exact .inr (zO e a6)
 have hx:∀y c,((x,C+1)::qy X.env.cells scope.names []).lookup y=some c->c≠D:=fun y c e=>by
  rcases look y c e with z | z
  ·rw[z,hz];exact jH (xt (xg _))
  ·obtain⟨v,q⟩:=I2.cell y c z
   rw[<- eD];exact zP q.lt
 have b5:∀b∈Y,∀y c,((x,C+1)::qy X.env.cells scope.names []).lookup y=some c->c≠b:=fun b hb y c e=>by
  rcases look y c e with z | z
  ·rw[z,hz];exact jH (xt (xt (fl b hb)))
  ·exact(f2 b hb).2.2.2.2.1 y c z
 have aq:∀b∈D::Y,b∉frs X.stack:=I4.ok.exfs;have ax:∀{U:List 0#l} {H':Hp} {b:Addr},b∈Y->H' b=none->(∀p∈U,p.1≠b)->jZ 0#i U H' b:=fun {U H' b} hb hn hp=>
  ⟨hn,(I4.ok.exf b (z9 _ hb)).1,aq b (z9 _ hb),.inl (z9 _ hb),fun x c e=>b5 b hb x c e,fun p h=>hp p (by simpa using h)⟩
 have ay:∀{U:List 0#l} {H':Hp},H' D=none->(∀p∈U,p.1≠D)->jZ 0#i U H' D:=fun {U H'} hn hp=>
  ⟨hn,ac,aq D jK,.inl jK,fun x c e=>hx x c e,fun p h=>hp p (by simpa using h)⟩
 have a8:∀s4:Shared,s4={ s2 with heap:=h1 } ->
   codeAny 0#b X.A (.compLoop (.ListComp w [⟨M,t,A,0⟩] scope E) 0 (.ref it) (.ref D) (compEnvC scope ((x,C+1)::qy X.env.cells scope.names []) C X.env))
    (compPost 0#b X.A X.xe none (EP X a2 σ Q) (.ref D) C) s4:=by
  intro s4 e4;refine Xh (fun n s'=>∃i ys a0 H',∃z:Nat,Inv 0#i [] (upS ow.length js σ) H' s'/\tn i s'.heap/\(∀b∈Y,H' b=none)/\H' D=none /\
   s'.heap.get? D=some { cls:=.type "list",data:=.seq (a0:List Value).toArray z }/\Vals ys a0/\W i n ys H') ?_ m0 ?_
  ·rintro n s5 ⟨i,ys,a0,H5,z5,I5,ar,ah,b0,an,a4,w5⟩
   have ag:=I5.pinned (fp:=[D]) (fun b hb=>by rw[zW.mp hb];exact ay b0 (fun p hp=>absurd hp (by simp))) (fun b hb=>by
    rw[zW.mp hb];exact⟨_,an,fun v q=>nomatch q⟩)
   have pD:∀p∈[]++zX [D] s5.heap,p.1=D:=fun p hp=>by
    rw[Qr] at hp;exact zW.mp (v0 hp).1
   have mD:(D,({ cls:=.type "list",data:=.seq a0.toArray z5 }:Obj))∈[]++zX [D] s5.heap:=by
    rw[Qr];exact qP (zW.mpr rfl) an
   have ab:∀{H':Hp},(∀b∈Y,H' b=none)->∀b∈Y,jZ 0#i ([]++zX [D] s5.heap) H' b:=fun hn b hb=>ax hb (hn b hb) fun p hp=>by
    rw[pD p hp];exact fD b hb
   rcases as i n ys H5 w5 with ⟨stop,al,q⟩ | ⟨go,N,hN,step⟩
   ·refine thn (T.done 0#i rfl rfl rfl hc i _ s5 _ H5 _ ag (ab ah) ar stop) fun r s6 ⟨hr,I6⟩=>?_
    subst hr;obtain⟨m6,b3,_⟩:=I6.loc;refine⟨m6,b3,fun h7 b4=>?_⟩
    obtain⟨o6,ap,_⟩:=I6.pin (D,_) (qG _ mD);have k7:∀b o,b≠C->s6.heap.get? b=some o->h7.get? b=some o:=fun b o hb e=>b4.extBut b o hb e
    refine⟨.ref D,upd H5 D (.lst ys),?_,rfl,q D ap⟩
    refine I3.call' (s':={ s6 with heap:=h7 }) (ch:=D::Y) I6.os (yb (VI I6.base (xJ eC) k7) jK (I2.hok.fresh ?_)) (we (Jm I6.hok I6.free k7) ap ⟨al,a0,z5,a4,k7 D _ ac o6⟩) I6.bare fun b hb=>?_
    ·rw[<- eD];exact zD _
    ·rcases zC.mp hb with y | hb
     ·subst y
      refine⟨.inr (by rw[<- eD];exact I2.sz),by rw[<- eD];exact jH I2.lt,fun x c e=>?_,fun p hp=>?_⟩
      ·obtain⟨v,q⟩:=I2.cell x c e
       rw[<- eD];exact zP q.lt
      ·rw[<- eD];exact zP (zH (I2.pin p hp).1)
     ·obtain⟨_,g1,_,g3,g4,g5⟩:=f2 b hb
      exact⟨g3,g1,g4,g5⟩
   ·refine thn (T.item 0#i rfl rfl rfl hc i _ s5 _ H5 _ ag (ab ah) ar go) fun r s6 ⟨u,hr,h6⟩=>?_
    subst hr;refine thn h6 fun _ s7 ⟨x7,H7,I7,r7,y7,a5,az⟩=>?_
    have av:=I7.pinned (ab az) (T.obj _ _ a5);refine thn (hg _ _ _ _ _ s7 _ H7 x7 u _ av r7 (step x7 H7 y7)) fun _ s8 ⟨σ8,H8,I8,b1,q8⟩=>?_
    refine thn (hf _ _ _ _ _ s8 σ8 H8 _ I8 q8) fun ok s9 ⟨H9,I9,q9⟩=>?_
    have aa:∀{H':Hp} {s':Shared},Inv 0#i (([]++zX [D] s5.heap)++zX Y s7.heap) σ8 H' s' ->
      Inv 0#i [] (upS ow.length js σ) H' s':=fun {H' s'} J=>by
     refine(J.unpinned).unpinned.weak (I5.len.trans J.len.symm) fun k v e=>?_
     obtain⟨hn,e1,_⟩:=xO e;rw[<- b1,Xw] at e1;rw[<- e1];congr 1
     omega
    have mF:∀b∈Y,∀o,s7.heap.get? b=some o->(b,o)∈([]++zX [D] s5.heap)++zX Y s7.heap:=fun b hb o e=>qG _ (qP hb e)
    have ao:=vg (zX Y s7.heap) mD;have ai:∀{H':Hp} {s':Shared},Inv 0#i (([]++zX [D] s5.heap)++zX Y s7.heap) σ8 H' s'->∀b∈Y,H' b=none:=fun {H' s'} J b hb=>by
     obtain⟨o,e,_⟩:=T.obj _ _ a5 b hb;exact(J.pin (b,o) (qG _ (mF b hb o e))).2.1
    cases ok with
    | false=>
     have ae:N ys H9:=by simpa using q9
     obtain⟨m',hm,w'⟩:=hN _ _ ae;obtain⟨o9,b7,_⟩:=I9.pin (D,_) (qG _ ao);exact⟨m',hm,i+1,ys,a0,H9,z5,aa I9,T.keep _ _ _ a5 fun b hb o e=>(I9.pin (b,o) (qG _ (mF b hb o e))).1,ai I9,b7,o9,a4,w'⟩
    | true=>
     have ae:G σ8 H9 fun y H6=>ys.length<sizeLine/\N (ys++[y]) H6:=by simpa using q9
     refine thn (he _ _ _ _ _ s9 σ8 H9 _ I9 ae) fun yv ba ⟨y,au,a3,b9,b2,bb⟩=>?_
     obtain⟨m',hm,w'⟩:=hN _ _ bb;obtain⟨b8,a9,_⟩:=a3.pin (D,_) (qG _ ao);refine wpAny_list_append_plain (l:=D) (items:=a0.toArray) (hsz:=by rw[zZ,<- a4.length];exact vp b2) ⟨_,b8⟩ fun bd ak a7=>?_
     obtain⟨bc,aw⟩:=ak;refine⟨m',hm,i+1,ys++[y],a0++[yv],au,bc,?_,T.keep _ _ _ a5 fun b hb o e=>a7.extBut b o (zG (fD b hb)) (a3.pin (b,o) (qG _ (mF b hb o e))).1,ai a3,a9,?_,a4.append (.cons b9 .nil),w'⟩
     ·exact(aa a3).turned (t':=ba.toks) (it:=D) (fun b o hb e=>a7.extBut b o hb e) a9 ac (.inl jK) (fun x c e=>hx x c e) fun p hp=>absurd (show p∈([]:List 0#l) from hp) (by simp)
     ·rw[aw];simp
  ·subst e4
   exact⟨0,[],[],H2,0,I4,T.keep _ _ _ af fun b hb o e=>k4 b o (k3 b o e),fun b hb=>(f2 b hb).1,I2.hok.fresh (by rw[<- eD];exact zD _),aj,.nil,w0⟩
 exact codeAny_compStart_list (a8 _ rfl) (T.self X.A 0 _ _ _ (T.keep _ _ _ af fun b hb o e=>k4 b o (k3 b o e)) (a8 _ rfl))
theorem zgE{y:Str}{J N Q:Pos}{u:Nat}(c:List Str)(o:List Nat)(hc:X.calm=true)(hk:scope.kind=.function)(hb:Ql scope.names X.env.scope.names X.N x c o=true)(hy:(scope.names.lookup y==some .local&&decide ([x,y]++c).Nodup)=true)(Y:PI X (.Tuple [.Name x J,.Name y N] u Q) t O)
  (U:∀C s H l,PF (qh X ([x,y]++c) scope x C s H l) A L) (T:∀C s H l,PE (qh X ([x,y]++c) scope x C s H l) w G)
  (hs:∀x,foldedSetIterable t X.env x=pure x:=by intro _;rfl):PE X (.ListComp w [⟨.Tuple [.Name x J,.Name y N] u Q,t,A,0⟩] scope E) (tLC O 2 o (zaF X.K 2 (wf (xY 0) (wf (xY 1) zdI))) L G):=by
 have B:=yX hb;rw[jI] at hy;have yl:scope.names.lookup y=some .local:=by simpa using hy.1
 have I:([x,y]++c).Nodup:=jy hy.2;refine ziP [x,y] c o hc hk hb Y (fun C s H l=>?_) U T hs
 have lk:(compEnvC scope ((x,C+1)::qy X.env.cells scope.names []) C X.env).scope.names.lookup x=some .cell:=ww B.lk;have D:(compEnvC scope ((x,C+1)::qy X.env.cells scope.names []) C X.env).scope.names.lookup y=some .local:=lookup_relabel_local yl;exact jP (X:=qh X ([x,y]++c) scope x C s H l) hc (zI (zB (X:=qh X ([x,y]++c) scope x C s H l) I rfl (.inr lk) (.inl (by show(x==x)=true;simp))) (zI (zB (X:=qh X ([x,y]++c) scope x C s H l) I rfl (.inl D) (.inr D)) jd))
end
end L2
namespace L2
open PySem PySem.Spec PyProof.Rows PySem.W
section
variable{c:Program}{w:World}{A:Around}{E:Value->Shared->Prop}{s:Shared}
end
end L2
namespace L2
open PySem PySem.Spec PyProof.Rows PySem.W
def ltP(a b:Int×Int):Bool:=decide (a.1<b.1\/a.1=b.1/\a.2<b.2)
theorem yT(a:Int×Int):ltP a a=false:=jb (by omega)
theorem zfo{a b c:Int×Int}(g:ltP a b=true)(l:ltP b c=true):ltP a c=true:=by
 have:=jy g;have:=jy l;exact zT (by omega)
theorem zgY{a b:Int×Int}(h:a≠b):ltP a b=true\/ltP b a=true:=by
 by_cases c:a.1=b.1
 ·have l:a.2≠b.2:=fun z=>h (by cases a;cases b;simp at c z;rw[c,z])
  by_cases g:a.2<b.2
  ·exact .inl (zT (by omega))
  ·exact .inr (zT (by omega))
 ·by_cases g:a.1<b.1
  ·exact .inl (zT (by omega))
  ·exact .inr (zT (by omega))
def PrR(H:Hp)(g:List V)(c:List 0#o):Prop:=g.length=c.length/\∀(j:Nat) q,c[j]? =some q->∃T,g[j]? =some (.ref T)/\H T=some (.tup [.int q.1,.int q.2])
theorem PrR.nil{H:Hp}:PrR H [] []:=⟨rfl,fun j q e=>by simp at e⟩
theorem PrR.same{H c:Hp}{l:List V}{g:List 0#o}(h:PrR H l g)(s:Same H c):PrR c l g:=⟨h.1,fun j k e=>let ⟨T,a,b⟩:=h.2 j k e;⟨T,a,s _ _ b⟩⟩
theorem PrR.snoc{H:Hp}{s:List V}{g:List 0#o}{q:Int×Int}{T:Addr}(h:PrR H s g)(e:H T=some (.tup [.int q.1,.int q.2])):PrR H (s++[.ref T]) (g++[q]):=by
 refine⟨by rw[qz,qz,h.1];rfl,fun j r c=>?_⟩
 by_cases l:j<g.length
 ·rw[wv l] at c
  obtain⟨U,e1,e2⟩:=h.2 j r c;exact⟨U,by rw[wv (by rw[h.1];exact l)];exact e1,e2⟩
 ·have o:=(zU.mp c).1
  rw[qz] at o;have t:j=g.length:=by simp at o;omega
  subst t;rw[vh (zD _),Zl] at c;have:q=r:=by simpa using c
  subst this;exact⟨T,by rw[<- h.1,vh (zD _),Zl];rfl,e⟩
theorem QK{h:Heap}:∀(c:List Value),(∀v∈c,∃a o g n x t,v=Value.ref a/\h.get? a=some o/\o.cls=.type "tuple" /\ o.data=.seq g n/\g[0]? =some (Value.int x t))->∃fs,KatTups h c fs/\fs.length=c.length/\∀v∈fs,∃x t,v=Value.int x t
 | [],_=>⟨[],KatTups.nil,rfl,fun v hv=>nomatch hv⟩
 | v::c,s=>by
  obtain⟨fs,k,l,m⟩:=QK c fun b hb=>s b (z9 _ hb)
  obtain⟨a,o,g,n,x,t,rfl,e1,e2,w,A⟩:=s v (by simp)
  refine⟨.int x t::fs,KatTups.cons e1 e2 w A k,by rw[jJ,l];rfl,fun u hu=>?_⟩
  rcases zC.mp hu with z | z
  ·exact⟨x,t,z⟩
  ·exact m u z
def ltQ(c:List (Int×Int))(i j:Nat):Bool:=ltP (c.getD i (0,0)) (c.getD j (0,0))
theorem zgX{c:List (Int×Int)}(o:c.Nodup)(i j:Nat)(g:i<c.length)(l:j<c.length)(h:i≠j):ltQ c i j=true\/ltQ c j i=true:=by
 refine zgY fun e=>h ?_
 rw[qI,qI,qg g,qg l] at e;exact(Qw o).mp e
section
variable{X:Cx}
def zid(X:Cx)(f:Value)(o:List (Str×Value))(r:List V->Hp->VK->Prop):Prop:=
 ∀(c:List 0#l) (s:Shared) (σ:St) (H:Hp) (l:List V) (g:List Value) (Q:VK),Inv X c σ H s->Vals l g->r l H Q->wpAny 0#b X.A (call f g o) (EP X c σ Q) X.xe s
end
end L2
namespace L2
open PySem PySem.Spec PyProof.Rows
section
variable{X:Cx}
end
end L2
namespace PySem
section
variable{c:Program}{w:World}{A:Around}{d:Addr}{l:Array DictEntry}{g:Nat}
end
end PySem
namespace L2
open PySem PySem.Spec PyProof.Rows
section
variable{X:Cx}
end
section
variable{X:Cx}
variable{o e:Expr}{s:List Expr}{to:TE}{t:TA}{l:Str}{c g:Pos}{id:String}{r:V->List V->Hp->VK->Prop}
end
end L2
namespace L2
open PySem PySem.Spec PyProof.Rows PySem.W
section
variable{X:Cx}
def zk9(l:TE):TE:=fun σ H R=>l σ H fun x g=>∃d c,x=.ref d/\g d=some (.dK c)/\∀o,R x (upd g d (.frz o (.dK c)))
theorem zas{e:Expr}{w:TE}(G:PE X e w):PE X e (zk9 w):=by
 intro g s σ H R I h;refine thn (G g s σ H _ I h) fun v s1 ⟨x,A,t,L,J⟩=>?_
 obtain⟨d,c,e,hd,q⟩:=J;subst e;obtain⟨z,y,M,r,o,D,B,l,E⟩:=(show ObjOk X.prog X.w A s1.heap d (.dK c) from t.hok d _ hd)
 refine⟨.ref d,_,t.write (s:=s1) (t':=s1.toks) (h':=s1.heap) (x:=d) (e:=d) (o:=.frz o (.dK c)) (by rw[hd];exact True.intro) (.inl rfl) (fun b u _ e=>e) ⟨o,l⟩ ?_,L,q o⟩
 exact⟨l,z,y,M,r,o,D,B,l,E⟩
inductive zb6(x:V)(g:List V)(H:Hp)(Q:VK):Prop
 | mk (d o c:_) (_:x=.ref d) (_:g=[]) (_:H d=some (.frz o (.dK c))) (_:∀p,H p=none->Q (.ref p) (upd H p (xu p d))):zb6  x g H Q
theorem Qd:MtM X "dict.items" zb6:=by
 intro g s σ H x l v M Q I E D h;obtain⟨d,o,A,rfl,rfl,hd,q⟩:=h;cases E;cases D;obtain⟨N,lo,l,B,c⟩:=wL I.hok (.inr ⟨o,hd⟩);have t:H s.heap.objs.size=none:=I.hok.fresh (zD _);refine call_meetsIn QE c.typeIs PySem.F.entry_dict_items (zfU _) (meets_dict_items (zM X.prog X.w) d lo) ⟨⟨l,c⟩,?_⟩
 exact⟨.ref s.heap.objs.size,_,I.laid (a:=s.heap.objs.size) (o:=xu s.heap.objs.size d) (t':=s.toks) (fun b u e=>zN _ e) (zD _) ⟨⟨_,zL _ rfl,rfl,rfl⟩,⟨_,zL _ rfl⟩,fun G J x e=>let ⟨o,w,r⟩:=x;⟨o,e o w,r⟩⟩,rfl,q _ t⟩
end
def ItV(d:Addr)(o:Obj)(c:List (Key×V)):It:=
 ⟨fun i H=>H d=some (.frz o (.dK c))/\i<c.length,fun i H x g=>∃T k v,x=.ref T/\H T=none/\g=upd H T (.tup [kV k,v])/\c[i]? =some (k,v),fun i H=>H d=some (.frz o (.dK c))/\c.length<=i⟩
theorem zfE{P:Program}{w:World}{H:Hp}{h:Heap}{d:Addr}{o:Obj}{c:List (Key×V)}{s:Array DictEntry}{l:Nat}(ok:HOk P w H h)(e:H d=some (.frz o (.dK c)))(A:o.data=.dict s l) :
  (d==sysModules)=false/\∃g,KV c g/\h.DictAt (zM P w) d g l:=by
 obtain⟨e1,z,y,g,r,L,D,B,t,E,u,G,I,J⟩:=(show ObjOk P w H h d (.frz o (.dK c)) from ok d _ e)
 rw[e1] at t;cases t;rw[A] at u;cases u;exact⟨y,g,r,o,s,e1,E,A,G,I,J⟩
theorem zc7{P:Program}{w:World}{K:W.Frag}{t:List Expr}{kk:Nat}{a1:Pos}(d c:Addr)(o:Obj)(g:List (Key×V))(es:Array DictEntry)(ep:Nat)(he:o.data=.dict es ep) :
  Jb P w K (.Tuple t kk a1) (ItV d o g) [c] c (fun i h=>∃ok ov,IsItemIter h c d i g.length ep ok ov) where
 mem:=by simp
 obj:=fun i h st b hb=>by
  have e:b=c:=by simpa using hb
  subst e;obtain⟨_,_,st⟩:=st;exact⟨_,st,fun v z=>nomatch z⟩
 keep:=fun i h N st k=>let ⟨a,b,st⟩:=st;⟨a,b,k c (by simp) _ st⟩
 item:=by
  intro X Q Y O hc i D s σ H E I G st hg;subst Q Y O;obtain⟨hd,hi⟩:=hg;obtain⟨ok,ov,st⟩:=st;obtain⟨lo,vs,r,J⟩:=zfE I.hok hd he;have ln:=r.length;obtain⟨⟨k,v⟩,hx⟩:∃p,g[i]? =some p:=⟨g[i],by simp[hi]⟩
  obtain⟨⟨k',u⟩,hy⟩:∃p,vs[i]? =some p:=⟨vs[i]'(by omega),by simp⟩
  obtain⟨p',e6,L,M⟩:=KV.get r hy;rw[hx] at e6;cases e6;have L:k=k':=L;subst L;have M:RelV v u:=M;rw[ln] at st;refine wpAny_pyNext_items_item st J hy fun a0 N hk A hT a2 l=>?_
  refine⟨_,rfl,wpAny_letOwnedTupleGo_items A fun h2 U B=>?_⟩
  have eT:s.heap.objs.size≠c:=jH (zH st);have k2:∀b o,b∉[c]->s.heap.get? b=some o->h2.get? b=some o:=fun b o hb q=>by
   have n1:b≠c:=fun z=>hb (by simp[z])
   exact(B.2 b n1).trans (l b o n1 q)
  refine⟨.ref s.heap.objs.size,upd H s.heap.objs.size (.tup [kV k,v]),?_,rfl,⟨_,k,v,rfl,I.hok.fresh (zD _),rfl,hx⟩,⟨_,_,by rw[ln];exact U⟩,fun b hb=>?_⟩
  ·exact Jl (s:=s) (h':=h2) (t':=s.toks) (its:=[a0,u]) I G (zD _) k2 (by rw[sizeLine_eq];exact(by decide:2<=16777216)) (.cons (zfx hk) (.cons M .nil)) (TupX.by ((B.2 _ eT).trans hT))
  ·have T:b<s.heap.objs.size:=by
    rw[zW.mp hb];exact zH st
   rw[zq (zP T)];exact(G b hb).1
 done:=by
  intro X Q Y O hc i D s σ H E I G st hg;subst Q Y O;obtain⟨hd,hi⟩:=hg;obtain⟨ok,ov,st⟩:=st;obtain⟨lo,vs,r,J⟩:=zfE I.hok hd he;have ln:=r.length;obtain⟨f0,f1,f2,f3,f4,f5⟩:=G c (by simp)
  rw[ln] at st;exact wpAny_pyNext_items_end (I.ok.hd hc) st J (by simp;omega) fun N eb=>⟨rfl,I.turned (t':=s.toks) (fun b o hb e=>eb b o hb e) f0 f1 f3 f4 f5⟩
 self:=fun _ _ _ _ _ st h=>let ⟨_,_,st⟩:=st;kcp_self st h
section
variable{X:Cx}
def zkJ(l:TE):TI:=fun σ H R=>l σ H fun x g=>∃p d o c,x=.ref p/\g p=some (xu p d)/\g d=some (.frz o (.dK c))/\R (ItV d o c) g
theorem V1{l:Expr}{G:TE}{t:List Expr}{T:Nat}{tp:Pos}(O:PE X l G):PI X (.Tuple t T tp) l (zkJ G):=by
 intro u s σ H R I h;refine thn (O u s σ H _ I h) fun v s1 ⟨x,w,g,r1,Y⟩=>?_
 obtain⟨p,d,o,c,e,Q,hd,q⟩:=Y;subst e;cases r1;obtain⟨hv,_,_⟩:=(show ObjOk X.prog X.w w s1.heap p (xu p d) from g.hok p _ Q)
 obtain⟨e1,z,y,vs,r,o',B,A,D,J,E,L,M,N⟩:=(show ObjOk X.prog X.w w s1.heap d (.frz o (.dK c)) from g.hok d _ hd)
 rw[e1] at D;cases D;have ln:=r.length;refine wpAny_pyIter_items (knd:=zM X.prog X.w) (kvs:=vs) (ep:=A) hv ⟨o,B,e1,J,E,L,M,N⟩ ?_
 refine⟨s1.heap.objs.size,[s1.heap.objs.size],_,_,w,rfl,g.kept (t':=s1.toks) (fun b o e=>zN _ e),zc7 d _ o c B A E,⟨.none,.none,by rw[ln];exact zL _ rfl⟩,fun b hb=>?_,q⟩
 have e:b=s1.heap.objs.size:=by simpa using hb
 subst e;exact g.fpOk (zD _) (g.hok.fresh (zD _))
end
theorem YW{d:Addr}{o:Obj}{kvs:List (Key×V)}{g:TG}{A:TS}{D:XT}{σ:St}{H:Hp}(Pv:Nat->St->Hp->Prop)(B:Pv 0 σ H)(I:∀i σ H,i<=kvs.length->Pv i σ H->H d=some (.frz o (.dK kvs)))
  (J:∀i k v σ H T,kvs[i]? =some (k,v)->Pv i σ H->H T=none->g (.ref T) σ (upd H T (.tup [kV k,v])) fun u s=>A { D with nx:=Pv (i+1),ct:=Pv (i+1),bk:=D.nx } u s) (hd:∀σ H,Pv kvs.length σ H->D.nx σ H) :
  ∃W:Nat->Nat->St->Hp->Prop,(∃m,W 0 m σ H)/\∀i m σ H,W i m σ H ->
   ((ItV d o kvs).stop i H/\D.nx σ H)\/((ItV d o kvs).go i H/\∃N:St->Hp->Prop,(∀t c,N t c->∃w,w<m/\W (i+1) w t c)/\∀x c,(ItV d o kvs).yld i H x c->g x σ c fun u s=>A { D with nx:=N,ct:=N,bk:=D.nx } u s):=by
 refine⟨fun i m σ H=>m=kvs.length-i/\i<=kvs.length/\Pv i σ H,⟨_,rfl,qB _,B⟩,?_⟩
 rintro i m σ H ⟨rfl,G,p⟩;have q:=I i σ H G p;by_cases l:i<kvs.length
 ·refine .inr ⟨⟨q,l⟩,Pv (i+1),fun t c L=>⟨kvs.length-(i+1),by omega,rfl,l,L⟩,fun x c y=>?_⟩
  obtain⟨T,k,v,e1,E,e2,y⟩:=y;subst e1 e2;exact J i k v σ H T y p E
 ·have e:i=kvs.length:=by omega
  subst e;exact .inl ⟨⟨q,zD _⟩,hd σ H p⟩
theorem zg2{d:Addr}{o:Obj}{kvs:List (Key×V)}{n:Nat}{g:TG}{L:TT}{J:TE}{w:St}{R:List V->Hp->Prop}{H:Hp}(Pv:Nat->List V->Hp->Prop)(N:Pv 0 [] H)
  (G:∀i c H,Pv i c H->H d=some (.frz o (.dK kvs)))
  (Q:∀i k v c H T,kvs[i]? =some (k,v)->Pv i c H->H T=none->g (.ref T) w (upd H T (.tup [kV k,v])) fun s D=>s.drop n=w.drop n/\L s D fun b t=>if b=true then J s t fun v E=>c.length<sizeLine/\Pv (i+1) (c++[v]) E else Pv (i+1) c t)
  (hd:∀c H,Pv kvs.length c H->c.length<=sizeLine/\R c H) :
  ∃W:Nat->Nat->List V->Hp->Prop,(∃m,W 0 m [] H)/\∀i m c l,W i m c l ->
   ((ItV d o kvs).stop i l/\c.length<=sizeLine/\R c l) \/
   ((ItV d o kvs).go i l/\∃M:List V->Hp->Prop,(∀c A,M c A->∃I,I<m/\W (i+1) I c A)/\∀x B,(ItV d o kvs).yld i l x B->g x w B fun s D=>s.drop n=w.drop n/\L s D fun b t=>
    if b=true then J s t fun y E=>c.length<sizeLine/\M (c++[y]) E else M c t):=by
 refine⟨fun i m c l=>m=kvs.length-i/\i<=kvs.length/\Pv i c l,⟨_,rfl,qB _,N⟩,?_⟩
 rintro i m c l ⟨rfl,hi,p⟩;by_cases u:i<kvs.length
 ·refine .inr ⟨⟨G i c l p,u⟩,Pv (i+1),fun a0 A U=>⟨_,by omega,rfl,u,U⟩,fun x B y=>?_⟩
  obtain⟨T,k,v,e1,O,e2,y⟩:=y;subst e1 e2;exact Q i k v c l T y p O
 ·have e:i=kvs.length:=by omega
  subst e;obtain⟨Y,z2⟩:=hd c l p;exact .inl ⟨⟨G _ c l p,zD _⟩,Y,z2⟩
end L2
namespace L2
open PySem PySem.Spec PyProof.Rows PySem.W
section
variable{X:Cx}
inductive yL(K:W.Frag)(o:List V)(H:Hp)(Q:VK):Prop
 | mk (a:Addr) (t:List V) (c:List 0#o) (_:o=[.ref a]) (_:SqL K H a t) (_:PrR H t c) (_:c.Nodup) (_:c.length<64) (_:∀(l:Addr) (g:List 0#o) (s:List V),H l=none->g.Perm c->(g.Pairwise fun a b=>ltP a b=true)->PrR H s g->Q (.ref l) (upd H l (.lst s))):yL K o H Q
theorem Wm:jE X (.builtin "sorted") (yL X.K):=by
 intro a7 s σ H xs us Q I r h;obtain⟨a,N,g,rfl,hx,pr,nd,a9,q⟩:=h;obtain⟨u,rfl,ru⟩:=u9 r;cases(show u=Value.ref a from ru)
 obtain⟨c,Y,pl,hz⟩:=I.list hx;have ab:=Y.length;have ae:=pr.1;have sz:sizeLine=16777216:=sizeLine_eq;refine zbf kind_sorted plain_sorted entry_sorted (args_sorted1 _) ?_
 delta Builtin.«sorted»;refine zf (m:=checkCount "sorted" 1 1 _) (zx (zf (collect_list pl.isList ?_ (by omega))))
 have w:∀b o,s.heap.get? b=some o->((s.heap.push (seqObj "list" #[] 0)).update s.heap.objs.size (Obj.mapSeq (·++c.toArray))).get? b=some o:=fun b o e=>by
  rw[x6 _ _ (zG (zP (zH e)))];exact zN _ e
 generalize (s.heap.push (seqObj "list" #[] 0)).update s.heap.objs.size (Obj.mapSeq (·++c.toArray))=h1 at w
 refine zf (wpAny_newList ?_ (by omega))
 have a0:(h1.push (seqObj "list" c.toArray 0)).get? h1.objs.size=some (seqObj "list" c.toArray 0):=zL _ rfl;have tup:∀(j:Nat) v,c[j]? =some v->∃T L t1 t2,v=Value.ref T/\g[j]? =some L/\∃o n,s.heap.get? T=some o/\o.cls=.type "tuple" /\ o.data=.seq #[.int L.1 t1,.int L.2 t2] n:=fun j v B=>by
  have aa:=(zU.mp B).1;have ek:g[j]? =some (g[j]'(by omega)):=qg _
  generalize g[j]'(by omega)=L at ek
  obtain⟨T,e1,e2⟩:=pr.2 j L ek;obtain⟨v',e3,e4⟩:=Y.get e1;rw[B] at e3;cases e3;cases(show v=Value.ref T from e4)
  obtain⟨_,ts,rt,⟨o,ho,hc,n,hd⟩,_⟩:=(show ObjOk X.prog X.w H s.heap T (.tup [.int L.1,.int L.2]) from I.hok T _ e2)
  cases rt with
  | cons r1 rt=>
   cases rt with
   | cons r2 rt=>
    cases rt;obtain⟨t1,rfl⟩:=r1;obtain⟨t2,rfl⟩:=r2;exact⟨T,L,t1,t2,rfl,ek,o,n,ho,hc,hd⟩
 have O:∀i,i<c.length->ltQ g i i=false:=fun i _=>yT _
 have tr:∀i j k,i<c.length->j<c.length->k<c.length->ltQ g i j=true->ltQ g j k=true->ltQ g i k=true:=fun i j k _ _ _=>zfo
 have tot:∀i j,i<c.length->j<c.length->i≠j->ltQ g i j=true\/ltQ g j i=true:=fun i j G B=>zgX nd i j (by omega) (by omega)
 refine zf (jD (xD slot_list_sort ⟨_,a0,rfl⟩ entry_list_sort (Vb (s:={ s with heap:=h1.push (seqObj "list" c.toArray 0) }) a0 (by omega) (rkB c.length (ltQ g)) (zb5 O tr tot) (fun g2 h2 k2=>?_) fun p pm pw=>⟨_,rfl,?_⟩) (args_list_sort _)))
 ·have k3:∀T o,s.heap.get? T=some o->h2.get? T=some o:=fun T o e=>k2 T o (zP (zH (w T o e))) (zN _ (w T o e))
  obtain⟨fs,kt,lf,sf⟩:=QK (h:=h2) c fun v hv=>by
   obtain⟨j,B⟩:=Xz.mp hv;obtain⟨T,L,t1,t2,e1,_,o,n,e3,e4,e5⟩:=tup j v B;exact⟨T,o,_,n,L.1,t1,e1,k3 T o e3,e4,e5,rfl⟩
  refine⟨tuples' (Value.type "int" != Value.type "tuple"),fun Q' a5=>kat_kind kt (by omega) (fun v hv=>?_) rfl a5,fun i j G B C hC=>?_⟩
  ·obtain⟨x,t,rfl⟩:=sf v hv
   exact Looks.now
  ·have ei:c[i]? =some (c[i]'G):=qg _
   have ej:c[j]? =some (c[j]'B):=qg _;generalize c[i]'G=vi at ei;generalize c[j]'B=vj at ej;obtain⟨T,D,a1,a2,rfl,fi,oi,ni,gi,_,di⟩:=tup i vi ei;obtain⟨U,E,b1,b2,rfl,fj,oj,nj,gj,_,dj⟩:=tup j vj ej;rw[<- Jh O tr tot G B] at hC;have A:C (ltP D E) { s with heap:=h2 }:=by
    unfold ltQ at hC;rw[qI,fi,qI,fj] at hC;exact hC
   unfold kas_ask;rw[qI,ei,qI,ej];refine kat_lt (k3 _ _ gi) di (k3 _ _ gj) dj (kat_cons ((zM X.prog X.w).eqBool (a:=Sum.inl D.1) (b:=Sum.inl E.1) (xc ⟨a1,rfl⟩) (xc ⟨b1,rfl⟩) ?_))
   refine kat_go (fun e=>?_) (fun e=>?_)
   ·have ek:D.1=E.1:=xU (jy e)
    refine kat_yes (kat_cons ((zM X.prog X.w).eqBool (a:=Sum.inl D.2) (b:=Sum.inl E.2) (xc ⟨a2,rfl⟩) (xc ⟨b2,rfl⟩) ?_))
    refine kat_go (fun e2=>?_) (fun e2=>?_)
    ·have a8:D.2=E.2:=xU (jy e2)
     refine kat_yes (kat_nil ?_)
     rw[show ltP D E=false from jb (by omega)] at A
     exact A
    ·rw[show ltP D E=decide (D.2<E.2) from by unfold ltP;rw[Qu];omega] at A
     exact kat_no (kat_one _ _ (PyProof.Rows.lt_int A))
   ·have nk:D.1≠E.1:=fun z=>(of_decide_eq_false e) (by rw[z])
    refine kat_no (oneLt_int ?_)
    rw[show ltP D E=decide (D.1<E.1) from by unfold ltP;rw[Qu];omega] at A
    exact A
 ·have M:∀i∈p,i<c.length:=fun i G=>qt.mp (pm.mem_iff.mp G)
  have lp:p.length=c.length:=by have:=pm.length_eq;rwa[zV] at this
  have a3:Vals (p.map fun i=>N.getD i .non) ((p.map fun i=>c.getD i Value.none).toArray.toList):=by
   rw[za3];have go:∀l:List Nat,(∀i∈l,i<c.length)->Vals (l.map fun i=>N.getD i .non) (l.map fun i=>c.getD i Value.none):=fun l=>by
    induction l with
    | nil=>intro _;exact .nil
    | cons i l ih=>
     intro hl;refine .cons ?_ (ih fun k hk=>hl k (z9 _ hk))
     have G:=hl i (by simp)
     have ez:N[i]? =some (N[i]'(by omega)):=qg _
     obtain⟨v,e1,e2⟩:=Y.get ez;show RelV (N.getD i .non) (c.getD i Value.none);rw[qI,qI,ez,e1];exact e2
   exact go p M
  obtain⟨J,hn⟩:=yk (vs:=c) (out:=(p.map fun i=>c.getD i Value.none).toArray) (zs:=p.map fun i=>N.getD i .non) (tk:=s.toks) (d':=s.drawn) I w a3 (by rw[zv];omega)
  have e1:(List.range c.length).map (fun i=>g.getD i (0,0))=g:=by
   refine Zu (by rw[zv,zV];omega) fun i h1 h2=>?_
   rw[Xo,WJ,qI,qg h2];rfl
  have a6:=wO.mp pw;refine zx ⟨_,rfl,.ref h1.objs.size,_,J,rfl,q _ (p.map fun i=>g.getD i (0,0)) _ hn ?_ ?_ ⟨by rw[zv,zv],fun j qq e=>?_⟩⟩
  ·have:=pm.map (fun i=>g.getD i ((0:Int),(0:Int)))
   rw[e1] at this;exact this
  ·refine wO.mpr (a6.imp_of_mem fun {i j} G B a4=>?_)
   have:=Jh O tr tot (M i G) (M j B);rw[zT a4] at this;exact this
  ·rw[zY] at e
   obtain⟨i,ei,rfl⟩:=qH.mp e;have G:=M i (qw ei);have ek:g[i]? =some (g.getD i (0,0)):=by rw[qI,qg (by omega)];rfl
   obtain⟨T,e2,e3⟩:=pr.2 i _ ek;refine⟨T,?_,e3⟩
   rw[zY,ei];show some (N.getD i .non)=_;rw[qI,e2];rfl
end
end L2
namespace L2
open PySem PySem.Spec PyProof.Rows PySem.W
section
variable{X:Cx}
def W1(p d:Addr):HO:=.ext fun h=>h.IsValuesView p d
inductive zh0(x:V)(g:List V)(H:Hp)(Q:VK):Prop
 | mk (d c:_) (_:x=.ref d) (_:g=[]) (_:Rd H d (.dK c)) (_:∀p,H p=none->Q (.ref p) (upd H p (W1 p d))):zh0  x g H Q
theorem zdx:MtM X "dict.values" zh0:=by
 intro g s σ H x l v M Q I E D h;obtain⟨d,A,rfl,rfl,hd,q⟩:=h;cases E;cases D;obtain⟨N,lo,l,B,c⟩:=wL I.hok hd;have t:H s.heap.objs.size=none:=I.hok.fresh (zD _);refine call_meetsIn PySem.F.slot_dict_values c.typeIs PySem.F.entry_dict_values (PySem.F.args_dict_values_1 _) (meets_dict_values (zM X.prog X.w) d lo) ⟨⟨l,c⟩,?_⟩
 exact⟨.ref s.heap.objs.size,_,I.laid (a:=s.heap.objs.size) (o:=W1 s.heap.objs.size d) (t':=s.toks) (fun b u e=>zN _ e) (zD _) ⟨⟨_,zL _ rfl,rfl,rfl⟩,⟨_,zL _ rfl⟩,fun G J x e=>let ⟨o,w,r⟩:=x;⟨o,e o w,r⟩⟩,rfl,q _ t⟩
inductive Z2(g:List V)(H:Hp)(Q:VK):Prop
 | mk (a d:Addr) (c:List (Key×V)) (_:g=[.ref a]) (_:H a=some (W1 a d)) (_:Rd H d (.dK c)) (_:∀p,H p=none->Q (.ref p) (upd H p (.lst (c.map (·.2))))):Z2 g H Q
theorem zaI(U:X.A.handled=none):jE X (.type "list") (Z2):=by
 intro G s σ H xs us Q I r h;obtain⟨a,d,A,rfl,T,hx,q⟩:=h;obtain⟨u,rfl,ru⟩:=u9 r;cases(show u=Value.ref a from ru)
 obtain⟨hv,_,_⟩:=(show ObjOk X.prog X.w H s.heap a (W1 a d) from I.hok a _ T)
 obtain⟨zz,hd,vs,B,M⟩:=wL I.hok hx;obtain⟨E,L⟩:=M.dictAt;have ln:=B.length;refine PySem.W.kdl_call (PySem.W.kdl_values (prog:=X.prog) (w:=X.w) (knd:=zM X.prog X.w) (r:=a) (d:=d) (kvs:=vs) (ep:=E)) U ⟨hv,L⟩ (by omega) fun h' tk g c t D l=>?_
 have Y:H s.heap.objs.size=none:=I.hok.fresh (zD _);refine⟨.ref s.heap.objs.size,_,I.laid (a:=s.heap.objs.size) (o:=.lst (A.map (·.2))) (t':=tk) t (zD _) ⟨by rw[zv];exact zz,g.toList,c,zbp ?_ ?_,by rw[D]⟩,rfl,q _ Y⟩
 ·have z:=l.1
  have y:g.toList.length=g.size:=qK;rw[zv];omega
 ·intro j u e
  rw[wR] at e;obtain⟨k,e1⟩:=l.2 j u e;obtain⟨p,N,_,O⟩:=KV.get B e1;exact⟨p.2,by rw[zY,N];rfl,O⟩
end
end L2
namespace L2
open PySem PySem.Spec PyProof.Rows PySem.W
section
variable{c:Program}{w:World}{A:Around}{E:Value->Shared->Prop}{s:Shared}
inductive Jc(c:Program)(w:World)(A:Around)(s:Shared):List Value->List Value->Bool->Prop
 | nil:Jc c w A s [] [] false
 | nl {y o}:Jc c w A s [] (y::o) true
 | ln {x l}:Jc c w A s (x::l) [] false
 | eq {x y l o b} (h:∀(Q:Bool->Shared->Prop) E,Q true s->wpAny 0#e A (eqBool x y) Q E s) (t:Jc c w A s l o b):Jc c w A s (x::l) (y::o) b
 | ne {x y l o b} (h:∀(Q:Bool->Shared->Prop) E,Q false s->wpAny 0#e A (eqBool x y) Q E s) (g:∀(Q:Value->Shared->Prop) E,Q (.bool b) s->wpAny 0#e A (richCompare .Lt x y) Q E s):Jc c w A s (x::l) (y::o) b
theorem XI{x y:Addr}{M I:Obj}{o B:Array Value}{n k:Nat}{b:Bool}{P:PySem.Fin->Shared->Prop}(hx:s.heap.get? x=some M)(O:M.data=.seq o n)(hy:s.heap.get? y=some I)(N:I.cls=.type "tuple")(Q:I.data=.seq B k)
  (T:Jc c w A s o.toList B.toList b) (h:P (.done (.ret (.bool b))) s):wpAny 0#e A (Builtin.«tuple.__lt__» ⟨[.ref x,.ref y],[]⟩) P E s:=by
 show wpAny _ _ (isInstance (.ref y) (.type "tuple") >>= _) _ _ s;refine zf (yz (T:= "tuple") ⟨I,hy,N⟩ isSubtype_tuple_tuple ?_)
 simp only[Qp,jw,if_false];refine zf (wpAny_tupleItemsOf hx O (zf (wpAny_tupleItemsOf hy Q (zf ?_))))
 refine wpAny_forIn_list _ (fun rest r J=>r.1=none/\J=s/\∃G H,rest=List.zip G H/\Jc c w A s G H b/\G.length+B.size=H.length+o.size) _ ?_ ?_ _ _ ⟨rfl,rfl,o.toList,B.toList,rfl,T,by simp[Nat.add_comm]⟩
 ·rintro⟨u,v⟩ rest r J ⟨L,rfl,G,H,l,t,D⟩
  cases t with
  | nil=>simp at l
  | nl=>simp at l
  | ln=>simp at l
  | eq e t=>
   simp only[List.zip_cons_cons,List.cons.injEq,Prod.mk.injEq] at l;obtain⟨⟨rfl,rfl⟩,rfl⟩:=l;refine zf (e _ _ ?_)
   simp only[Qp,jw,if_false];exact zx ⟨rfl,rfl,_,_,rfl,t,by simp only[jJ] at D;omega⟩
  | ne e g=>
   simp only[List.zip_cons_cons,List.cons.injEq,Prod.mk.injEq] at l;obtain⟨⟨rfl,rfl⟩,rfl⟩:=l;refine zf (e _ _ ?_)
   simp only[zaO,if_true];refine zf (xS (zf (g _ _ ?_)))
   exact zf (zx (zx (zx h)))
 ·rintro⟨U,Y⟩ J ⟨L,rfl,G,H,l,t,D⟩
  simp only at L;subst L;refine zx ?_
  have hb:decide (o.size<B.size)=b:=by
   cases t with
   | nil=>exact jb (by simp at D;omega)
   | nl=>exact zT (by simp at D;omega)
   | ln=>exact jb (by simp at D;omega)
   | eq e t=>simp at l
   | ne e g=>simp at l
  show P (.done (.ret (.bool (decide (o.size<B.size))))) J;rw[hb];exact h
theorem Jt{x y:Addr}{g l:Obj}{u B:Array Value}{n k:Nat}{b:Bool}{Q:Value->Shared->Prop}(hu:A.units<cLine)(hx:s.heap.get? x=some g)(o:g.cls=.type "tuple")(D:g.data=.seq u n)(hy:s.heap.get? y=some l)(t:l.cls=.type "tuple")(G:l.data=.seq B k)
  (T:Jc c w A.in1 s u.toList B.toList b) (h:Q (.bool b) s):wpAny 0#e A (richCompare .Lt (.ref x) (.ref y)) Q E s:=
 wpAny_richCompare_same_room (op:=.Lt) (T:= "tuple") ⟨g,hx,o⟩ ⟨l,hy,t⟩ F.slot_tuple_lt
  (xD F.slot_tuple_lt ⟨g,hx,o⟩ F.entry_tuple_lt (XI hx D hy t G T ⟨_,rfl,(fun e=>nomatch e),h⟩) (F.args_tuple_lt_2 _ _)) hu
def ltN:List Int->List Int->Bool
 | [],[]=>false
 | [],_::_=>true
 | _::_,[]=>false
 | a::g,b::l=>if a=b then ltN g l else decide (a<b)
theorem eq_int(x y:Int)(t u:Tok){Q:Bool->Shared->Prop}(h:Q (decide (x=y)) s):wpAny 0#e A (eqBool (.int x t) (.int y u)) Q E s:=by
 refine(zM c w).eqBool (a:=Sum.inl x) (b:=Sum.inl y) (xc ⟨t,rfl⟩) (xc ⟨u,rfl⟩) ?_
 rw[show decide ((Sum.inl x:Key)=Sum.inl y)=decide (x=y) from Qu.mpr ⟨fun z=>xU z,fun z=>by rw[z]⟩]
 exact h
theorem zci(x y:Int)(t u:Tok){Q:Value->Shared->Prop}(h:Q (.bool (decide (x<y))) s):wpAny 0#e A (richCompare .Lt (.int x t) (.int y u)) Q E s:=
 richCompare_gives (op:=.Lt) (typeIs_int s _ t) (typeIs_int s _ u) F.slot_int_lt F.entry_int_lt (F.args_int_lt_2 _ _) (gives_int_lt _ _ t u) (fun x=>nomatch x) h
theorem JY:∀{as bs:List Int} {g l:List Value},Vals (as.map V.int) g->Vals (bs.map V.int) l->Jc c w A s g l (ltN as bs)
 | [],[],_,_,.nil,.nil=>.nil
 | [],_::_,_,_,.nil,.cons _ _=>.nl
 | _::_,[],_,_,.cons _ _,.nil=>.ln
 | a::as,b::bs,_,_,.cons ⟨t,e1⟩ o,.cons ⟨u,e2⟩ B=>by
  subst e1 e2;by_cases h:a=b
  ·have e:ltN (a::as) (b::bs)=ltN as bs:=zu h
   rw[e];exact .eq (fun Q E q=>eq_int a b t u (by rw[zT h];exact q)) (JY o B)
  ·have e:ltN (a::as) (b::bs)=decide (a<b):=zk h
   rw[e];exact .ne (fun Q E q=>eq_int a b t u (by rw[jb h];exact q)) fun Q E q=>zci a b t u q
def ltW(p q:Int×List Int):Bool:=if p.1=q.1 then(if p.2=q.2 then false else ltN p.2 q.2) else decide (p.1<q.1)
theorem zje{p q:Int×List Int}(h:ltW p q=true):p.1<=q.1:=by
 unfold ltW at h;by_cases e:p.1=q.1
 ·omega
 ·rw[zk e] at h
  exact Int.le_of_lt (jy h)
theorem zjf{p q:Int×List Int}(h:ltW p q=false):q.1<=p.1:=by
 unfold ltW at h;by_cases e:p.1=q.1
 ·omega
 ·rw[zk e] at h
  have:=of_decide_eq_false h;omega
end
section
variable{g:Program}{w:World}{A:Around}{R:Result->Shared->Prop}{I S:Addr}{t l:List Addr}{n:Nat}{P:Nat->Value->Prop}{St:Nat->Heap->Prop}
theorem zdz(W:Walks g w A.in1 I t l n P St)(O:Nat->Nat->Bool)(J:Heap->Prop)(hJ:∀h u,J h->(∀b o,b∉l->b≠S->h.get? b=some o->u.get? b=some o)->J u)
  (hc:∀i j vi vj (s:Shared) (Q:Value->Shared->Prop) (E:Value->Shared->Prop),J s.heap->P i vi->P j vj->Q (.bool (O i j)) s->wpAny (model g w) A.in1 (richCompare .Lt vi vj) Q E s) (U:S∉t) :
  ∀(k j:Nat) (s:Shared) (G:Value) (c:Nat),n=j+1+k->St (j+1) s.heap->J s.heap->P (argBest O j) G->s.heap.get? S=some (seqObj "list" #[G,G] c) ->
   (∀v u tk,P (argBest O (n-1)) v->(∀b o,b∉l->b≠S->s.heap.get? b=some o->u.get? b=some o)->R (.ok (.ret v)) { s with heap:=u,toks:=tk }) ->
   codeAny (model g w) A (.builtin "min.loop" ⟨[.ref I,.none,.ref S],[]⟩) R s:=by
 have nw:S∉l:=fun h=>U (W.sub _ h)
 have nm:(toString "min" ++ toString ".loop" : String) = "min.loop" :=by decide
 intro k;induction k with
 | zero=>
  intro j s G c hn st j0 pb T hR;refine codeAny_builtin Qt ?_
  rw[wQ vE _];show wpAny _ A.in1 (seqItems? (.ref S) >>= _) _ _ s;refine zf (jO T rfl ?_)
  show wpAny _ A.in1 (tryCatch (pyNext (.ref I)) _ >>= _) _ _ s;have a0:St n s.heap:=by rw[hn];exact st
  refine zf (vT (W.done s _ _ a0 fun u tk L=>?_))
  show wpAny _ A.in1 (updateSeq S (fun _=>#[]) >>= _) _ _ _
  refine zf (wG (L S _ nw T) rfl (zf (xC (zx ?_))))
  exact hR G _ tk (by rw[hn];exact pb) fun b o D B e=>(x6 _ _ (zG B)).trans (L b o D e)
 | succ k ih=>
  intro j s G c hn st j0 pb T hR;refine codeAny_builtin Qt ?_
  rw[wQ vE _];show wpAny _ A.in1 (seqItems? (.ref S) >>= _) _ _ s;refine zf (jO T rfl ?_)
  show wpAny _ A.in1 (tryCatch (pyNext (.ref I)) _ >>= _) _ _ s;refine zf (vT (W.item (j+1) s _ _ (by omega) st fun v u tk pv Y L=>?_))
  have H:=L S _ nw T;have j2:J u:=hJ _ _ j0 fun b o D _ e=>L b o D e
  show wpAny _ A.in1 (tryCatch (holding [v,v] (richCompare .Lt v G >>= _)) _ >>= _) _ _ _;refine zf (vT (jD (zf (hc (j+1) (argBest O j) v G { s with heap:=u,toks:=tk } _ _ j2 pv pb ?_))))
  refine zf (jD (yA (zf (xC (zx ?_)))))
  cases hb:O (j+1) (argBest O j) with
  | true=>
   simp only[if_true];refine zf (wG H rfl (zf (xC ?_)))
   rw[nm];have M:∀b o,b≠S->u.get? b=some o->(u.update S (Obj.mapSeq fun _=>#[v,v])).get? b=some o:=fun b o B e=>(x6 _ _ (zG B)).trans e
   refine zx ⟨plainId_quiet vE _,ih (j+1) _ v _ (by omega) (W.frame _ _ _ Y fun b bf o e=>M b o (fun z=>U (by rw[<- z];exact bf)) e) (hJ _ _ j2 fun b o _ B e=>M b o B e) (by simp only[argBest,hb,if_true];exact pv) (xE _ H rfl) fun v' h2 N p2 k2=>?_⟩
   exact hR v' h2 N p2 fun b o D B e=>k2 b o D B (M b o B (L b o D e))
  | false=>
   simp only[jw,if_false];refine zf (xC ?_)
   rw[nm];refine zx ⟨plainId_quiet vE _,ih (j+1) _ G c (by omega) Y j2 (by simp only[argBest,hb,jw,if_false];exact pb) H fun v' h2 N p2 k2=>?_⟩
   exact hR v' h2 N p2 fun b o D B e=>k2 b o D B (L b o D e)
end
end L2
namespace L2
open PySem PySem.Spec PyProof.Rows PySem.W
def WkR(H:Hp)(g:List V)(c:List (Int×List Int)):Prop:=g.length=c.length/\∀(j:Nat) q,c[j]? =some q->∃T U,g[j]? =some (.ref T)/\H T=some (.tup [.int q.1,.ref U])/\H U=some (.tup (q.2.map V.int))
theorem WkR.nil{H:Hp}:WkR H [] []:=⟨rfl,fun j q e=>by simp at e⟩
theorem WkR.same{H g:Hp}{o:List V}{l:List (Int×List Int)}(h:WkR H o l)(s:Same H g):WkR g o l:=⟨h.1,fun j k e=>let ⟨T,U,a,b,c⟩:=h.2 j k e;⟨T,U,a,s _ _ b,s _ _ c⟩⟩
theorem WkR.snoc{H:Hp}{s:List V}{g:List (Int×List Int)}{q:Int×List Int}{T U:Addr}(h:WkR H s g)(e:H T=some (.tup [.int q.1,.ref U]))(w:H U=some (.tup (q.2.map V.int))):WkR H (s++[.ref T]) (g++[q]):=by
 refine⟨by rw[qz,qz,h.1];rfl,fun j r c=>?_⟩
 by_cases l:j<g.length
 ·rw[wv l] at c
  obtain⟨t,u,e1,e2,A⟩:=h.2 j r c;exact⟨t,u,by rw[wv (by rw[h.1];exact l)];exact e1,e2,A⟩
 ·have o:=(zU.mp c).1
  rw[qz] at o;have B:j=g.length:=by simp at o;omega
  subst B;rw[vh (zD _),Zl] at c;have:q=r:=by simpa using c
  subst this;exact⟨T,U,by rw[<- h.1,vh (zD _),Zl];rfl,e,w⟩
theorem WkR.set{H:Hp}{s:List V}{o:List (Int×List Int)}{q:Int×List Int}{T U:Addr}{i:Nat}(h:WkR H s o)(e:H T=some (.tup [.int q.1,.ref U]))(w:H U=some (.tup (q.2.map V.int))):WkR H (s.set i (.ref T)) (o.set i q):=by
 refine⟨by rw[yI,yI,h.1],fun j r c=>?_⟩
 by_cases g:i=j
 ·subst g
  have l:=(zU.mp c).1;rw[yI] at l;rw[QD l] at c;cases c;exact⟨T,U,QD (by rw[h.1];exact l),e,w⟩
 ·rw[QA g] at c
  obtain⟨t,u,e1,e2,A⟩:=h.2 j r c;exact⟨t,u,by rw[QA g];exact e1,e2,A⟩
def JU(c:List (Int×List Int)):Nat:=argBest (fun i j=>ltW (c.getD i (0,[])) (c.getD j (0,[]))) (c.length-1)
theorem Wr(f:Nat->Int×List Int):∀n,argBest (fun i j=>ltW (f i) (f j)) n<=n/\∀j,j<=n->(f (argBest (fun i j=>ltW (f i) (f j)) n)).1<=(f j).1
 | 0=>⟨zD _,fun j g=>by rw[show j=0 by omega];exact xT _⟩
 | n+1=>by
  obtain⟨l,c⟩:=Wr f n;cases hb:ltW (f (n+1)) (f (argBest (fun i j=>ltW (f i) (f j)) n)) with
  | true=>
   have e:argBest (fun i j=>ltW (f i) (f j)) (n+1)=n+1:=by simp only[argBest,hb,if_true]
   rw[e];refine⟨zD _,fun j g=>?_⟩
   rcases Qo j (n+1) with z | z
   ·exact vo (zje hb) (c j (by omega))
   ·rw[show j=n+1 by omega];exact xT _
  | false=>
   have e:argBest (fun i j=>ltW (f i) (f j)) (n+1)=argBest (fun i j=>ltW (f i) (f j)) n:=by simp only[argBest,hb,jw,if_false]
   rw[e];refine⟨by omega,fun j g=>?_⟩
   rcases Qo j (n+1) with z | z
   ·exact c j (by omega)
   ·rw[show j=n+1 by omega];exact zjf hb
theorem Wa{c:List (Int×List Int)}(h:c≠[]):JU c<c.length:=by
 have:=(Wr (fun i=>c.getD i (0,[])) (c.length-1)).1
 have:=Zy.mpr h;unfold JU;omega
theorem zgT{ps:List (Int×List Int)}{j:Nat}(h:j<ps.length):(ps.getD (JU ps) (0,[])).1<=(ps.getD j (0,[])).1:=
 (Wr (fun i=>ps.getD i (0,[])) (ps.length-1)).2 j (by omega)
section
variable{X:Cx}
inductive QU(K:W.Frag)(l:List V)(H:Hp)(Q:VK):Prop
 | mk (p:Addr) (g:List V) (c:List (Int×List Int)) (_:l=[.ref p]) (_:SqL K H p g) (_:WkR H g c) (_:c≠[]) (_:∀v,g[JU c]? =some v->Q v H):QU K l H Q
theorem zdV(hc:X.calm=true)(hu:X.A.units+64<cLine):jE X (.builtin "min") (QU X.K):=by
 intro ax s σ H xs us Q I r h;obtain⟨p,zs,D,rfl,hq,wk,a9,q⟩:=h;obtain⟨u,rfl,ru⟩:=vy r;cases(show u=_ from ru)
 obtain⟨g,rv,pl,hz⟩:=I.list hq;have hl:=pl.isList;have az:=rv.length;have wl:=wk.1;have h0:0<D.length:=Zy.mpr a9;have B:p<s.heap.objs.size:=let ⟨_,e,_⟩:=hl;zH e
 have nm:(toString "min" ++ toString ".loop" : String) = "min.loop" :=by decide
 have M:X.A.in1.in1.units<cLine:=yK (Xx (by decide:2<=64) _) hu
 have am:X.A.in1.units<cLine:=yK (Xx (by decide:1<=64) _) hu
 have tup:∀(j:Nat) v,g[j]? =some v->∃T q,v=Value.ref T/\D[j]? =some q/\∃o n t U,s.heap.get? T=some o/\o.cls=.type "tuple" /\ o.data=.seq #[.int q.1 t,.ref U] n/\∃o' n' ai,s.heap.get? U=some o'/\o'.cls=.type "tuple" /\ o'.data=.seq ai n'/\Vals (q.2.map V.int) ai.toList:=fun j v hj=>by
  have ay:=(zU.mp hj).1;have ek:D[j]? =some (D[j]'(by omega)):=qg _
  generalize D[j]'(by omega)=k at ek
  obtain⟨T,U,e1,e2,e3⟩:=wk.2 j k ek;obtain⟨v',Y,e5⟩:=rv.get e1;rw[hj] at Y;cases Y;cases(show v=Value.ref T from e5)
  obtain⟨_,ts,rt,⟨o,ho,ak,n,al⟩,_⟩:=(show ObjOk X.prog X.w H s.heap T (.tup [.int k.1,.ref U]) from I.hok T _ e2)
  obtain⟨_,aw,as,⟨o',aj,aa,n',ab⟩,_⟩:=(show ObjOk X.prog X.w H s.heap U (.tup (k.2.map V.int)) from I.hok U _ e3)
  cases rt with
  | cons r1 rt=>
   cases rt with
   | @cons _ O _ _ r2 rt=>
    cases rt;obtain⟨t1,rfl⟩:=r1;cases(show O=Value.ref U from r2)
    exact⟨T,k,rfl,ek,o,n,t1,U,ho,ak,al,o',n',aw.toArray,aj,aa,ab,by rw[za3];exact as⟩
 refine call_function_tree F.kind_min F.plain_min F.entry_min (F.args_min1 _) ?_
 show wpAny _ X.A.in1 (Builtin.Builtins.bindParams "min" ["key","default"] 0 ⟨[],[]⟩ >>= _) _ _ s;refine zf (yD (show Builtin.Builtins.bindParams "min" ["key","default"] 0 ⟨[],[]⟩=pure [none,none] from rfl) (zf (zx (zf (wpAny_pyIter_list hl ?_)))))
 refine zf (jY ?_)
 rw[nm];have hI:s.heap.objs.size<(s.heap.push { cls:=.type "list_iterator",data:=.fields #[.ref p,.int 0 0] }).objs.size:=by rw[qJ];exact xg _
 have ae:(s.heap.push { cls:=.type "list_iterator",data:=.fields #[.ref p,.int 0 0] }).IsListIter s.heap.objs.size p 0:=⟨_,zL _ rfl,rfl,rfl⟩;have a8:(s.heap.push { cls:=.type "list_iterator",data:=.fields #[.ref p,.int 0 0] }).IsList p g.toArray:=hl.push _;have k1:∀b o,s.heap.get? b=some o->(s.heap.push { cls:=.type "list_iterator",data:=.fields #[.ref p,.int 0 0] }).get? b=some o:=fun b o e=>zN _ e
 generalize s.heap.push { cls:=.type "list_iterator",data:=.fields #[.ref p,.int 0 0] }=l at hI ae a8 k1;have W:=Zj (prog:=X.prog) (w:=X.w) (A:=X.A.in1.in1) (I.ok.hd hc) s.heap.objs.size p (zP B) g.toArray;have W':=Zj (prog:=X.prog) (w:=X.w) (A:=X.A.in1) (I.ok.hd hc) s.heap.objs.size p (zP B) g.toArray;have L:l.objs.size∉[s.heap.objs.size,p]:=by
  intro z;rcases zC.mp z with z | z
  ·omega
  ·exact jW _ (Zm B (zW.mp z▸hI))
 have hS:(l.push { cls:=.type "list",data:=.seq ([]:List Value).toArray }).get? l.objs.size=some (seqObj "list" #[] 0):=zL _ rfl;refine zx ⟨plainId_quiet vE _,codeAny_builtin Qt ?_⟩
 rw[wQ vE _];show wpAny _ _ (seqItems? (.ref l.objs.size) >>= _) _ _ _;refine zf (jO hS rfl ?_)
 show wpAny _ _ (tryCatch (pyNext (.ref s.heap.objs.size)) _ >>= _) _ _ _;refine zf (vT (W'.item 0 { s with heap:=l.push { cls:=.type "list",data:=.seq ([]:List Value).toArray } } _ _ (by rw[zZ];omega) ⟨ae.at fun o e=>zN _ e,a8.push _⟩ fun v h' tk pv au kk=>?_))
 have nw:l.objs.size∉[s.heap.objs.size]:=fun z=>L (by simp at z;omega)
 have a0:=kk _ _ nw hS;show wpAny _ _ (updateSeq l.objs.size (fun _=>#[v,v]) >>= _) _ _ _
 refine zf (wG a0 rfl ?_)
 rw[nm];have ag:∀b o,b≠l.objs.size->h'.get? b=some o->(h'.update l.objs.size (Obj.mapSeq fun _=>#[v,v])).get? b=some o:=fun b o O e=>(x6 _ _ (zG O)).trans e
 have all:∀b o,s.heap.get? b=some o->b≠s.heap.objs.size/\b≠l.objs.size:=fun b o e=>⟨zP (zH e),zP (Zm (zH e) hI)⟩
 have j0:∀b o,s.heap.get? b=some o->(h'.update l.objs.size (Obj.mapSeq fun _=>#[v,v])).get? b=some o:=fun b o e=>
  ag b o (all b o e).2 (kk b o (fun z=>(all b o e).1 (zW.mp z)) (zN _ (k1 b o e)))
 refine zx ⟨plainId_quiet vE _,zdz (S:=l.objs.size) W' (fun i j=>ltW (D.getD i (0,[])) (D.getD j (0,[]))) (fun h=>∀b o,s.heap.get? b=some o->h.get? b=some o) (fun h h2 a b c o e=>b c o (fun z=>(all c o e).1 (zW.mp z)) (all c o e).2 (a c o e)) ?_ L (g.length-1) 0 _ v _ (by rw[zZ];omega) (W'.frame _ _ _ au fun b bf o e=>ag b o (fun z=>L (by rw[<- z];exact bf)) e) j0 pv (xE _ a0 rfl) fun v' h2 av p2 k2=>?_⟩
 ·intro i j vi vj s2 Q2 E2 N hi hj ac
  have ei:g[i]? =some vi:=by simpa using hi
  have ej:g[j]? =some vj:=by simpa using hj
  obtain⟨T,G,rfl,fi,oi,ni,ti,U,a1,a2,a3,aq,ao,xi,a4,a5,a6,a7⟩:=tup i vi ei;obtain⟨T',J,rfl,fj,oj,nj,tj,U',b1,O,b3,ar,ap,xj,b4,b5,b6,b7⟩:=tup j vj ej;rw[qI,fi,qI,fj] at ac;refine Jt am (N _ _ a1) a2 a3 (N _ _ b1) O b3 ?_ ac
  show Jc X.prog X.w X.A.in1.in1 s2 [.int G.1 ti,.ref U] [.int J.1 tj,.ref U'] (ltW G J);by_cases e1:G.1=J.1
  ·refine .eq (fun Q E q=>eq_int _ _ _ _ (by rw[zT e1];exact q)) ?_
   have kU:IsTupleKey (zM X.prog X.w) s2.heap (G.2.map Sum.inl) U:=⟨aq,xi,ao,N _ _ a4,a5,a6,wc (by rw[j9];exact a7)⟩
   have af:IsTupleKey (zM X.prog X.w) s2.heap (J.2.map Sum.inl) U':=⟨ar,xj,ap,N _ _ b4,b5,b6,wc (by rw[j9];exact b7)⟩
   have an:∀{x y:List Int},x.map (Sum.inl (β:=Str))=y.map Sum.inl->x=y:=fun {x y} z=>by
    have:=congrArg (List.map fun k:Int ⊕ Str=>k.elim id fun _=>0) z
    simpa [j9,Function.comp_def] using this
   by_cases e2:G.2=J.2
   ·rw[show ltW G J=false by unfold ltW;rw[zu e1,zu e2]]
    exact .eq (fun Q E q=>wpAny_eqBool_tuple M kU af (by rw[zT (by rw[e2])];exact q)) .nil
   ·rw[show ltW G J=ltN G.2 J.2 by unfold ltW;rw[zu e1,zk e2]]
    exact .ne (fun Q E q=>wpAny_eqBool_tuple M kU af (by rw[jb fun z=>e2 (an z)];exact q)) fun Q E q=>Jt M (N _ _ a4) a5 a6 (N _ _ b4) b5 b6 (JY a7 b7) q
  ·rw[show ltW G J=decide (G.1<J.1) by unfold ltW;rw[zk e1]]
   exact .ne (fun Q E q=>eq_int _ _ _ _ (by rw[jb e1];exact q)) fun Q E q=>zci _ _ _ _ q
 ·rw[zZ] at p2
  have e2:g[JU D]? =some v':=by
   have:g.length=D.length:=by omega
   unfold JU;rw[<- this];simpa using p2
  have hm:=Wa a9;have e3:zs[JU D]? =some (zs[JU D]'(by omega)):=qg _
  obtain⟨v2,Y,e5⟩:=rv.get e3;rw[e2] at Y;cases Y;refine⟨_,H,I.kept (h':=h2) (t':=av) (fun b o e=>k2 b o (fun z=>(all b o e).1 (zW.mp z)) (all b o e).2 (j0 b o e)),e5,q _ e3⟩
end
end L2
namespace L2
open PySem PySem.Spec PyProof.Rows PySem.W
section
variable{X:Cx}
def zlf(r:V->List V->Hp->VK->Prop)(to:TE):TE:=fun σ H Q=>to σ H fun x c=>∃d,x=.ref d/\IsD c d/\r x [] c Q
theorem V5{o:Expr}{to:TE}{c:Str}{g l:Pos}{id:String}{r:V->List V->Hp->VK->Prop}(A:Slot "dict" c id)(B:typeOf (.builtin id)=pure (.type "method_descriptor"))(L:MtM X id r)(M:PE X o to)
  (u:attributeBase o c X.env (eval o X.env)=eval o X.env:=by rfl) (w:(g.endLine==l.line)=true:=by rfl):PE X (.Call (.Attribute o c g) [] [] l) (zlf r to):=by
 intro t s σ H Q I h;refine wpAny_Call_method0_late u w (thn (M t s σ H _ I h) fun v s1 ⟨x,E,D,O,d,e,hd,N⟩=>?_)
 subst e;cases O;obtain⟨G,J⟩:=Wf D hd;exact⟨"dict",id,XD,A,B,G,J.1,QC rfl (PySem.evalArgs_none (L t s1 σ E (.ref d) [] _ [] Q D rfl .nil N))⟩
inductive Z4(g:List V)(H:Hp)(Q:VK):Prop
 | mk (a:Addr) (c:List (Key×V)) (_:g=[.ref a]) (_:Rd H a (.dK c)) (_:∀p,H p=none->Q (.ref p) (upd H p (.dK c))):Z4 g H Q
theorem zaK:jE X (.type "dict") (Z4):=by
 intro c s σ H B A Q I r h;obtain⟨a,o,rfl,hx,q⟩:=h;obtain⟨u,rfl,t⟩:=u9 r;cases(show u=Value.ref a from t)
 exact zfL I hx fun p w l g=>⟨.ref p,_,g,rfl,q p l⟩
end
end L2
namespace L2
open PySem PySem.Spec PyProof.Rows
section
variable{X:Cx}
end
section
variable{c:Program}{w:World}{K:Type}[DecidableEq K]{g:KeyKind c w K}{A:Around}{E:Value->Shared->Prop}{s:Shared}
end
section
variable{X:Cx}
end
end L2
namespace L2
open PySem PySem.Spec PyProof.Rows PySem.W
theorem zd1(a:Value):argsOk "min" ⟨[a],[(Str.ofString "default",.none)]⟩:=by unfold argsOk;kernel_rfl
theorem zkz(p q:Int×Int):ltP p q=ltN [p.1,p.2] [q.1,q.2]:=by
 show _=if p.1=q.1 then(if p.2=q.2 then false else decide (p.2<q.2)) else decide (p.1<q.1)
 unfold ltP;by_cases e1:p.1=q.1
 ·rw[zu e1]
  by_cases e2:p.2=q.2
  ·rw[zu e2];exact jb (by omega)
  ·rw[zk e2];exact Qu.mpr (by omega)
 ·rw[zk e1];exact Qu.mpr (by omega)
def zaC(c:List (Int×Int)):Nat:=argBest (fun i j=>ltP (c.getD i (0,0)) (c.getD j (0,0))) (c.length-1)
theorem zcB(f:Nat->Int×Int):∀n,argBest (fun i j=>ltP (f i) (f j)) n<=n/\∀j,j<=n->ltP (f j) (f (argBest (fun i j=>ltP (f i) (f j)) n))=false
 | 0=>⟨zD _,fun j g=>by rw[show j=0 by omega];exact yT _⟩
 | n+1=>by
  obtain⟨l,c⟩:=zcB f n;cases hb:ltP (f (n+1)) (f (argBest (fun i j=>ltP (f i) (f j)) n)) with
  | true=>
   have e:argBest (fun i j=>ltP (f i) (f j)) (n+1)=n+1:=by simp only[argBest,hb,if_true]
   rw[e];refine⟨zD _,fun j g=>?_⟩
   rcases Qo j (n+1) with z | z
   ·have a:=of_decide_eq_false (c j (by omega))
    have b:=jy hb;exact jb (by omega)
   ·rw[show j=n+1 by omega];exact yT _
  | false=>
   have e:argBest (fun i j=>ltP (f i) (f j)) (n+1)=argBest (fun i j=>ltP (f i) (f j)) n:=by simp only[argBest,hb,jw,if_false]
   rw[e];refine⟨by omega,fun j g=>?_⟩
   rcases Qo j (n+1) with z | z
   ·exact c j (by omega)
   ·rw[show j=n+1 by omega];exact hb
theorem zgU{c:List (Int×Int)}(h:c≠[]):zaC c<c.length:=by
 have:=(zcB (fun i=>c.getD i (0,0)) (c.length-1)).1
 have:=Zy.mpr h;unfold zaC;omega
section
variable{g:Program}{w:World}{A:Around}{R:Result->Shared->Prop}{I S:Addr}{t l:List Addr}{n:Nat}{P:Nat->Value->Prop}{St:Nat->Heap->Prop}
theorem zaB(W:Walks g w A.in1 I t l n P St)(O:Nat->Nat->Bool)(J:Heap->Prop)(hJ:∀h u,J h->(∀b o,b∉l->b≠S->h.get? b=some o->u.get? b=some o)->J u)
  (hc:∀i j vi vj (s:Shared) (Q:Value->Shared->Prop) (E:Value->Shared->Prop),J s.heap->P i vi->P j vj->Q (.bool (O i j)) s->wpAny (model g w) A.in1 (richCompare .Lt vi vj) Q E s) (U:S∉t) :
  ∀(k j:Nat) (s:Shared) (G:Value) (c:Nat),n=j+1+k->St (j+1) s.heap->J s.heap->P (argBest O j) G->s.heap.get? S=some (seqObj "list" #[G,G] c) ->
   (∀v u tk,P (argBest O (n-1)) v->(∀b o,b∉l->b≠S->s.heap.get? b=some o->u.get? b=some o)->R (.ok (.ret v)) { s with heap:=u,toks:=tk }) ->
   codeAny (model g w) A (.builtin "min.loop" ⟨[.ref I,.none,.ref S],[("default",.none)]⟩) R s:=by
 have nw:S∉l:=fun h=>U (W.sub _ h)
 have nm:(toString "min" ++ toString ".loop" : String) = "min.loop" :=by decide
 intro k;induction k with
 | zero=>
  intro j s G c hn st j0 pb T hR;refine codeAny_builtin Qt ?_
  rw[wQ vE _];show wpAny _ A.in1 (seqItems? (.ref S) >>= _) _ _ s;refine zf (jO T rfl ?_)
  show wpAny _ A.in1 (tryCatch (pyNext (.ref I)) _ >>= _) _ _ s;have a0:St n s.heap:=by rw[hn];exact st
  refine zf (vT (W.done s _ _ a0 fun u tk L=>?_))
  show wpAny _ A.in1 (updateSeq S (fun _=>#[]) >>= _) _ _ _
  refine zf (wG (L S _ nw T) rfl (zf (xC (zx ?_))))
  exact hR G _ tk (by rw[hn];exact pb) fun b o D B e=>(x6 _ _ (zG B)).trans (L b o D e)
 | succ k ih=>
  intro j s G c hn st j0 pb T hR;refine codeAny_builtin Qt ?_
  rw[wQ vE _];show wpAny _ A.in1 (seqItems? (.ref S) >>= _) _ _ s;refine zf (jO T rfl ?_)
  show wpAny _ A.in1 (tryCatch (pyNext (.ref I)) _ >>= _) _ _ s;refine zf (vT (W.item (j+1) s _ _ (by omega) st fun v u tk pv Y L=>?_))
  have H:=L S _ nw T;have j2:J u:=hJ _ _ j0 fun b o D _ e=>L b o D e
  show wpAny _ A.in1 (tryCatch (holding [v,v] (richCompare .Lt v G >>= _)) _ >>= _) _ _ _;refine zf (vT (jD (zf (hc (j+1) (argBest O j) v G { s with heap:=u,toks:=tk } _ _ j2 pv pb ?_))))
  refine zf (jD (yA (zf (xC (zx ?_)))))
  cases hb:O (j+1) (argBest O j) with
  | true=>
   simp only[if_true];refine zf (wG H rfl (zf (xC ?_)))
   rw[nm];have M:∀b o,b≠S->u.get? b=some o->(u.update S (Obj.mapSeq fun _=>#[v,v])).get? b=some o:=fun b o B e=>(x6 _ _ (zG B)).trans e
   refine zx ⟨plainId_quiet vE _,ih (j+1) _ v _ (by omega) (W.frame _ _ _ Y fun b bf o e=>M b o (fun z=>U (by rw[<- z];exact bf)) e) (hJ _ _ j2 fun b o _ B e=>M b o B e) (by simp only[argBest,hb,if_true];exact pv) (xE _ H rfl) fun v' h2 N p2 k2=>?_⟩
   exact hR v' h2 N p2 fun b o D B e=>k2 b o D B (M b o B (L b o D e))
  | false=>
   simp only[jw,if_false];refine zf (xC ?_)
   rw[nm];refine zx ⟨plainId_quiet vE _,ih (j+1) _ G c (by omega) Y j2 (by simp only[argBest,hb,jw,if_false];exact pb) H fun v' h2 N p2 k2=>?_⟩
   exact hR v' h2 N p2 fun b o D B e=>k2 b o D B (L b o D e)
end
section
variable{X:Cx}
theorem zat{id:String}{r:List V->Hp->VK->Prop}{x:Str}{p g U:Pos}{e B:Expr}{o:List Expr}{t:TA}(hc:zid X (.builtin id) [(Str.ofString "default",.none)] r)(hg:Gl X x)(O:X.mg x=none)(hv:bootBuiltins x=some (.builtin id))(M:PA X (e::o) t)(hk:PE X B (tC .non))
  (T:x ≠ "__name__" :=by decide) (A:(x==("__debug__":Str))=false:=by decide)
  (N:backTo g (starEach (e::o) X.env)=(false,eval e X.env)::backTo g (starEach o X.env):=by rfl)
  (l:(backTo g (starEach (e::o) X.env)).any (·.1)=false:=by rfl) :
  PE X (.Call (.Name x p) (e::o) [⟨some (Str.ofString "default"),B,U⟩] g) (tCB r t):=by
 intro c s σ H Q I h;refine wpAny_Call_Name_kw (vP I hg O hv ?_ T A)
 refine callWith_kw (thn (M g c s σ H _ I h) fun us s1 ⟨D,E,G,r1,Y⟩=>kws_cons (thn (hk c s1 σ E (fun u w=>u=.non/\r D w Q) G ⟨rfl,Y⟩) fun v s2 ⟨u,w,J,ru,L,q2⟩=>kws_nil ?_)) N l rfl rfl
 subst L;cases(show v=Value.none from ru)
 exact hc c s2 σ w D us Q J r1 q2
inductive QW(K:W.Frag)(l:List V)(H:Hp)(Q:VK):Prop
 | mk (p:Addr) (g:List V) (c:List 0#o) (_:l=[.ref p]) (_:SqL K H p g) (_:PrR H g c) (_:(c=[]->Q .non H)) (_:∀v,c≠[]->g[zaC c]? =some v->Q v H):QW K l H Q
theorem zdX(hc:X.calm=true)(hu:X.A.units+64<cLine):zid X (.builtin "min") [(Str.ofString "default",.none)] (QW X.K):=by
 intro a9 s σ H xs us Q I r h;obtain⟨p,zs,B,rfl,hq,wk,qn,q⟩:=h;obtain⟨u,rfl,ru⟩:=vy r;cases(show u=_ from ru)
 obtain⟨g,rv,pl,hz⟩:=I.list hq;have hl:=pl.isList;have ac:=rv.length;have wl:=wk.1;have E:p<s.heap.objs.size:=let ⟨_,e,_⟩:=hl;zH e
 have nm:(toString "min" ++ toString ".loop" : String) = "min.loop" :=by decide
 have ab:X.A.in1.in1.units<cLine:=yK (Xx (by decide:2<=64) _) hu
 have a6:X.A.in1.units<cLine:=yK (Xx (by decide:1<=64) _) hu
 have tup:∀(j:Nat) v,g[j]? =some v->∃T q,v=Value.ref T/\B[j]? =some q/\∃o n t u,s.heap.get? T=some o/\o.cls=.type "tuple" /\ o.data=.seq #[.int q.1 t,.int q.2 u] n:=fun j v hj=>by
  have aa:=(zU.mp hj).1;have ek:B[j]? =some (B[j]'(by omega)):=qg _
  generalize B[j]'(by omega)=k at ek
  obtain⟨T,e1,e2⟩:=wk.2 j k ek;obtain⟨v',N,e5⟩:=rv.get e1;rw[hj] at N;cases N;cases(show v=Value.ref T from e5)
  obtain⟨_,ts,rt,⟨o,ho,a4,n,a5⟩,_⟩:=(show ObjOk X.prog X.w H s.heap T (.tup [.int k.1,.int k.2]) from I.hok T _ e2)
  cases rt with
  | cons r1 rt=>
   cases rt with
   | cons r2 rt=>
    cases rt;obtain⟨t1,rfl⟩:=r1;obtain⟨t2,rfl⟩:=r2;exact⟨T,k,rfl,ek,o,n,t1,t2,ho,a4,a5⟩
 refine kmk_tree F.kind_min F.plain_min F.entry_min (zd1 _) ?_
 show wpAny _ X.A.in1 (Builtin.Builtins.bindParams "min" ["key","default"] 0 ⟨[],[(Str.ofString "default",.none)]⟩ >>= _) _ _ s;refine zf (yD (show Builtin.Builtins.bindParams "min" ["key","default"] 0 ⟨[],[(Str.ofString "default",.none)]⟩=pure [none,some .none] from rfl) (zf (zx (zf (wpAny_pyIter_list hl ?_)))))
 refine zf (jY ?_)
 rw[nm];have hI:s.heap.objs.size<(s.heap.push { cls:=.type "list_iterator",data:=.fields #[.ref p,.int 0 0] }).objs.size:=by rw[qJ];exact xg _
 have M:(s.heap.push { cls:=.type "list_iterator",data:=.fields #[.ref p,.int 0 0] }).IsListIter s.heap.objs.size p 0:=⟨_,zL _ rfl,rfl,rfl⟩;have L:(s.heap.push { cls:=.type "list_iterator",data:=.fields #[.ref p,.int 0 0] }).IsList p g.toArray:=hl.push _;have k1:∀b o,s.heap.get? b=some o->(s.heap.push { cls:=.type "list_iterator",data:=.fields #[.ref p,.int 0 0] }).get? b=some o:=fun b o e=>zN _ e
 generalize s.heap.push { cls:=.type "list_iterator",data:=.fields #[.ref p,.int 0 0] }=l at hI M L k1;have W:=Zj (prog:=X.prog) (w:=X.w) (A:=X.A.in1.in1) (I.ok.hd hc) s.heap.objs.size p (zP E) g.toArray;have W':=Zj (prog:=X.prog) (w:=X.w) (A:=X.A.in1) (I.ok.hd hc) s.heap.objs.size p (zP E) g.toArray;have J:l.objs.size∉[s.heap.objs.size,p]:=by
  intro z;rcases zC.mp z with z | z
  ·omega
  ·exact jW _ (Zm E (zW.mp z▸hI))
 have hS:(l.push { cls:=.type "list",data:=.seq ([]:List Value).toArray }).get? l.objs.size=some (seqObj "list" #[] 0):=zL _ rfl;refine zx ⟨plainId_quiet vE _,codeAny_builtin Qt ?_⟩
 rw[wQ vE _];show wpAny _ _ (seqItems? (.ref l.objs.size) >>= _) _ _ _;refine zf (jO hS rfl ?_)
 show wpAny _ _ (tryCatch (pyNext (.ref s.heap.objs.size)) _ >>= _) _ _ _;by_cases D:B=[]
 ·have il:g.length=0:=by have z:=wl;rw[D,Zr] at z;omega
  have e0:g.toArray.size=0:=by rw[zZ];exact il
  refine zf (vT (W'.done { s with heap:=l.push { cls:=.type "list",data:=.seq ([]:List Value).toArray } } _ _ (by rw[e0];exact⟨M.at fun o e=>zN _ e,L.push _⟩) fun G tk kk=>?_))
  show wpAny _ _ (rule _ >>= _) _ _ _;refine zf (xS ?_)
  refine zx ?_
  exact⟨.non,H,I.kept (h':=G) (t':=tk) (fun b o e=>kk b o (fun z=>zP (zH e) (zW.mp z)) (zN _ (k1 b o e))),rfl,qn D⟩
 ·have h0:0<B.length:=Zy.mpr D
  refine zf (vT (W'.item 0 { s with heap:=l.push { cls:=.type "list",data:=.seq ([]:List Value).toArray } } _ _ (by rw[zZ];omega) ⟨M.at fun o e=>zN _ e,L.push _⟩ fun v G tk pv a7 kk=>?_))
  have nw:l.objs.size∉[s.heap.objs.size]:=fun z=>J (by simp at z;omega)
  have O:=kk _ _ nw hS;show wpAny _ _ (updateSeq l.objs.size (fun _=>#[v,v]) >>= _) _ _ _
  refine zf (wG O rfl ?_)
  rw[nm];have Y:∀b o,b≠l.objs.size->G.get? b=some o->(G.update l.objs.size (Obj.mapSeq fun _=>#[v,v])).get? b=some o:=fun b o b2 e=>(x6 _ _ (zG b2)).trans e
  have all:∀b o,s.heap.get? b=some o->b≠s.heap.objs.size/\b≠l.objs.size:=fun b o e=>⟨zP (zH e),zP (Zm (zH e) hI)⟩
  have j0:∀b o,s.heap.get? b=some o->(G.update l.objs.size (Obj.mapSeq fun _=>#[v,v])).get? b=some o:=fun b o e=>
   Y b o (all b o e).2 (kk b o (fun z=>(all b o e).1 (zW.mp z)) (zN _ (k1 b o e)))
  refine zx ⟨plainId_quiet vE _,zaB (S:=l.objs.size) W' (fun i j=>ltP (B.getD i (0,0)) (B.getD j (0,0))) (fun h=>∀b o,s.heap.get? b=some o->h.get? b=some o) (fun h h2 a b c o e=>b c o (fun z=>(all c o e).1 (zW.mp z)) (all c o e).2 (a c o e)) ?_ J (g.length-1) 0 _ v _ (by rw[zZ];omega) (W'.frame _ _ _ a7 fun b bf o e=>Y b o (fun z=>J (by rw[<- z];exact bf)) e) j0 pv (xE _ O rfl) fun v' h2 a8 p2 k2=>?_⟩
  ·intro i j vi vj s2 Q2 E2 jj hi hj U
   have ei:g[i]? =some vi:=by simpa using hi
   have ej:g[j]? =some vj:=by simpa using hj
   obtain⟨T,qi,rfl,fi,oi,ni,ti,ui,a1,a2,a3⟩:=tup i vi ei;obtain⟨T',qj,rfl,fj,oj,nj,tj,uj,b1,b2,b3⟩:=tup j vj ej;rw[qI,fi,qI,fj] at U;refine Jt a6 (jj _ _ a1) a2 a3 (jj _ _ b1) b2 b3 ?_ U
   show Jc X.prog X.w X.A.in1.in1 s2 [.int qi.1 ti,.int qi.2 ui] [.int qj.1 tj,.int qj.2 uj] (ltP qi qj);rw[zkz];exact JY (as:=[qi.1,qi.2]) (bs:=[qj.1,qj.2]) (.cons ⟨_,rfl⟩ (.cons ⟨_,rfl⟩ .nil)) (.cons ⟨_,rfl⟩ (.cons ⟨_,rfl⟩ .nil))
  ·rw[zZ] at p2
   have e2:g[zaC B]? =some v':=by
    have:g.length=B.length:=by omega
    unfold zaC;rw[<- this];simpa using p2
   have hm:=zgU D;have e3:zs[zaC B]? =some (zs[zaC B]'(by omega)):=qg _
   obtain⟨v2,N,e5⟩:=rv.get e3;rw[e2] at N;cases N;refine⟨_,H,I.kept (h':=h2) (t':=a8) (fun b o e=>k2 b o (fun z=>(all b o e).1 (zW.mp z)) (all b o e).2 (j0 b o e)),e5,q _ D e3⟩
end
end L2
namespace L2
open PySem PySem.Spec PyProof.Rows
section
variable{X:Cx}
end
end L2
namespace L2
open PySem PySem.Spec PyProof.Rows PySem.W
section
variable{X:Cx}
end
end L2
namespace L2
open PySem PySem.Spec PyProof.Rows
section
variable{X:Cx}
end
section
variable{c:Program}{w:World}{A:Around}{E:Value->Shared->Prop}{s:Shared}
end
section
variable{X:Cx}
end
theorem zed(o A l:Expr)(t:List Expr)(scope:Scope)(u:Pos)(w s:Value)(g:Env) :
  compTurn (.SetComp o [⟨A,l,t,0⟩] scope u) 0 w s g=(do
   standAt l.pos
   match<-pyNext w with
   | none=>pure (.done .next)
   | some v=>
    letOwnedTupleGo A w v
    assign A g v
    let mut ok:=true
    for c in t do
     if ok then ok<-isTrue c g (eval c g)
    if ok then
     (do let v<-eval o g;standAt o.pos;let _<-call (.builtin "set.add") [s,v])
    again (.compLoop (.SetComp o [⟨A,l,t,0⟩] scope u) 0 w s g)):=by rfl
section
variable{c:Program}{w:World}{A:Around}{E:Value->Shared->Prop}{R:Result->Shared->Prop}{s:Shared}
theorem zdc{u H l B rest scope D G t o}
  (L:codeAny 0#e A (.compLoop (.SetComp u (⟨H,l,B,0⟩::rest) scope D) 0 G t o) R s)
  (h:wpAny 0#e A (pyIter G) (fun I J=>codeAny 0#e A (.compLoop (.SetComp u (⟨H,l,B,0⟩::rest) scope D) 0 I t o) R J) (notedBy 0#e A o fun x J=>R (.error x) J) s) :
  codeAny 0#e A (.compStart (.SetComp u (⟨H,l,B,0⟩::rest) scope D) 0 G t o) R s:=by
 refine codeAny_of_tree (show wpAny _ A ((compStart (.SetComp u (⟨H,l,B,0⟩::rest) scope D) 0 G t o).onRaise (fun x=>do noteFrame x o;standAt theWindowsPlace)) _ _ s from wpAny_notedAt ?_)
 unfold compStart;refine(show wpAny _ A (ask >>= _) _ _ s from zf (wpAny_askSetting (wpAny_ite ?_)))
 split
 ·first
   | exact zx ⟨rfl,L⟩
   | exact zf (zx (zx ⟨rfl,L⟩))
 ·first
   | exact zf (xS (zf (wF (zf (jt h (fun _ _ q=>zx ⟨rfl,q⟩) fun _ _ x=>x)))))
   | (refine zf (xS ?_)
      exact(show wpAny _ _ (standAt l.pos >>= _) _ _ s from zf (wF (zf (jt h (fun _ _ q=>zx ⟨rfl,q⟩) fun _ _ x=>x)))))
theorem zdj{B U D:Expr}{G:List Expr}{scope:Scope}{I:Pos}{M o:Value}{l:Env}(J:Nat->Shared->Prop)
  (L:∀n s,J n s->wpAny 0#e A (pyNext M) (fun r s1=>match r with
   | none=>R (.ok .next) s1
   | some v=>wpAny 0#e A (letOwnedTupleGo U M v) (fun _ s2=>wpAny 0#e A (assign U l v) (fun _ s3=>
     wpAny 0#e A (ZC G l) (fun ok N=>
      if ok=true then wpAny 0#e A (eval B l) (fun x O=>
       wpAny 0#e A (call (.builtin "set.add") [o,x]) (fun _ T=>∃m,m<n/\J m T) 0#r O) 0#r N
      else ∃m,m<n/\J m N) 0#r s3) 0#r s2) 0#r s1) 0#r s)
  (n:Nat) (h:J n s):codeAny 0#e A (.compLoop (.SetComp B [⟨U,D,G,0⟩] scope I) 0 M o l) R s:=by
 have H:∀{α:Type} {t:Sem α} {Q:α->Shared->Prop} {E:Value->Shared->Prop} {s:Shared},wpAny 0#e A t Q 0#r s->wpAny 0#e A t Q E s:=fun x=>jt x (fun _ _ q=>q) fun _ _ q=>q.elim
 refine codeAny_loop rfl J (fun k u hJ=>?_) n h
 refine(show wpAny _ A ((compTurn (.SetComp B [⟨U,D,G,0⟩] scope I) 0 M o l).onRaise (fun x=>do noteFrame x l;theTreesLotGoes x)) _ _ u from wpAny_noted ?_)
 rw[zed];refine zf (wF (zf (H (jt (L k u hJ) (fun r s1 h1=>?_) fun _ _ q=>q))))
 cases r with
 | none=>exact zx h1
 | some v=>
  refine zf (H (jt h1 (fun _ s2 h2=>zf (H (jt h2 (fun _ s3 h3=>zf (H (jt h3 (fun ok N h4=>?_) fun _ _ q=>q))) fun _ _ q=>q))) fun _ _ q=>q))
  cases ok with
  | false=>exact zx ⟨rfl,h4⟩
  | true=>
   have Y:wpAny 0#e A (eval B l) (fun x O=>wpAny 0#e A (call (.builtin "set.add") [o,x]) (fun _ T=>∃m,m<k/\J m T) 0#r O) 0#r N:=h4
   refine zf (zf (H (jt Y (fun x O h5=>zf (wF (zf (H (jt h5 (fun _ T h6=>zx (zx ⟨rfl,h6⟩)) fun _ _ q=>q))))) fun _ _ q=>q)))
variable{K:Type}[DecidableEq K]{g:KeyKind c w K}
theorem zgS{Q:Value->Shared->Prop}(h:Q (.ref s.heap.objs.size) { s with heap:=s.heap.push (wY w) }):wpAny 0#e A (newSet (.type "set")) Q E s:=by
 unfold newSet setsByText;refine zf (zf (wpAny_askSetting (zx ?_)))
 dsimp only;simp only[newObj];exact zf (wpAny_alloc (zx h))
end
section
variable{X:Cx}{l w c:Expr}{o:List Expr}{scope:Scope}{s:Pos}{A:TI}{g:TG}{u:TT}{t:TE}
end
section
variable{X:Cx}{x y:Str}{t u B:Pos}{s:Nat}{g c:Expr}{l:List Expr}{scope:Scope}{o:Pos}{D:TI}{A:TT}{w:TE}
end
section
variable{X:Cx}
end
open Sem (wp)
section
variable{X:Cx}
end
end L2
namespace L2
open PySem PySem.Spec PyProof.Rows
section
variable{X:Cx}{c:Pos}
end
end L2
namespace L2
open PySem PySem.Spec PyProof.Rows PySem.W
section
variable{X:Cx}
variable{c:Expr}
end
end L2
namespace L2
open PySem PySem.Spec PyProof.Rows
section
variable{c:Program}{w:World}{K:Type}[DecidableEq K](g:KeyKind c w K)
variable{g}
variable{A:Around}{E:Value->Shared->Prop}{s:Shared}
end
end L2
namespace PySem
section
variable{c:Program}{w:World}{A:Around}{E:Value->Shared->Prop}{s:Shared}{d o:Addr}{l:Array DictEntry}{g i:Nat}
end
end PySem
namespace L2
open PySem PySem.Spec PyProof.Rows PySem.W
section
variable{X:Cx}{c:List (Addr×Obj)}{σ:St}{H:Hp}{s:Shared}
end
end L2
namespace L2
open PySem PySem.Spec PyProof.Rows PySem.W
section
variable{X:Cx}
end
end L2
namespace L2
open PySem PySem.Spec PyProof.Rows
abbrev zjz:=Addr->V->V->Hp->(Hp->Prop)->Prop
section
variable{X:Cx}{s D w c:Expr}{l:List Expr}{scope:Scope}{o:Pos}{E:TI}{g:TG}{u:TT}{A B:TE}{mk:Addr->HO}{t:zjz}
end
end L2
namespace L2
open PySem PySem.Spec PyProof.Rows PySem.W
section
variable{X:Cx}{g E T c:Expr}{l:List Expr}{scope:Scope}{w:Pos}{U:TI}{M:TT}{L N Q:TE}{mk:Addr->HO}{t:zjz}{x y z u:Str}{H I J G O A B:Pos}{D o s:Nat}
end
def zlq(K:W.Frag)(H:Hp)(a:Addr)(p:Int×List Int):Prop:=∃U,SqT K H a [.int p.1,.ref U]/\SqT K H U (p.2.map V.int)
end L2
namespace L2
open PySem PySem.Spec PyProof.Rows
section
variable{X:Cx}{s D w c:Expr}{l:List Expr}{scope:Scope}{o:Pos}{E:TI}{g:TG}{u:TT}{A B:TE}{mk:Addr->HO}{t:zjz}
end
end L2
namespace L2
open PySem PySem.Spec PyProof.Rows PySem.W
def WkS(K:W.Frag)(H:Hp)(g:List V)(c:List (Int×List Int)):Prop:=g.length=c.length/\∀(j:Nat) q,c[j]? =some q->∃T,g[j]? =some (.ref T)/\zlq K H T q
theorem WkS.nil{K:W.Frag}{H:Hp}:WkS K H [] []:=⟨rfl,fun j q e=>by simp at e⟩
end L2
namespace L2
open PySem PySem.W PySem.Spec PyProof.Rows
section
variable{X:Cx}
end
end L2
namespace L2
open PySem PySem.Spec PyProof.Rows
def pr2(q:Int×Int):List V:=[.int q.1,.int q.2]
theorem Jj{p q:Int×Int}(h:pr2 p=pr2 q):p=q:=by
 unfold pr2 at h;have c:=V.int.inj (List.cons.inj h).1;have g:=V.int.inj (List.cons.inj (List.cons.inj h).2).1;exact Prod.ext c g
theorem ziE(p q:Int×Int):zdK (pr2 p) (pr2 q)=decide (p=q):=by
 have e:∀a b:Int,eqV (.int a) (.int b)=decide (a=b):=fun a b=>by
  show(a==b)=_;rw[vU,xp,y8]
 show(eqV (.int p.1) (.int q.1)&&(eqV (.int p.2) (.int q.2)&&true))=_;rw[e,e,Bool.and_true,vU,jI,y8,y8,y8,Prod.ext_iff]
section
variable{X:Cx}{g:List (Addr×Obj)}{σ:St}{H:Hp}{s:Shared}
theorem zjq(I:Inv X g σ H s){A:Around}(hu:A.units<cLine){a c:Addr}{p q:Int×Int}(hc:SqT X.K H c (pr2 q))(D:SqT X.K H a (pr2 p)):SeqAt.EqAt A s (.ref c) (.ref a) (decide (q=p)):=by
 by_cases e:c=a
 ·subst e
  rw[zT (Jj (I.tuple_inj hc D))];exact SeqAt.EqAt.same _
 ·obtain⟨l,E,T,z1⟩:=I.tuple hc
  obtain⟨t,G,U,z2⟩:=I.tuple D;have O:=E.length;have Q:=G.length;have h:=SeqAt.EqAt.of_refs e (SeqAt.RcAt.tuples (A:=A) (s:=s) (e:=fun j=>eqV ((pr2 q).getD j .non) ((pr2 p).getD j .non)) T U hu (fun j M N=>?_))
  ·rw[zZ,zZ,<- O,<- Q,J9,ziE] at h
   exact h
  ·have u:j<(pr2 q).length:=by rw[zZ] at M;omega
   have w:j<(pr2 p).length:=by rw[zZ] at N;omega
   obtain⟨w1,e1,Y⟩:=E.get (i:=j) (x:=(pr2 q)[j]) (qg u);obtain⟨w2,e2,q2⟩:=G.get (i:=j) (x:=(pr2 p)[j]) (qg w);have J:l.toArray[j]=w1:=by simpa using (zU.mp e1).2
   have L:t.toArray[j]=w2:=by simpa using (zU.mp e2).2
   have B:∀(o:Int×Int) (v:V),v∈pr2 o->wK v=true:=fun o v hv=>by
    rcases zC.mp hv with rfl | hv
    ·rfl
    ·cases zW.mp hv;rfl
   rw[J,L,qI,qI,qg u,qg w];exact zfJ Y q2 (B _ _ (xB u)) (B _ _ (xB w))
def zd2(K:W.Frag)(H:Hp)(o:List V)(l:List 0#o):Prop:=o.length=l.length/\∀(i:Nat) (r:Int×Int),l[i]? =some r->∃c,o[i]? =some (.ref c)/\SqT K H c [.int r.1,.int r.2]
open Classical in
theorem zcC(I:Inv X g σ H s){a:Addr}{q:Int×Int}(N:SqT X.K H a (pr2 q)){J:List V}{l:List Value}{D:List 0#o}(hx:zd2 X.K H J D)(G:Vals J l){A:Around}(hu:A.units<cLine) :
  (∀y,y∈l.toArray->SeqAt.EqAt A s y (.ref a) (decide (∃c,y=Value.ref c/\SqT X.K H c (pr2 q))))/\l.toArray.any (fun y=>decide (∃c,y=Value.ref c/\SqT X.K H c (pr2 q)))=decide (q∈D):=by
 have t:∀y∈l,∃(c:Addr) (r:Int×Int),y=.ref c/\SqT X.K H c (pr2 r)/\r∈D:=fun y hy=>by
  obtain⟨i,w⟩:=Xz.mp hy;have Q:=(zU.mp w).1;have T:=G.length;obtain⟨r,B⟩:∃r,D[i]? =some r:=⟨_,qg (by have:=hx.1;omega)⟩
  obtain⟨c,e1,e2⟩:=hx.2 i r B;obtain⟨w1,u,o⟩:=G.get e1;rw[w] at u;cases u;exact⟨c,r,o,e2,qw B⟩
 constructor
 ·intro y hy
  obtain⟨c,r,rfl,hc,_⟩:=t y (by simpa using hy)
  have h:=zjq I hu hc N;by_cases e:r=q
  ·subst e
   rw[zT rfl] at h;rw[zT ⟨c,rfl,hc⟩];exact h
  ·rw[jb e] at h
   rw[jb]
   ·exact h
   ·rintro⟨L,M,E⟩
    cases M;exact e (Jj (I.tuple_inj hc E))
 ·rw[vU,y8,List.any_toArray,Qv]
  constructor
  ·rintro⟨y,hy,O⟩
   obtain⟨L,rfl,E⟩:=jy O;obtain⟨c,r,e,hc,B⟩:=t _ hy;cases e;rw[<- Jj (I.tuple_inj hc E)];exact B
  ·intro hq
   obtain⟨i,w⟩:=Xz.mp hq;obtain⟨c,e1,e2⟩:=hx.2 i q w;obtain⟨w1,u,o⟩:=G.get e1;exact⟨w1,qw u,zT ⟨c,o,e2⟩⟩
end
inductive zkb(K:W.Frag)(c:Bool)(x:V)(y:V)(H:Hp)(Q:VK):Prop
 | mk (a p:Addr) (q:Int×Int) (l:List V) (g:List 0#o) (_:x=.ref a) (_:y=.ref p) (_:SqT K H a [.int q.1,.int q.2]) (_:SqL K H p l) (_:zd2 K H l g) (_:Q (.bl (if c then !decide (q∈g) else decide (q∈g))) H):zkb K c x y H Q
section
variable{X:Cx}
theorem ziV{K:W.Frag}(hk:X.K=K)(hu:X.A.units+64<cLine):OpR X (compareOp .In) (zkb K false):=by
 subst hk;intro c s σ H x y v u Q I D E h;obtain⟨a,p,q,L,J,rfl,rfl,o,t,hx,k⟩:=h;cases D;cases E;obtain⟨w,r,B,G⟩:=I.list t;obtain⟨g,l⟩:=zcC I o hx r (A:=X.A.in1) (by show X.A.units+1<cLine;omega)
 refine SeqAt.in_listAt _ B.isList g ⟨.bl _,H,I,rfl,?_⟩
 rw[l];exact k
end
end L2
namespace L2
open PySem PySem.Spec PyProof.Rows
section
variable{X:Cx}
end
def lpN(m:Nat):Nat->Nat->Nat->Nat×Nat
 | 0,i,q=>(i,q)
 | n+1,i,q=>lpN m n (SetTable.leap m i q).1 (SetTable.leap m i q).2
def fN(m:Nat):Nat->Nat->Nat
 | 0,i=>i
 | n+1,i=>fN m n ((i*5+1) % (m+1))
theorem Wl(m:Nat):∀a b i:Nat,fN m (a+b) i=fN m b (fN m a i)
 | 0,b,i=>by rw[Xm];rfl
 | a+1,b,i=>by rw[Nat.succ_add];exact Wl m a b _
theorem zck(m:Nat):∀a b i q:Nat,lpN m (a+b) i q=lpN m b (lpN m a i q).1 (lpN m a i q).2
 | 0,b,i,q=>by rw[Xm];rfl
 | a+1,b,i,q=>by rw[Nat.succ_add];exact zck m a b _ _
theorem zh6(m:Nat):∀n i q:Nat,(lpN m n i q).2=q/32^n
 | 0,i,q=>by rw[Nat.pow_zero,Nat.div_one];rfl
 | n+1,i,q=>by
  rw[Nat.pow_succ,Nat.mul_comm,<- XB];exact zh6 m n _ _
theorem zh7(m:Nat):∀n i q:Nat,q<32->(lpN m n i q).1=fN m n i
 | 0,i,q,_=>rfl
 | n+1,i,q,h=>by
  have e:q/32=0:=Nat.div_eq_of_lt h;show(lpN m n ((i*5+1+q/32) % (m+1)) (q/32)).1=fN m n ((i*5+1) % (m+1));rw[e];exact zh7 m n _ 0 (by decide)
theorem zfp(m:Nat):∀n i q:Nat,i<=m->(lpN m n i q).1<=m
 | 0,_,_,h=>h
 | n+1,i,q,h=>zfp m n _ _ (yJ (wE _ (Zk m)))
def Msk(m:Nat):Prop:=m=7\/m=31\/m=127
def orb(m:Nat):Nat->Nat->List Nat
 | 0,_=>[]
 | n+1,i=>i::orb m n ((i*5+1) % (m+1))
theorem ze3(m:Nat):∀{n i j:Nat},j∈orb m n i->∃k,k<n/\fN m k i=j
 | n+1,i,j,h=>by
  rcases zC.mp h with e | h
  ·exact⟨0,Zk n,e.symm⟩
  ·obtain⟨k,c,g⟩:=ze3 m h
   exact⟨k+1,Nat.succ_lt_succ c,g⟩
def zkU(m:Nat):Bool:=(List.range (m+1)).all (fun j=>(orb m (m+1) 0).contains j)&&fN m (m+1) 0==0
theorem zhj{m:Nat}(h:Msk m):zkU m=true:=by
 rcases h with rfl | rfl | rfl<;>kernel_rfl
theorem Msk.hit{m i j:Nat}(h:Msk m)(t:i<=m)(l:j<=m):∃n,n<=m/\fN m n i=j:=by
 have c:=zhj h;unfold zkU at c;rw[jI,vF,xp] at c;have g:∀j,j<=m->∃k,k<m+1/\fN m k 0=j:=fun j l=>ze3 m (List.contains_iff_mem.mp (c.1 j (qt.mpr (Nat.lt_succ_of_le l))))
 obtain⟨a,u,o⟩:=g i t;obtain⟨b,hb,s⟩:=g j l;by_cases w:a<=b
 ·refine⟨b-a,by omega,?_⟩
  rw[<- o,<- Wl,show a+(b-a)=b by omega,s]
 ·refine⟨m+1+b-a,by omega,?_⟩
  rw[<- o,<- Wl,show a+(m+1+b-a)=m+1+b by omega,Wl,c.2,s]
theorem Msk.leaps{m i j q:Nat}(h:Msk m)(c:i<=m)(g:j<=m)(hq:q<2^64):∃n,n<=m+12/\(lpN m n i q).1=j:=by
 obtain⟨n,l,e⟩:=h.hit (zfp m 12 i q c) g;refine⟨12+n,by omega,?_⟩
 rw[zck,zh7 m n _ _ (by rw[zh6];exact Nat.div_lt_of_lt_mul (jz hq (by decide))),e]
inductive Far(t:SetTable):Nat->SetTable.Probe->Prop
 | here {k:Nat} {p:SetTable.Probe}:t.slot p.j=.empty->Far t k p
 | step {k:Nat} {p:SetTable.Probe}:Far t k (t.advance p)->Far t (k+1) p
theorem Far.mono{t:SetTable}{k g:Nat}{p:SetTable.Probe}(h:Far t k p)(o:k<=g):Far t g p:=by
 induction h generalizing g with
 | here e=>exact .here e
 | step _ l=>obtain⟨c,rfl⟩:∃c,g=c+1:=⟨g-1,by omega⟩;exact .step (l (by omega))
def zkG(t:SetTable)(p:SetTable.Probe):SetTable.Probe:=t.advance { p with more:=0 }
theorem Far.more{t:SetTable}{k:Nat}:∀{m:Nat} {p:SetTable.Probe},p.more=m->Far t k (zkG t p)->Far t (k+m+1) p
 | 0,⟨j,_,i,q,d⟩,rfl,h=>.step h
 | m+1,⟨j,_,i,q,d⟩,rfl,h=>.step (Far.more (m:=m) (p:=⟨j+1,m,i,q,d⟩) rfl h)
theorem Qa{m i:Nat}(h:i<=m):SetTable.runEnd m i<=m/\i<=SetTable.runEnd m i/\SetTable.runEnd m i<=i+9:=by
 unfold SetTable.runEnd;split<;>omega
theorem Far.leaps{t:SetTable}:∀{n i q:Nat} {d:Option Nat},i<=t.mask->t.slot (lpN t.mask n i q).1=.empty->Far t (10*n) ⟨i,SetTable.runEnd t.mask i-i,i,q,d⟩
 | 0,i,q,d,_,h=>.here h
 | n+1,i,q,d,c,h=>by
  have r:=Qa c;have:=Far.leaps (n:=n) (i:=(SetTable.leap t.mask i q).1) (q:=(SetTable.leap t.mask i q).2) (d:=d) (yJ (wE _ (Zk _))) h;exact(Far.more (m:=SetTable.runEnd t.mask i-i) (p:=⟨i,SetTable.runEnd t.mask i-i,i,q,d⟩) rfl this).mono (by omega)
structure Prb(t:SetTable)(p:SetTable.Probe):Prop where
 le:p.j+p.more<=t.mask
 no:p.dummy=none
theorem Prb.of{t:SetTable}{i q:Nat}(h:i<=t.mask):Prb t ⟨i,SetTable.runEnd t.mask i-i,i,q,none⟩:=⟨by have:=Qa h;show i+(SetTable.runEnd t.mask i-i)<=_;omega,rfl⟩
theorem Prb.next{t:SetTable}{p:SetTable.Probe}(h:Prb t p):Prb t (t.advance p):=by
 obtain⟨j,m,i,q,d⟩:=p;cases(show d=none from h.no)
 have l:j+m<=t.mask:=h.le;cases m with
 | zero=>exact Prb.of (yJ (wE _ (Zk _)))
 | succ m=>exact⟨show j+1+m<=t.mask by omega,rfl⟩
theorem Vc{t:SetTable}{j i:Nat}(h:t.slot j=.live i):t.place[i]? =some j:=by
 unfold SetTable.slot at h;dsimp only at h;split at h
 ·rename_i c
  cases h;exact eq_of_beq c
 ·split at h<;>cases h
theorem Far.go{t:SetTable}{f:Nat->Int}{h:Int}(u:t.dummies=#[]):∀{fuel k:Nat} {p:SetTable.Probe},Far t k p->Prb t p->k<fuel ->
  (∃j,SetTable.probe.go t f h fuel p=some (.empty j none)/\t.place[SetTable.below t.place j]?≠some j/\j<=t.mask) \/
  ∃j i q o,SetTable.probe.go t f h fuel p=some (.candidate j i q)/\t.slot j=.live i/\f i=h/\Prb t q/\Far t o q/\o<k
 | 0,k,p,_,_,l=>absurd l (xZ k)
 | fuel+1,k,p,D,s,l=>by
  have M:=s.le;rcases Z7 u p.j with ⟨A,B⟩ | ⟨i,c⟩
  ·refine .inl ⟨p.j,?_,B,by omega⟩
   unfold SetTable.probe.go;rw[A];show some (SetTable.Met.empty p.j p.dummy)=_;rw[s.no]
  ·cases D with
   | here e=>rw[c] at e;cases e
   | @step o _ g=>
    by_cases e:f i=h
    ·refine .inr ⟨p.j,i,t.advance p,o,?_,c,e,s.next,g,xg _⟩
     unfold SetTable.probe.go;rw[c];dsimp only;rw[zu (xp.mpr e)]
    ·have e2:SetTable.probe.go t f h (fuel+1) p=SetTable.probe.go t f h fuel (t.advance p):=by
      rw[SetTable.probe.go];rw[c];dsimp only;rw[zk fun z=>e (xp.mp z)]
     rw[e2];rcases Far.go (f:=f) (h:=h) u g s.next (by omega:o<fuel) with w | ⟨j,E,q,G,w1,H,I,J,L,N⟩
     ·exact .inl w
     ·exact .inr ⟨j,E,q,G,w1,H,I,J,L,by omega⟩
structure TabT(t:SetTable)(n:Nat):Prop where
 up:Up t.place
 no:t.dummies=#[]
 le:∀j∈t.place.toList,j<=t.mask
 sz:t.place.size=n
 ms:(t.mask=7/\n<=4)\/(t.mask=31/\n<=18)\/(t.mask=127/\n<=76)
theorem TabT.msk{t:SetTable}{n:Nat}(h:TabT t n):Msk t.mask:=h.ms.imp (·.1) (·.imp (·.1) (·.1))
theorem TabT.lt{t:SetTable}{n:Nat}(h:TabT t n):n<t.mask:=by rcases h.ms with ⟨e,_⟩ | ⟨e,_⟩ | ⟨e,_⟩<;>omega
theorem TabT.fits{t:SetTable}{n:Nat}(h:TabT t n):t.fits n=true:=by
 have:=h.lt;have z:t.place.size=n:=h.sz;have:t.fill=n:=by unfold SetTable.fill;rw[h.no,z];rfl
 unfold SetTable.fits;rw[jI,xp,y8];omega
theorem TabT.fresh(b:Bool):TabT (.fresh 0 0 b) 0:=⟨List.Pairwise.nil,rfl,fun j h=>(nomatch h),rfl,.inl ⟨rfl,by decide⟩⟩
theorem ziH{m:Nat}{l:List Nat}(h:l.length<=m):∃j,j<=m/\j∉l:=by
 refine zbe fun w=>?_
 have all:∀j∈List.range (m+1),j∈l:=fun j c=>zbe fun z=>w ⟨j,yJ (qt.mp c),z⟩
 have sub:∀{a b:List Nat},a.Nodup->(∀x∈a,x∈b)->a.length<=b.length:=fun {a}=>by
  induction a with
  | nil=>exact fun _ _=>qB _
  | cons x a g=>
   intro b u s;obtain⟨o,t⟩:=xA.mp u;have hx:=s x (by simp)
   have:=g (b:=b.erase x) t fun y hy=>(Xy (fun e:y=x=>o (e▸hy))).mpr (s y (z9 _ hy))
   rw[XE hx] at this;have:=XA hx;rw[jJ];omega
 have:=sub Zt all;rw[zV] at this;omega
theorem zak{t:SetTable}(g:t.dummies=#[]){j:Nat}(h:j∉t.place.toList):t.slot j=.empty:=by
 rcases Z7 g j with ⟨c,_⟩ | ⟨i,c⟩
 ·exact c
 ·have:=Vc c
  rw[<- wR] at this;exact absurd (qw this) h
theorem TabT.far{t:SetTable}{n:Nat}(h:TabT t n)(x:Int):Far t (10*(t.mask+12)) (t.probeStart x)/\Prb t (t.probeStart x):=by
 have c:SetTable.bits x % (t.mask+1)<=t.mask:=yJ (wE _ (Zk _));have hb:SetTable.bits x<2^64:=by
  unfold SetTable.bits;have:=yB x (by decide:(0:Int)<2^64)
  have:=yw x (by decide:(2^64:Int)≠0)
  omega
 obtain⟨j,g,o⟩:=ziH (m:=t.mask) (l:=t.place.toList) (by have:=h.lt;rw[qK,h.sz];omega)
 obtain⟨u,s,e⟩:=h.msk.leaps c g hb;exact⟨(Far.leaps (d:=none) c (by rw[e];exact zak h.no o)).mono (by omega),Prb.of c⟩
theorem zcs{m:Nat}{owner:Array (Option Nat)}:∀{fuel n i q:Nat},i<=m->n<fuel->(owner.getD (lpN m n i q).1 (some 0)).isNone=true ->
  ∃j,j<=m/\SetTable.layClean.free m owner fuel i q=some j/\(owner.getD j (some 0)).isNone=true
 | 0,n,i,q,_,l,_=>absurd l (xZ n)
 | fuel+1,n,i,q,o,l,h=>by
  have r:=Qa o;unfold SetTable.layClean.free;cases c:(List.range (SetTable.runEnd m i+1-i)).find? fun k=>(owner.getD (i+k) (some 0)).isNone with
  | some k=>
   have g:=List.find?_some c
   have s:=qt.mp (zfT c);exact⟨i+k,by omega,rfl,g⟩
  | none=>
   cases n with
   | zero=>
    have:=List.find?_eq_none.mp c 0 (qt.mpr (by omega))
    exact absurd h this
   | succ n=>exact zcs (yJ (wE _ (Zk m))) (Nat.lt_of_succ_lt_succ l) h
theorem zg8{l:List (Option Nat)}{k:Nat}:∀{j:Nat},l[j]? =some none->((l.set j (some k)).filterMap id).Perm (k::l.filterMap id):=by
 induction l with
 | nil=>intro j h;simp at h
 | cons x l c=>
  intro j h;cases j with
  | zero=>
   cases(show x=none by simpa using h)
   exact .refl _
  | succ j=>
   have:=c (j:=j) (by simpa using h)
   cases x with
   | none=>exact this
   | some y=>exact(this.cons y).trans (.swap _ _ _)
structure Own(m k:Nat)(o:Array (Option Nat)):Prop where
 sz:o.size=m+1
 pm:(o.toList.filterMap id).Perm (List.range k)
theorem Own.free{m k:Nat}{o:Array (Option Nat)}(h:Own m k o)(A:k<=m):∃j,j<=m/\(o.getD j (some 0)).isNone=true:=by
 refine zbe fun u=>?_
 have all:∀x∈o.toList,x.isSome=true:=fun x hx=>by
  obtain⟨j,c,e⟩:=za7.mp hx;rw[qK,h.sz] at c;cases x with
  | some y=>rfl
  | none=>
   refine absurd ⟨j,by omega,?_⟩ u
   have e2:o[j]? =some none:=by rw[<- wR,<- e];exact qg _
   unfold Array.getD;rw[dif_pos (by rw[h.sz];exact c)]
   have:o[j]'(by rw[h.sz];exact c)=none:=qT ((xh _).symm.trans e2)
   show(o[j]'_).isNone=true;rw[this];rfl
 have g:∀{l:List (Option Nat)},(∀x∈l,x.isSome=true)->(l.filterMap id).length=l.length:=fun {l}=>by
  induction l with
  | nil=>exact fun _=>rfl
  | cons x l t=>
   intro a;have hx:=a x (by simp)
   cases x with
   | none=>cases hx
   | some y=>show(l.filterMap id).length+1=_;rw[t fun z s=>a z (z9 _ s)];rfl
 have e1:=g all;have e2:=h.pm.length_eq;rw[zV] at e2;have w:o.toList.length=m+1:=by rw[qK,h.sz]
 omega
theorem YO{m:Nat}(A:Msk m):∀{hs:List Int} {k:Nat} {o:Array (Option Nat)},Own m k o->k+hs.length<=m->∃l,hs.foldl (fun s h=>(do
   let (c,k)<-s
   let j<-SetTable.layClean.free m c (SetTable.turns m) (SetTable.bits h % (m+1)) (SetTable.bits h)
   pure (c.setIfInBounds j (some k),k+1):Option (Array (Option Nat)×Nat))) (some (o,k))=some (l,k+hs.length)/\Own m (k+hs.length) l
 | [],k,o,w,_=>⟨o,rfl,w⟩
 | h::hs,k,o,w,E=>by
  rw[jJ] at E;obtain⟨L,D,G⟩:=w.free (by omega)
  have hb:SetTable.bits h<2^64:=by
   unfold SetTable.bits;have:=yB h (by decide:(0:Int)<2^64)
   have:=yw h (by decide:(2^64:Int)≠0)
   omega
  have u:SetTable.bits h % (m+1)<=m:=yJ (wE _ (Zk _));obtain⟨n,J,e⟩:=A.leaps u D hb;obtain⟨j,M,B,t⟩:=zcs (owner:=o) (fuel:=SetTable.turns m) (n:=n) u (by unfold SetTable.turns;omega) (by rw[e];exact G)
  have g:j<o.size:=by rw[w.sz];omega
  have H:o[j]? =some none:=by
   unfold Array.getD at t;rw[dif_pos g] at t;rw[xh g];exact congrArg some (zfS.mp t)
  have I:Own m (k+1) (o.setIfInBounds j (some k)):=⟨by rw[Array.size_setIfInBounds];exact w.sz,by
   rw[Array.toList_setIfInBounds,vD];exact((zg8 (by rw[wR];exact H)).trans (w.pm.cons k)).trans (zf0 k (List.range k)).symm⟩
  obtain⟨l,e1,e2⟩:=YO A (hs:=hs) I (by omega)
  refine⟨l,?_,by rw[jJ,show k+(hs.length+1)=k+1+hs.length by omega];exact e2⟩
  rw[List.foldl_cons,jJ,show k+(hs.length+1)=k+1+hs.length by omega,<- e1]
  congr 1
  show((SetTable.layClean.free m o (SetTable.turns m) (SetTable.bits h % (m+1)) (SetTable.bits h)).bind fun j=>pure (o.setIfInBounds j (some k),k+1))=_
  rw[B];rfl
theorem zdB{m:Nat}(g:Msk m){c:Array Int}(t:c.size<=m):∃o,SetTable.layClean m c=some o/\Own m c.size o:=by
 have s:Own m 0 (Array.replicate (m+1) none):=⟨Array.size_replicate ..,by
  rw[Array.toList_replicate];have:∀n,(List.replicate n (none:Option Nat)).filterMap id=[]:=fun n=>by
   induction n with
   | zero=>rfl
   | succ n l=>exact l
  rw[this];exact .refl _⟩
 obtain⟨o,e1,e2⟩:=YO g (hs:=c.toList) s (by rw[qK];omega)
 rw[Xm,qK] at e1 e2;refine⟨o,?_,e2⟩
 unfold SetTable.layClean;rw[<- Array.foldl_toList];exact congrArg (Option.map (·.1)) e1
theorem zg4{m f v:Nat}{b p:Bool}(D:Msk m){c:Array Int}(E:c.size<=m)(G:(m=7/\c.size<=4)\/(m=31/\c.size<=18)\/(m=127/\c.size<=76)) :
  ∃s g,SetTable.laid m f v b p c=some (s,g)/\g.toList.Perm (List.range c.size)/\TabT s c.size:=by
 obtain⟨o,e,w⟩:=zdB D E;have e2:((List.range (m+1)).filterMap fun j=>(o.getD j none).map (j,·)).map (·.2)=o.toList.filterMap id:=by
  rw[List.map_filterMap];have t:o.toList=(List.range (m+1)).map fun j=>o.getD j none:=by
   refine Zu (by rw[qK,w.sz,zv,zV]) fun i A H=>?_
   rw[Xo,WJ];unfold Array.getD;rw[dif_pos (by rwa[qK] at A)]
   rfl
  rw[t,List.filterMap_map];refine congrArg (fun f=>List.filterMap f _) (funext fun j=>?_)
  show((o.getD j none).map (j,·)).map (·.2)=id (o.getD j none)
  cases o.getD j none<;>rfl
 have l:(((List.range (m+1)).filterMap fun j=>(o.getD j none).map (j,·)).map (·.2)).Perm (List.range c.size):=by rw[e2];exact w.pm
 have ln:=l.length_eq;rw[zv,zV] at ln;refine⟨⟨m,(((List.range (m+1)).filterMap fun j=>(o.getD j none).map (j,·)).map fun x=>x.1).toArray,#[],f,b,v,p⟩,_,by unfold SetTable.laid;rw[e];rfl,l,?_,rfl,fun j B=>?_,?_,G⟩
 ·exact zbr (m+1) fun j=>o.getD j none
 ·obtain⟨x,hx,rfl⟩:=qr.mp B
  obtain⟨y,hy,u⟩:=za1.mp hx;obtain⟨z,_,rfl⟩:=qH.mp u;exact yJ (qt.mp hy)
 ·show(((List.range (m+1)).filterMap fun j=>(o.getD j none).map (j,·)).map (·.1)).toArray.size=_
  rw[zZ,zv,ln]
theorem TabT.putAt{t:SetTable}{n j:Nat}(h:TabT t n)(l:t.place[SetTable.below t.place j]?≠some j)(o:j<=t.mask) :
  Up (t.put j).1.place/\(t.put j).1.dummies=#[]/\(∀i∈(t.put j).1.place.toList,i<=t.mask)/\(t.put j).1.place.size=n+1:=by
 have c:=za9 t.place (SetTable.below t.place j) j;rw[Xu] at c;refine⟨XX h.up l,?_,fun i g=>?_,?_⟩
 ·show(if SetTable.has t.dummies j=true then _ else t.dummies)=#[]
  rw[h.no,J7];rfl
 ·rcases ja.mp (c.mem_iff.mp g) with z | z
  ·exact h.le i z
  ·rw[zW.mp z];exact o
 ·have:=c.length_eq
  rw[qK,qz,qK,h.sz] at this;exact this
theorem TabT.more{t:SetTable}{n j:Nat}(h:TabT t n)(J:n<76)(D:t.place[SetTable.below t.place j]?≠some j)(H:j<=t.mask)(p:Bool) :
  (({ (t.put j).1 with plain:=p }:SetTable).tooFull=false/\TabT { (t.put j).1 with plain:=p } (n+1)) \/
  ({ (t.put j).1 with plain:=p }:SetTable).tooFull=true/\({ (t.put j).1 with plain:=p }:SetTable).fits (n+1)=true/\SetTable.sizeAbove (SetTable.grown (n+1))<=128/\∀g:Array Int,g.size=n+1 ->
   ∃s o,({ (t.put j).1 with plain:=p }:SetTable).relaid g (SetTable.grown (n+1))=some (s,o)/\o.toList.Perm (List.range g.size)/\TabT s g.size:=by
 obtain⟨a,b,c,d⟩:=h.putAt D H;have B:({ (t.put j).1 with plain:=p }:SetTable).fill=n+1:=by
  show(t.put j).1.place.size+(t.put j).1.dummies.size=n+1;rw[b,d];rfl
 have I:({ (t.put j).1 with plain:=p }:SetTable).tooFull=decide ((n+1)*5≥t.mask*3):=by
  unfold SetTable.tooFull;rw[B];rfl
 have ok:∀m,m=t.mask->((m=7/\n+1<=4)\/(m=31/\n+1<=18)\/(m=127/\n+1<=76))->TabT { (t.put j).1 with plain:=p } (n+1):=fun m e w=>⟨a,b,c,d,by subst e;exact w⟩
 have u:∀w m,SetTable.sizeAbove w=m+1->Msk m->∀g:Array Int,g.size<=m->((m=7/\g.size<=4)\/(m=31/\g.size<=18)\/(m=127/\g.size<=76)) ->
   ∃s o,({ (t.put j).1 with plain:=p }:SetTable).relaid g w=some (s,o)/\o.toList.Perm (List.range g.size)/\TabT s g.size:=fun w m e E g l k=>by
  unfold SetTable.relaid;rw[show SetTable.sizeAbove w-1=m by omega]
  exact zg4 E l k
 have A:({ (t.put j).1 with plain:=p }:SetTable).fits (n+1)=true:=by
  have:=h.lt;unfold SetTable.fits;rw[jI,xp,y8,B];exact⟨d,this⟩
 rw[I];rcases h.ms with ⟨e,l⟩ | ⟨e,l⟩ | ⟨e,l⟩
 ·by_cases z:n+1<=4
  ·exact .inl ⟨jb (by omega),ok _ rfl (.inl ⟨e,z⟩)⟩
  ·have z:n=4:=by omega
   subst z;exact .inr ⟨zT (by omega),A,by decide +kernel,fun g G=>u _ 31 (by decide +kernel) (.inr (.inl rfl)) g (by omega) (.inr (.inl ⟨rfl,by omega⟩))⟩
 ·by_cases z:n+1<=18
  ·exact .inl ⟨jb (by omega),ok _ rfl (.inr (.inl ⟨e,z⟩))⟩
  ·have z:n=18:=by omega
   subst z;exact .inr ⟨zT (by omega),A,by decide +kernel,fun g G=>u _ 127 (by decide +kernel) (.inr (.inr rfl)) g (by omega) (.inr (.inr ⟨rfl,by omega⟩))⟩
 ·exact .inl ⟨jb (by omega),ok _ rfl (.inr (.inr ⟨e,by omega⟩))⟩
section
variable{l:Program}{w:World}{A:Around}{E:Value->Shared->Prop}{s:Shared}
def TK(l:Program)(w:World):HeapKind l w (List Key):=tupleKind (zM l w)
theorem zdR{n:Nat}{v:Value}(h:carriedByValue v=true):ofAClassStatement n v=pure false:=by
 cases v with
 | ref a=>simp[carriedByValue] at h
 | _=>first| rfl | (unfold ofAClassStatement;rfl)
theorem Vs{b:Addr}{k:List Key}{Q:Bool->Shared->Prop}(hk:(TK l w).is s.heap k b)(h:Q false s):wpAny (model l w) A (ofAClassStatement 8 (.ref b)) Q E s:=by
 have G:s.TypeIs (.ref b) "tuple" :=IsTupleKey.typeIs hk;obtain⟨o,g,n,I,_,hd,H⟩:=hk;unfold ofAClassStatement;refine zf (Zn G ?_)
 dsimp only;refine zf (zx ?_)
 simp only[Qp,jw,if_false];refine zf (jO I hd ?_)
 dsimp only;refine zf ?_
 show wpAny _ _ (forIn g _ _) _ _ s;rw[<- WI];refine wpAny_forIn_list _ (fun rest r D=>r.1=none/\D=s/\∀v∈rest,carriedByValue v=true) _ ?_ ?_ _ _ ⟨rfl,rfl,H.byValue⟩
 ·rintro v rest r D ⟨t,rfl,c⟩
  rw[zdR (c v jK)];refine zf (zx ?_)
  simp only[jw,if_false];exact zx ⟨rfl,rfl,fun u B=>c u (z9 _ B)⟩
 ·rintro⟨J,L⟩ D ⟨t,rfl,_⟩
  simp only at t;subst t;exact zx h
theorem zfC(n:Nat){v:Value}(h:carriedByValue v=true):∃b,hashByValue n v=pure b:=by
 cases v with
 | ref a=>simp[carriedByValue] at h
 | _=>first| exact⟨_,by unfold hashByValue;rfl⟩ | exact⟨_,by simp[hashByValue];rfl⟩
theorem zfD{b:Addr}{k:List Key}{Q:Bool->Shared->Prop}(hk:(TK l w).is s.heap k b)(h:∀c,Q c s):wpAny (model l w) A (hashByValue 8 (.ref b)) Q E s:=by
 have G:s.TypeIs (.ref b) "tuple" :=IsTupleKey.typeIs hk;obtain⟨o,t,n,I,_,hd,H⟩:=hk;unfold hashByValue;refine zf (wpAny_specialOf G F.slot_tuple_hash.lookup ?_)
 dsimp only;refine zf (jO I hd ?_)
 refine zf ?_
 show wpAny _ _ (forIn t _ _) _ _ s;rw[<- WI];refine wpAny_forIn_list _ (fun rest r D=>D=s/\∀v∈rest,carriedByValue v=true) _ ?_ ?_ _ _ ⟨rfl,H.byValue⟩
 ·rintro v rest r D ⟨rfl,g⟩
  obtain⟨c,e⟩:=zfC 7 (g v jK);rw[e];refine zf (zx ?_)
  cases c
  ·exact zx (zx (h _))
  ·exact zx ⟨rfl,fun u B=>g u (z9 _ B)⟩
 ·rintro⟨J,L⟩ D ⟨rfl,_⟩
  cases J
  ·exact zx (h _)
  ·exact zx (h _)
theorem zey{b:Addr}{k:List Key}{o:List Value}{Q:Bool->Shared->Prop}(hk:(TK l w).is s.heap k b)(hy:∀y∈o,∃D t,y=.ref t/\(TK l w).is s.heap D t)(h:Q false s) :
  wpAny (model l w) A (searchCouldBeSeen (.ref b) o) Q E s:=by
 unfold searchCouldBeSeen;refine zf ?_
 refine wpAny_forIn_list _ (fun rest r B=>r.1=none/\B=s/\∀v∈rest,v∈o) _ ?_ ?_ _ _ ⟨rfl,rfl,fun v hv=>hv⟩
 ·rintro y rest r B ⟨u,rfl,c⟩
  obtain⟨D,t,rfl,g⟩:=hy y (c y jK);have next:∀v∈rest,v∈o:=fun v hv=>c v (z9 _ hv)
  dsimp only;split
  ·exact zx ⟨rfl,rfl,next⟩
  ·refine zf ((TK l w).quiet hk ?_)
   simp only[Qp,jw,if_false];refine zf ((TK l w).quiet g ?_)
   simp only[Qp,jw,if_false];refine zf (Vs hk ?_)
   simp only[jw,if_false];refine zf (Vs g ?_)
   simp only[jw,if_false];exact zx ⟨rfl,rfl,next⟩
 ·rintro⟨G,H⟩ B ⟨u,rfl,_⟩
  simp only at u;subst u;exact zx h
theorem zam{a b:Addr}{k:List Key}{o:Obj}{g:Array (Int×Value)}{L:Nat}{t:SetTable}{Q:SetFound->Shared->Prop}(hu:A.units<cLine)(hk:(TK l w).is s.heap k b)(M:s.heap.get? a=some o)(hd:o.data=.set g L t)(B:TabT t g.size)
  (el:∀e∈g.toList,∃N I,e.2=.ref I/\(TK l w).is s.heap N I/\N≠k) (q:∀j,t.place[SetTable.below t.place j]?≠some j->j<=t.mask->Q (.free j false) s) :
  ∀{n fuel:Nat} {p:SetTable.Probe} {st:Option SetTable.Probe},Far t n p->Prb t p->n<fuel->n<10*SetTable.turns t.mask->st.getD (t.probeStart ((TK l w).hash k))=p ->
   wpAny (model l w) A (setSearchFrom a (.ref b) ((TK l w).hash k) true fuel st) Q E s:=by
 have gw:t.gaveWay=false:=by
  unfold SetTable.gaveWay;rcases B.msk with e | e | e<;>rw[e]<;>rfl
 intro n;induction n using Nat.strongRecOn with
 | _ n ih=>
 intro fuel p st fa pr l1 l2 hp;obtain⟨fuel,rfl⟩:∃c,fuel=c+1:=⟨fuel-1,by omega⟩
 unfold setSearchFrom;refine zf (wP M hd B.fits ?_)
 dsimp only;rw[gw,hp];simp only[jw,if_false];generalize u:SetTable.probe t _ _ _=r;have G:∃f,SetTable.probe.go t f ((TK l w).hash k) (10*SetTable.turns t.mask) p=r:=⟨_,u⟩;clear u;obtain⟨f,u⟩:=G;rcases Far.go (f:=f) (h:=(TK l w).hash k) B.no fa pr l2 with ⟨j,e,e2,O⟩ | ⟨j,i,p',n',e,e2,O,T,U,Y⟩
 ·rw[e] at u
  subst u;exact zx (q j e2 O)
 ·rw[e] at u
  subst u;dsimp only;have L:=Vc e2;have il:i<g.size:=by
   have:=(WR.mp L).1;rwa[B.sz] at this
  have D:g[i]? =some g[i]:=xh il;obtain⟨N,I,J,H,ne⟩:=el g[i] (Array.getElem_mem_toList il);generalize g[i]=x at D J;obtain⟨hx,y⟩:=x;dsimp only at J;subst J;have sm:t.sameMemory t.moves t.mask=some true:=by
   unfold SetTable.sameMemory;rw[zu (beq_self_eq_true _)]
  cases t.led
  ·simp only[zaO,if_true]
   refine zf (zey hk (fun y hy=>?_) ?_)
   ·obtain⟨x,hx,rfl⟩:=qr.mp hy
    obtain⟨k2,b2,e9,h9,_⟩:=el x (by rw[Array.toList_filter] at hx;exact(yy.mp hx).1)
    exact⟨k2,b2,e9,h9⟩
   simp only[jw,if_false];rw[D];refine zf (jD ((TK l w).eqBool hu H hk ?_))
   rw[jb ne];refine zf (wP M hd B.fits ?_)
   simp only[Wx,jw,if_false];rw[sm];simp only[if_true];rw[e2];dsimp only;rw[D];refine zf (wpAny_isSame_ref_self ?_)
   exact zf (zx (ih n' Y U T (by omega) (by omega) rfl))
  ·simp only[Qp,jw,if_false]
   rw[D];refine zf (jD ((TK l w).eqBool hu H hk ?_))
   rw[jb ne];refine zf (wP M hd B.fits ?_)
   simp only[Wx,jw,if_false];rw[sm];simp only[if_true];rw[e2];dsimp only;rw[D];refine zf (wpAny_isSame_ref_self ?_)
   exact zf (zx (ih n' Y U T (by omega) (by omega) rfl))
def zkR(l:Program)(w:World)(p:List Key×Addr):Int×Value:=((TK l w).hash p.1,.ref p.2)
def SetT(l:Program)(w:World)(h:Heap)(a:Addr)(u:List (List Key×Addr)):Prop:=
 ∃o c g t,h.get? a=some o/\o.ExactSet/\o.data=.set c g t/\c.toList.Perm (u.map (zkR l w))/\TabT t c.size
theorem SetT.at{h c:Heap}{a:Addr}{g:List (List Key×Addr)}(x:SetT l w h a g)(k:∀o,h.get? a=some o->c.get? a=some o):SetT l w c a g:=let ⟨o,B,u,t,e,r⟩:=x;⟨o,B,u,t,k o e,r⟩
theorem SetT.new(h:Heap):SetT l w (h.push (wY w)) h.objs.size []:=
 ⟨wY w,#[],0,_,zL _ rfl,⟨rfl,rfl,rfl⟩,rfl,.refl _,TabT.fresh _⟩
theorem ziy{a:Addr}{o:Obj}{c:Array (Int×Value)}{Q g:Nat}{t D:SetTable}{B:Array Nat}{R:Unit->Shared->Prop}(J:s.heap.get? a=some o)(I:o.ExactSet)(hd:o.data=.set c Q t)(T:t.fits c.size=true)(Y:SetTable.sizeAbove g<=128)
  (e:t.relaid (c.map (·.1)) g=some (D,B)) (p:B.toList.Perm (List.range c.size)) (tb:TabT D c.size) (U:c.size<=sizeLine)
  (h:∀H L u G,Heap.SameBut a s.heap H->H.get? a=some L->L.ExactSet->L.data=.set u G D->u.toList.Perm c.toList->R () { s with heap:=H }):wpAny (model l w) A (setRelay a g) R E s:=by
 have N:(B.filterMap (c[·]?)).toList.Perm c.toList:=by
  rw[Array.toList_filterMap];exact(p.filterMap _).trans (by rw[filterMap_getElem?_range])
 have O:(B.filterMap (c[·]?)).size=c.size:=by
  have:=N.length_eq;rwa[qK,qK] at this
 unfold setRelay;refine zf (wP J hd T ?_)
 dsimp only;rw[zk (by rw[sizeLine_eq];omega),e]
 refine zf (show wpAny _ _ (ite _ _ _) _ _ _ from wpAny_ite ?_)
 rw[zk (by rw[O];simp)]
 refine zx ?_
 have M:=xE (Obj.putSet (B.filterMap (c[·]?)) D) J (by rw[putSet_of _ _ hd];rfl)
 rw[putSet_of _ _ hd] at M;exact wpAny_storeSet_of J hd (h _ _ _ _ (yC s.heap a _) M I rfl N) (by rw[O];exact U)
theorem zj6{a b:Addr}{k:List Key}{I:List (List Key×Addr)}{Q:Value->Shared->Prop}(hu:A.units+1<cLine)(hk:(TK l w).is s.heap k b)(a1:∀p∈I,(TK l w).is s.heap p.1 p.2)(nk:k∉I.map (·.1))(hS:SetT l w s.heap a I)(a2:I.length<76)
  (h:∀M N,Heap.SameBut a s.heap M->SetT l w M a (I++[(k,b)])->Q .none { s with heap:=M,toks:=N }):wpAny (model l w) A (call (.builtin "set.add") [.ref a,.ref b]) Q E s:=by
 obtain⟨o,u,ep,t,G,D,hd,pm,J⟩:=hS;have ln:=pm.length_eq;rw[qK,zv] at ln;have ty:s.TypeIs (.ref a) "set" :=⟨o,G,D.1⟩;refine xD F.slot_set_add ty F.entry_set_add ?_ (F.args_set_add_2 _ _)
 unfold Builtin.«set.add»;generalize a0:setAdd=SA;obtain⟨H,g,d,N,os⟩:=s;wp_walk
 subst a0;refine(show wpAny _ _ (setAdd a (.ref b)) _ _ _ from jD (zf ((TK l w).pyHash (tupleKind_room_in1 hu) hk ?_)))
 refine jD ?_
 show wpAny _ _ (setAddHashedIn a (.ref b) _ 100000) _ _ _;unfold setAddHashedIn;refine zf (wP G hd J.fits ?_)
 dsimp only;rw[show byScan (.ref b) u=false from rfl]
 simp only[jw,if_false];obtain⟨fa,pr⟩:=J.far ((TK l w).hash k);have mb:t.mask<=127:=by rcases J.msk with e | e | e<;>omega
 unfold setSearch;refine zf (zam (s:=⟨H,g,d,N+(TK l w).draws k,os⟩) (A:=A.in1) hu hk G hd J (fun e he=>?_) (fun j nj jl=>?_) fa pr (yK (Nat.mul_le_mul_left 10 (Nat.add_le_add_right mb 12)) (show 10*(127+12)<100000 by decide)) (by unfold SetTable.turns;omega) rfl)
 ·obtain⟨p,H,e⟩:=qr.mp (pm.mem_iff.mp he)
  exact⟨p.1,p.2,by rw[<- e];rfl,a1 p H,fun z=>nk (z▸List.mem_map_of_mem H)⟩
 dsimp only;refine zf (wP G hd J.fits ?_)
 have hz:(SetTable.insertAt u (SetTable.below t.place j) ((TK l w).hash k,Value.ref b)).size=u.size+1:=by
  have:=(za9 u (SetTable.below t.place j) ((TK l w).hash k,Value.ref b)).length_eq;rwa[qK,Xu,qz,qK] at this
 have L:(SetTable.insertAt u (SetTable.below t.place j) ((TK l w).hash k,Value.ref b)).toList.Perm ((I++[(k,b)]).map (zkR l w)):=by
  refine(za9 u (SetTable.below t.place j) ((TK l w).hash k,Value.ref b)).trans ?_
  rw[Xu,zQ];exact pm.append_right _
 have sl:∀n,n<=77->n<=sizeLine:=fun n h=>xa h (by rw[sizeLine_eq];decide)
 have B:∀c:Bool,wpAny (model l w) A.in1 (do
   storeSet a (SetTable.insertAt u (SetTable.below t.place j) ((TK l w).hash k,Value.ref b)) { (t.put j).1 with plain:=c }
   if(!false&&({ (t.put j).1 with plain:=c }:SetTable).tooFull)=true then do
    setRelay a (SetTable.grown (u.size+1))
    pure true
   else pure true) (fun a s'=>wpAny (model l w) A.in1 (ret Value.none) (fun U s'=>∃v,U=Fin.done (Flow.ret v)/\Q v s') E s') E { heap:=H,gens:=g,drawn:=d,toks:=N+(TK l w).draws k,os:=os }:=fun c=>by
  have sb:=yC H a (Obj.putSet (SetTable.insertAt u (SetTable.below t.place j) ((TK l w).hash k,Value.ref b)) { (t.put j).1 with plain:=c });have Y:=xE (Obj.putSet (SetTable.insertAt u (SetTable.below t.place j) ((TK l w).hash k,Value.ref b)) { (t.put j).1 with plain:=c }) G (by rw[putSet_of _ _ hd];rfl)
  rw[putSet_of _ _ hd] at Y;refine zf (wpAny_storeSet_of G hd ?_ (sl _ (by omega)))
  rcases J.more (by omega) nj jl c with ⟨T,a4⟩ | ⟨T,f2,f3,f4⟩
  ·rw[T]
   simp only[Wx,jw,if_false];exact zx (zx ⟨_,rfl,h _ _ sb ⟨_,_,_,_,Y,D,rfl,L,by rw[hz];exact a4⟩⟩)
  ·rw[T]
   simp only[zaO,Bool.and_self,if_true];obtain⟨t',od,e1,e2,O⟩:=f4 ((SetTable.insertAt u (SetTable.below t.place j) ((TK l w).hash k,Value.ref b)).map (·.1)) (by rw[Array.size_map,hz])
   rw[Array.size_map] at e2 O;refine zf (ziy Y D rfl (by rw[hz];exact f2) f3 e1 e2 O (sl _ (by omega)) fun M o' a6 a5 a3 g2 x2 d2 p2=>?_)
   have z2:=p2.length_eq;rw[qK,qK] at z2;exact zx (zx ⟨_,rfl,h _ _ (sb.trans a3) ⟨_,_,_,_,g2,x2,d2,p2.trans L,by rw[z2];exact O⟩⟩)
 split
 ·refine zf (zfD hk fun c=>?_)
  cases c
  ·exact B false
  ·exact B _
 ·exact zf (zx (B _))
end
def zgu(P:Program)(w:World)(p:Addr)(n:Nat):HO:=.ext fun h=>∃c,SetT P w h p c/\c.length=n
def tST(P:Program)(w:World)(K:W.Frag)(T:TI)(n:Nat)(B:List Nat)(g:TG)(O:TT)(M:TE):TE:=fun σ H Q=>T σ H fun J I=>
 ∃W:Nat->Nat->List (List Key×Addr)->Hp->Prop,(∃m,W 0 m [] I)/\∀i m l c,W i m l c->(∀p∈l,SqT K c p.2 (p.1.map kV)) /\
  ((J.stop i c/\∀D,c D=none->Q (.ref D) (upd c D (zgu P w D l.length))) \/
  (J.go i c/\∃N:List (List Key×Addr)->Hp->Prop,(∀G s,N G s->∃E,E<m/\W (i+1) E G s)/\∀x t,J.yld i c x t->g x (upS n B σ) t fun o L=>o.drop n=(upS n B σ).drop n/\O o L fun b u=>
   if b=true then M o u fun y A=>∃(k:List Key) (b:Addr),y=.ref b/\SqT K A b (k.map kV)/\k∉l.map (·.1)/\l.length<76/\N (l++[(k,b)]) A else N l u))
section
variable{X:Cx}{w G t:Expr}{A:List Expr}{scope:Scope}{E:Pos}{O:TI}{g:TG}{M:TT}{L:TE}
theorem Inv.keyT{l:List (Addr×Obj)}{σ:St}{H:Hp}{s:Shared}{b:Addr}{k:List Key}(I:Inv X l σ H s)(h:SqT X.K H b (k.map kV)):(TK X.prog X.w).is s.heap k b:=by
 obtain⟨u,r,⟨o,e,c,n,d⟩,_⟩:=I.tuple h;exact⟨o,u.toArray,n,e,c,d,by simpa using wc r⟩
theorem zkh(hu:X.A.units+1<cLine)(own fr:List Str)(js:List Nat)(hc:X.calm=true)(hk:scope.kind=.function)(hb:QP scope.names X.env.scope.names X.N fr js=true)(hi:PI X G t O)
  (hg:∀C s H ex,PG (qm X (own++fr) scope C s H ex) G g) (hf:∀C s H ex,PF (qm X (own++fr) scope C s H ex) A M) (he:∀C s H ex,PE (qm X (own++fr) scope C s H ex) w L)
  (hs:∀x,foldedSetIterable t X.env x=pure x:=by intro _;rfl):PE X (.SetComp w [⟨G,t,A,0⟩] scope E) (tST X.prog X.w X.K O own.length js g M L):=by
 intro a1 s σ H Q I h;have B:=Y7 hb;have a5:∀y∈scope.names,y.2=NameKind.free->∃c,X.env.cells.lookup y.1=some c:=fun y hy e=>I.ok.has y.1 (B.free y hy e)
 rw[arm_eval_SetComp];refine wpAny_comprehension_free (use:=none) rfl hs (Jp a5) hk (fun y hy e=>B.loc y hy e) (thn (hi a1 s σ H _ I h) fun v s1 h1=>thn h1 fun bg s2 h2=>?_)
 obtain⟨it,U,tn,J,H2,e,I2,T,ak,f2,W,⟨m0,w0⟩,a9⟩:=h2;subst e;have fl:∀b∈U,b<s2.heap.objs.size:=fun b hb=>let ⟨o,e,_⟩:=T.obj _ _ ak b hb;zH e
 refine zgS (wpAny_newFunctionEnv B.cell (by intro y hy;simp at hy) (fun h1 ah ai=>?_) hk)
 dsimp only at ah ai ⊢;have ax:SetT X.prog X.w (s2.heap.push (wY X.w)) s2.heap.objs.size []:=SetT.new s2.heap;have sD:=I2.fpOk (zD s2.heap.objs.size) (I2.hok.fresh (zD s2.heap.objs.size));generalize e3:s2.heap.push (wY X.w)=h3 at ah ai ax ⊢;have k3:∀b o,s2.heap.get? b=some o->h3.get? b=some o:=fun b o e=>by rw[<- e3];exact zN _ e
 have k4:∀b o,h3.get? b=some o->h1.get? b=some o:=fun b o e=>ai.extBut b o (zP (zH e)) (zN _ e)
 have I3:Inv X a1 σ H2 { s2 with heap:=h3 }:=I2.kept (t':=s2.toks) k3;have hz:h3.objs.size=s2.heap.objs.size+1:=by rw[<- e3,qJ]
 have ag:s2.heap.objs.size≠h3.objs.size:=by rw[hz];exact zP (xg _)
 generalize eD:s2.heap.objs.size=D at *
 have fD:∀b∈U,D≠b:=fun b hb=>jH (fl b hb)
 have f3:∀b∈D::U,jZ X a1 H2 b:=fun b hb=>(zC.mp hb).elim (fun z=>z▸sD) (f2 b)
 have I4:Inv (qm X (own++fr) scope h3.objs.size { s2 with heap:=h3,toks:=s2.toks } H2 (D::U)) [] (upS own.length js σ) H2 { s2 with heap:=h1,toks:=s2.toks+([]:List (Str×Value)).length }:=
  zaN own fr js I3 B hk f3 (fun b hb=>by
   show b<h3.objs.size;rw[hz];exact(zC.mp hb).elim (fun z=>z▸xg _) fun z=>xt (fl b z)) rfl ah k4
 generalize eC:h3.objs.size=C at *
 have hx:∀b∈D::U,∀x c,(qy X.env.cells scope.names []).lookup x=some c->c≠b:=fun b hb x c e=>(f3 b hb).2.2.2.2.1 x c (zO e a5)
 have b9:∀b∈D::U,b∉frs X.stack:=I4.ok.exfs;have an:∀{a0:List 0#l} {Y:Hp} {b:Addr},b∈D::U->Y b=none->(∀p∈a0,p.1≠b)->jZ 0#f a0 Y b:=fun {a0 Y b} hb hn hp=>
  ⟨hn,(I4.ok.exf b hb).1,b9 b hb,.inl hb,fun x c e=>hx b hb x c e,fun p h=>hp p (by simpa using h)⟩
 have a7:∀s4:Shared,s4={ s2 with heap:=h1,toks:=s2.toks+([]:List (Str×Value)).length } ->
   codeAny 0#b X.A (.compLoop (.SetComp w [⟨G,t,A,0⟩] scope E) 0 (.ref it) (.ref D) (compEnvC scope (qy X.env.cells scope.names []) C X.env))
    (compPost 0#b X.A X.xe none (EP X a1 σ Q) (.ref D) C) s4:=by
  intro s4 e4;refine zdj (fun n s'=>∃i ks Y,Inv 0#f [] (upS own.length js σ) Y s'/\tn i s'.heap/\(∀b∈U,Y b=none)/\Y D=none/\SetT X.prog X.w s'.heap D ks/\W i n ks Y) ?_ m0 ?_
  ·rintro n s5 ⟨i,ks,H5,I5,aw,ao,b3,bc,w5⟩
   obtain⟨o5,ae,ac,t5,ar,a3⟩:=id bc;have nc:∀v,o5.data≠.cell v:=fun v q=>by
    rw[a3.2.1] at q;cases q
   have al:=I5.pinned (fp:=[D]) (fun b hb=>by rw[zW.mp hb];exact an jK b3 (fun p hp=>absurd hp (by simp))) (fun b hb=>by
    rw[zW.mp hb];exact⟨_,ar,nc⟩)
   have pD:∀p∈[]++zX [D] s5.heap,p.1=D:=fun p hp=>by
    rw[Qr] at hp;exact zW.mp (v0 hp).1
   have mD:(D,o5)∈[]++zX [D] s5.heap:=by
    rw[Qr];exact qP (zW.mpr rfl) ar
   have af:∀{Y:Hp},(∀b∈U,Y b=none)->∀b∈U,jZ 0#f ([]++zX [D] s5.heap) Y b:=fun hn b hb=>an (z9 _ hb) (hn b hb) fun p hp=>by
    rw[pD p hp];exact fD b hb
   rcases(a9 i n ks H5 w5).2 with ⟨stop,q⟩ | ⟨go,N,hN,step⟩
   ·refine thn (T.done 0#f rfl rfl rfl hc i _ s5 _ H5 _ al (af ao) aw stop) fun r s6 ⟨hr,I6⟩=>?_
    subst hr;obtain⟨m6,b6,_⟩:=I6.loc;refine⟨m6,b6,fun h7 b7=>?_⟩
    obtain⟨o6,au,_⟩:=I6.pin (D,_) (qG _ mD);have k7:∀b o,b≠C->s6.heap.get? b=some o->h7.get? b=some o:=fun b o hb e=>b7.extBut b o hb e
    have bd:SetT X.prog X.w h7 D ks:=⟨o5,ae,ac,t5,k7 D _ ag o6,a3⟩;refine⟨.ref D,upd H5 D (zgu X.prog X.w D ks.length),?_,rfl,q D au⟩
    refine I3.call' (s':={ s6 with heap:=h7 }) (ch:=D::U) I6.os (yb (VI I6.base (xJ eC) k7) jK sD.1) (we (Jm I6.hok I6.free k7) au ⟨⟨ks,bd,rfl⟩,?_,fun h1 h2 ⟨ks,x,l⟩ e=>⟨ks,x.at e,l⟩⟩) I6.bare fun b hb=>?_
    ·exact⟨o5,k7 D _ ag o6⟩
    ·obtain⟨_,g1,_,g3,g4,g5⟩:=f3 b hb
     exact⟨g3,g1,g4,g5⟩
   ·refine thn (T.item 0#f rfl rfl rfl hc i _ s5 _ H5 _ al (af ao) aw go) fun r s6 ⟨u,hr,h6⟩=>?_
    subst hr;refine thn h6 fun _ s7 ⟨x,H7,I7,r7,y7,a4,b2⟩=>?_
    have b1:=I7.pinned (af b2) (T.obj _ _ a4);refine thn (hg _ _ _ _ _ s7 _ H7 x u _ b1 r7 (step x H7 y7)) fun _ s8 ⟨σ8,H8,I8,b4,q8⟩=>?_
    refine thn (hf _ _ _ _ _ s8 σ8 H8 _ I8 q8) fun ok s9 ⟨H9,I9,q9⟩=>?_
    have aa:∀{Y:Hp} {s':Shared},Inv 0#f (([]++zX [D] s5.heap)++zX U s7.heap) σ8 Y s' ->
      Inv 0#f [] (upS own.length js σ) Y s':=fun {Y s'} J=>by
     refine(J.unpinned).unpinned.weak (I5.len.trans J.len.symm) fun k v e=>?_
     obtain⟨hn,e1,_⟩:=xO e;rw[<- b4,Xw] at e1;rw[<- e1];congr 1
     omega
    have mF:∀b∈U,∀o,s7.heap.get? b=some o->(b,o)∈([]++zX [D] s5.heap)++zX U s7.heap:=fun b hb o e=>qG _ (qP hb e)
    have as:=vg (zX U s7.heap) mD;have ap:∀{Y:Hp} {s':Shared},Inv 0#f (([]++zX [D] s5.heap)++zX U s7.heap) σ8 Y s'->∀b∈U,Y b=none:=fun {Y s'} J b hb=>by
     obtain⟨o,e,_⟩:=T.obj _ _ a4 b hb;exact(J.pin (b,o) (qG _ (mF b hb o e))).2.1
    cases ok with
    | false=>
     have aj:N ks H9:=by simpa using q9
     obtain⟨m',hm,w'⟩:=hN _ _ aj;obtain⟨o9,b8,_⟩:=I9.pin (D,_) (qG _ as);exact⟨m',hm,i+1,ks,H9,aa I9,T.keep _ _ _ a4 fun b hb o e=>(I9.pin (b,o) (qG _ (mF b hb o e))).1,ap I9,b8,⟨o5,ae,ac,t5,o9,a3⟩,w'⟩
    | true=>
     have aj:L σ8 H9 fun y H6=>∃(k:List Key) (b:Addr),y=.ref b/\SqT X.K H6 b (k.map kV)/\k∉ks.map (·.1)/\ks.length<76/\N (ks++[(k,b)]) H6:=by simpa using q9
     refine thn (he _ _ _ _ _ s9 σ8 H9 _ I9 aj) fun yv bh ⟨y,b0,a2,bb,ky,am,ey,aq,av,b5,be⟩=>?_
     subst ey;cases(show yv=Value.ref am from bb)
     obtain⟨m',hm,w'⟩:=hN _ _ be;obtain⟨ba,a8,_⟩:=a2.pin (D,_) (qG _ as);have ab:=(a9 _ _ _ _ w').1;refine zj6 hu (a2.keyT aq) (fun p hp=>a2.keyT (ab p (vg _ hp))) av ⟨o5,ae,ac,t5,ba,a3⟩ b5 fun bf az a6 ay=>?_
     refine⟨m',hm,i+1,ks++[(ky,am)],b0,?_,T.keep _ _ _ a4 fun b hb o e=>a6.extBut b o (zG (fD b hb)) (a2.pin (b,o) (qG _ (mF b hb o e))).1,ap a2,a8,ay,w'⟩
     exact(aa a2).turned (t':=az) (it:=D) (fun b o hb e=>a6.extBut b o hb e) a8 ag (.inl jK) (fun x c e=>hx D jK x c e) fun p hp=>absurd (show p∈([]:List 0#l) from hp) (by simp)
  ·subst e4
   exact⟨0,[],H2,I4,T.keep _ _ _ ak fun b hb o e=>k4 b o (k3 b o e),fun b hb=>(f2 b hb).1,sD.1,ax.at fun o e=>k4 _ _ e,w0⟩
 exact zdc (a7 _ rfl) (T.self X.A 0 _ _ _ (T.keep _ _ _ ak fun b hb o e=>k4 b o (k3 b o e)) (a7 _ rfl))
end
section
variable{X:Cx}{x:Str}{B:Pos}{g c:Expr}{l:List Expr}{scope:Scope}{A:Pos}{G:TI}{E:TT}{D:TE}
theorem ziM(hu:X.A.units+1<cLine)(t:List Str)(u:List Nat)(hc:X.calm=true)(hk:scope.kind=.function)(hb:Zi scope.names X.env.scope.names X.N [x] t u=true)(N:PI X (.Name x B) c G)
  (M:∀C s H o,PF (qm X ([x]++t) scope C s H o) l E) (L:∀C s H o,PE (qm X ([x]++t) scope C s H o) g D)
  (O:∀x,foldedSetIterable c X.env x=pure x:=by intro _;rfl):PE X (.SetComp g [⟨.Name x B,c,l,0⟩] scope A) (tST X.prog X.w X.K G 1 u (xY 0) E D):=by
 obtain⟨w,I,J⟩:=wq hb;exact zkh hu [x] t u hc hk w N (fun C s H o=>vK (I x (by simp)) J rfl) M L O
inductive QZ(P:Program)(w:World)(o:List V)(H:Hp)(Q:VK):Prop
 | mk (a:Addr) (n:Nat) (_:o=[.ref a]) (_:H a=some (zgu P w a n)) (_:Q (.int n) H):QZ P w o H Q
theorem zdY:jE X (.builtin "len") (QZ X.prog X.w):=by
 intro L s σ H xs us Q I r h;obtain⟨a,n,rfl,hx,q⟩:=h;obtain⟨u,rfl,T⟩:=u9 r;cases(show u=Value.ref a from T)
 obtain⟨⟨ks,⟨o,Y,U,t,N,w,hd,O,J⟩,M⟩,_,_⟩:=(show ObjOk X.prog X.w H s.heap a (zgu X.prog X.w a n) from I.hok a _ hx)
 have ln:=O.length_eq;rw[qK,zv,M] at ln;have:=J.lt;have:t.mask<=127:=by rcases J.msk with e | e | e<;>omega
 refine call_len_set N w hd J.fits (by have sb:scanBound=4096:=rfl;omega) ⟨.int n,H,I.kept (fun b o e=>e),⟨_,by rw[ln]⟩,q⟩
end
theorem zir{K:W.Frag}{a:Addr}{xs:List V}{g:TG}{I:TT}{G:TE}{w:St}{n:Nat}{R:List (List Key×Addr)->Hp->Prop}{H:Hp}(Pv:Nat->List (List Key×Addr)->Hp->Prop)(J:Pv 0 [] H)
  (L:∀i c H,Pv i c H->SqT K H a xs/\∀p∈c,SqT K H p.2 (p.1.map kV))
  (M:∀i x c H,xs[i]? =some x->Pv i c H->g x w H fun o D=>o.drop n=w.drop n/\I o D fun b s=>
   if b=true then G o s fun v t=>∃(k:List Key) (b:Addr),v=.ref b/\SqT K t b (k.map kV)/\k∉c.map (·.1)/\c.length<76/\Pv (i+1) (c++[(k,b)]) t else Pv (i+1) c s)
  (hd:∀c H,Pv xs.length c H->R c H) :
  ∃W:Nat->Nat->List (List Key×Addr)->Hp->Prop,(∃m,W 0 m [] H)/\∀i m c l,W i m c l->(∀p∈c,SqT K l p.2 (p.1.map kV)) /\
   (((Itt K a).stop i l/\R c l) \/
   ((Itt K a).go i l/\∃N:List (List Key×Addr)->Hp->Prop,(∀c A,N c A->∃E,E<m/\W (i+1) E c A)/\∀x B,(Itt K a).yld i l x B->g x w B fun o D=>o.drop n=w.drop n/\I o D fun b s=>
    if b=true then G o s fun y t=>∃(k:List Key) (b:Addr),y=.ref b/\SqT K t b (k.map kV)/\k∉c.map (·.1)/\c.length<76/\N (c++[(k,b)]) t else N c s)):=by
 refine⟨fun i m c l=>m=xs.length-i/\i<=xs.length/\Pv i c l,⟨_,rfl,qB _,J⟩,?_⟩
 rintro i m c l ⟨rfl,T,p⟩;obtain⟨q,all⟩:=L i c l p;refine⟨all,?_⟩
 by_cases u:i<xs.length
 ·refine .inr ⟨⟨xs,xs[i],q,by simp[u]⟩,Pv (i+1),fun Q A O=>⟨_,by omega,rfl,u,O⟩,fun x B y=>?_⟩
  obtain⟨e,y⟩:=y;subst e;exact M i x c _ (y xs q) p
 ·have e:i=xs.length:=by omega
  subst e;exact .inl ⟨⟨xs,q,zD _⟩,hd c l p⟩
abbrev Ja(h:Heap)(z TI TO:Addr)(c:Value)(g:Bool):Prop:=h.get? z=some { cls:=.type "zip",dict:=none,data:=.fields #[c,.bool g,.bool false,.ref TI,.ref TO],slots:=#[] }
abbrev wX(h:Heap)(T:Addr)(a b c:Value):Prop:=h.get? T=some { cls:=.type "tuple",data:=.seq #[a,b,c] }
structure zbk(h:Heap)(z TI TO i1 i2 i3 a1 a2 a3:Addr)(i:Nat):Prop where
 zz:∃f0 f1,(f0=.none\/∃t:Int,f0=rawInt t)/\Ja h z TI TO f0 f1
 ti:wX h TI (.ref i1) (.ref i2) (.ref i3)
 to:∃a b c,wX h TO a b c
 r1:h.IsListIter i1 a1 i
 r2:h.IsListIter i2 a2 i
 r3:h.IsListIter i3 a3 i
section
variable{l:Program}{w:World}{A:Around}{E:Value->Shared->Prop}{s:Shared}
theorem WV{M:Model}{a:Addr}{Q:Option Obj->Shared->Prop}(h:Q (s.heap.get? a) s):wpAny M A (loadIfAlive a) Q E s:=fun Γ p c=>by
 unfold loadIfAlive;rw[Sem.wp_loadIfAlive];exact zx (M:=M) (A:=A) (E:=E) h Γ p c
theorem VG{T:Addr}{a b c x:Value}{k:Nat}{Q:Unit->Shared->Prop}(o:wX s.heap T a b c)
  (h:∀g,g.get? T=some { cls:=.type "tuple",data:=.seq ((#[a,b,c]:Array Value).setIfInBounds k x) }->Heap.SameBut T s.heap g->Q () { s with heap:=g }) :
  wpAny (model l w) A (updateSeq T (·.setIfInBounds k x)) Q E s:=by
 refine wG o rfl (h _ ?_ (yC ..))
 rw[xE _ o rfl];simp[Obj.mapSeq]
theorem zgg{z TI TO H i2 i3 a1 a2 a3:Addr}{i:Nat}{xs ys zs:Array Value}{x y u:Value}{Q:Option Value->Shared->Prop}(nd:[z,TI,TO,H,i2,i3].Nodup)(Z:zbk s.heap z TI TO H i2 i3 a1 a2 a3 i)
  (l1:s.heap.IsList a1 xs) (l2:s.heap.IsList a2 ys) (l3:s.heap.IsList a3 zs) (m1:a1∉[z,TO,H,i2,i3]) (m2:a2∉[z,TO,H,i2,i3]) (m3:a3∉[z,TO,H,i2,i3]) (hx:xs[i]? =some x) (hy:ys[i]? =some y) (hu:zs[i]? =some u)
  (hQ:∀G T,zbk G z TI TO H i2 i3 a1 a2 a3 (i+1)->s.heap.objs.size<=T->wX G T x y u->(∀c o,c∉[z,TO,H,i2,i3]->s.heap.get? c=some o->G.get? c=some o)->Q (some (.ref T)) { s with heap:=G }):wpAny (model l w) A (pyNext (.ref z)) Q E s:=by
 obtain⟨⟨f0,f1,hf,hz⟩,ag,⟨a,b,c,aj⟩,h1,h2,h3⟩:=Z;simp only[xA,zC,x5,not_or,or_false,not_false_eq_true,vq,and_true] at nd m1 m2 m3;obtain⟨⟨n1,n2,n3,n4,n5⟩,⟨n6,n7,n8,n9⟩,⟨nA,nB,nC⟩,⟨nD,nE⟩,nF⟩:=nd;obtain⟨p1,p2,p3,p4,p5⟩:=m1;obtain⟨q1,q2,q3,q4,q5⟩:=m2;obtain⟨k1,k2,k3,k4,k5⟩:=m3;have hT:s.TypeIs (.ref z) "zip" :=⟨_,hz,rfl⟩;unfold pyNext;refine zf (yF (y9 (name:=Str.ofString "__next__") hT wH (xD wH hT WC ?_ (WG _))))
 show wpAny _ _ (field (.ref z) 2 >>= _) _ _ _;refine zf (jG hz rfl (x:=.bool false) rfl ?_)
 show wpAny _ _ (field (.ref z) 3 >>= _) _ _ _;refine zf (jG hz rfl (x:=.ref TI) rfl (zf (jO ag rfl ?_)))
 show wpAny _ _ (Builtin.SmallTypes.ownedTupleIsFree (.ref z) >>= _) _ _ _;refine zf ?_
 have ae:∀{E:Value->Shared->Prop} {R:Bool->Shared->Prop},R true s->(∀G,Heap.SameBut z s.heap G->Ja G z TI TO f0 true->(∃t:Int,f0=rawInt t)->R false { s with heap:=G })->wpAny (model l w) A.in1 (Builtin.SmallTypes.ownedTupleIsFree (.ref z)) R E s:=by
  intro E R r1 r2;unfold Builtin.SmallTypes.ownedTupleIsFree;refine zf (jG hz rfl (x:=f0) rfl ?_)
  rcases hf with rfl | ⟨t,rfl⟩
  ·exact zx r1
  ·show wpAny _ _ (loadIfAlive t.toNat >>= _) _ _ _
   refine zf (WV ?_)
   cases s.heap.get? t.toNat with
   | none=>exact zx r1
   | some o=>
    simp only[Option.isNone_some,jw,if_false];refine zf (jG hz rfl (x:=.bool f1) rfl ?_)
    cases f1
    ·refine zf (wu hz (by simp) fun g N L=>zx (r2 g L N ⟨t,rfl⟩))
    ·exact zx (r2 s.heap (zaT ..) hz ⟨t,rfl⟩)
 refine ae ?_ fun g1 L N ft=>?_
 ·simp only[if_true]
  refine zf (xS (zf (jG hz rfl (x:=.ref TO) rfl (zf (wu hz (by simp) fun g1 N L=>?_)))))
  replace N:Ja g1 z TI TO .ellipsis f1:=N
  refine zf ?_;simp only[WB,Wz,yH,Zo]
  refine zf (zf (yE ?_));show wpAny _ _ (Builtin.SmallTypes.nextOf (.ref H) >>= _) _ _ _
  have O:∀c o,c≠z->s.heap.get? c=some o->g1.get? c=some o:=fun c o h e=>L.extBut _ o h e
  refine zf (Zz (h1.at fun o e=>O _ o (zG n3) e) (l1.at fun o e=>O _ o p1 e) hx fun g2 af M=>zx ?_)
  have a6:∀c o,c≠z->c≠H->s.heap.get? c=some o->g2.get? c=some o:=fun c o h G e=>M.extBut _ o G (O c o h e)
  have ab:wX g2 TO a b c:=a6 _ _ (zG n2) nA aj;refine zf (jO ab rfl (zf (VG ab fun g3 a7 D=>?_)))
  replace a7:wX g3 TO x b c:=a7
  refine zf (xC (zx ?_));refine zf (zf (yE ?_));show wpAny _ _ (Builtin.SmallTypes.nextOf (.ref i2) >>= _) _ _ _
  have I:∀c o,c≠z->c≠H->c≠TO->s.heap.get? c=some o->g3.get? c=some o:=fun c o h G a0 e=>D.extBut _ o a0 (a6 c o h G e)
  refine zf (Zz (h2.at fun o e=>I _ o (zG n4) (zG nD) (zG nB) e) (l2.at fun o e=>I _ o q1 q3 q2 e) hy fun g4 aq B=>zx ?_)
  have U:wX g4 TO x b c:=B.extBut _ _ nB a7;refine zf (jO U rfl (zf (VG U fun g5 a8 a9=>?_)))
  replace a8:wX g5 TO x y c:=a8
  refine zf (xC (zx ?_));refine zf (zf (yE ?_));show wpAny _ _ (Builtin.SmallTypes.nextOf (.ref i3) >>= _) _ _ _
  have ai:∀c o,c≠z->c≠H->c≠TO->c≠i2->s.heap.get? c=some o->g5.get? c=some o:=fun c o h G a0 h3 e=>a9.extBut _ o a0 (B.extBut _ o h3 (I c o h G a0 e))
  refine zf (Zz (h3.at fun o e=>ai _ o (zG n5) (zG nE) (zG nC) (zG nF) e) (l3.at fun o e=>ai _ o k1 k3 k2 k4 e) hu fun g6 as a4=>zx ?_)
  have ac:wX g6 TO x y c:=a4.extBut _ _ nC a8;refine zf (jO ac rfl (zf (VG ac fun J Y a5=>?_)))
  replace Y:wX J TO x y u:=Y
  refine zf (xC (zx (zx (zf (jO Y rfl (zf (wpAny_newTuple ?_)))))))
  have ax:J.objs.size=s.heap.objs.size:=by rw[a5.1,a4.1,a9.1,B.1,D.1,M.1,L.1]
  have ao:∀c o,c∉[z,TO,H,i2,i3]->s.heap.get? c=some o->J.get? c=some o:=fun c o hc e=>by
   simp only[zC,x5,not_or,or_false] at hc;obtain⟨c1,c2,c3,c4,c5⟩:=hc;exact a5.extBut _ o c2 (a4.extBut _ o c5 (ai c o c1 c3 c2 c4 e))
  have am:Ja J z TI TO .ellipsis f1:=a5.extBut _ _ n2 (a4.extBut _ _ n5 (a9.extBut _ _ n2 (B.extBut _ _ n4 (D.extBut _ _ n2 (M.extBut _ _ n3 N)))));have r1:J.IsListIter H a1 (i+1):=af.at fun o e=>a5.extBut _ o (zG nA) (a4.extBut _ o nE (a9.extBut _ o (zG nA) (B.extBut _ o nD (D.extBut _ o (zG nA) e))))
  have r2:J.IsListIter i2 a2 (i+1):=aq.at fun o e=>a5.extBut _ o (zG nB) (a4.extBut _ o nF (a9.extBut _ o (zG nB) e))
  have r3:J.IsListIter i3 a3 (i+1):=as.at fun o e=>a5.extBut _ o (zG nC) e
  have zl:z<J.objs.size:=zH am;show wpAny _ _ (Builtin.SmallTypes.ownedTupleHandOut (.ref z) (.ref J.objs.size) >>= _) _ _ _;refine zf ?_;unfold Builtin.SmallTypes.ownedTupleHandOut
  have aa:Ja (J.push { cls:=.type "tuple",data:=.seq #[x,y,u] }) z TI TO .ellipsis f1:=zN _ am;refine zf (wu aa (by simp) fun g8 aa ak=>?_)
  replace aa:Ja g8 z TI TO (rawInt J.objs.size) f1:=aa
  refine wu aa (by simp) fun g9 ah al=>?_
  replace ah:Ja g9 z TI TO (rawInt J.objs.size) false:=ah
  have up:∀c o,c≠z->J.get? c=some o->g9.get? c=some o:=fun c o c1 e=>al.extBut _ o c1 (ak.extBut _ o c1 (zN _ e))
  have au:wX g9 J.objs.size x y u:=al.extBut _ _ (jH zl) (ak.extBut _ _ (jH zl) (zL _ rfl));refine zx ⟨_,rfl,zx (hQ g9 J.objs.size ⟨⟨_,_,.inr ⟨_,rfl⟩,ah⟩,up _ _ (zG n1) (ao _ _ (by simp[zG n1,n6,n7,n8,n9]) ag),⟨_,_,_,up _ _ (zG n2) Y⟩,r1.at fun o e=>up _ o (zG n3) e,r2.at fun o e=>up _ o (zG n4) e,r3.at fun o e=>up _ o (zG n5) e⟩ (by rw[ax];exact zD _) au fun c o hc e=>up c o 0#j (ao c o hc e))⟩
 ·simp only[jw,if_false]
  refine zf ?_
  rw[<- WI];simp only[yH,Zo];have O:∀c o,c≠z->s.heap.get? c=some o->g1.get? c=some o:=fun c o h e=>L.extBut _ o h e
  refine zf (zf (jD ?_));show wpAny _ _ (Builtin.SmallTypes.nextOf (.ref H) >>= _) _ _ _
  refine zf (Zz (s:={ s with heap:=g1 }) (h1.at fun o e=>O _ o (zG n3) e) (l1.at fun o e=>O _ o p1 e) hx fun g2 af M=>zx (zx ?_))
  have a6:∀c o,c≠z->c≠H->s.heap.get? c=some o->g2.get? c=some o:=fun c o h G e=>M.extBut _ o G (O c o h e)
  refine zf (zf (jD ?_));show wpAny _ _ (Builtin.SmallTypes.nextOf (.ref i2) >>= _) _ _ _
  refine zf (Zz (s:={ s with heap:=g2 }) (h2.at fun o e=>a6 _ o (zG n4) (zG nD) e) (l2.at fun o e=>a6 _ o q1 q3 e) hy fun g3 ap D=>zx (zx ?_))
  have I:∀c o,c≠z->c≠H->c≠i2->s.heap.get? c=some o->g3.get? c=some o:=fun c o h G a0 e=>D.extBut _ o a0 (a6 c o h G e)
  refine zf (zf (jD ?_));show wpAny _ _ (Builtin.SmallTypes.nextOf (.ref i3) >>= _) _ _ _
  refine zf (Zz (s:={ s with heap:=g3 }) (h3.at fun o e=>I _ o (zG n5) (zG nE) (zG nF) e) (l3.at fun o e=>I _ o k1 k3 k4 e) hu fun g4 ar B=>zx (zx (zx ?_)))
  have aw:g4.objs.size=s.heap.objs.size:=by rw[B.1,D.1,M.1,L.1]
  have an:∀c o,c∉[z,TO,H,i2,i3]->s.heap.get? c=some o->g4.get? c=some o:=fun c o hc e=>by
   simp only[zC,x5,not_or,or_false] at hc;obtain⟨c1,c2,c3,c4,c5⟩:=hc;exact B.extBut _ o c5 (I c o c1 c3 c4 e)
  have av:Ja g4 z TI TO f0 true:=B.extBut _ _ n5 (D.extBut _ _ n4 (M.extBut _ _ n3 N));have U:wX g4 TO a b c:=B.extBut _ _ nC (I _ _ (zG n2) nA nB aj);refine zf (wpAny_newTuple (hsz:=by show 3<=sizeLine;rw[sizeLine_eq];decide) (zx ⟨_,rfl,zx (hQ _ _ ⟨⟨f0,true,.inr ft,zN _ av⟩,zN _ (an _ _ (by simp[zG n1,n6,n7,n8,n9]) ag),⟨a,b,c,zN _ U⟩,?_,?_,?_⟩ (by rw[aw];exact zD _) (zL _ rfl) fun c o hc e=>zN _ (an c o hc e))⟩))
  ·exact af.at fun o e=>zN _ (B.extBut _ o nE (D.extBut _ o nD e))
  ·exact ap.at fun o e=>zN _ (B.extBut _ o nF e)
  ·exact ar.at fun o e=>zN _ e
theorem zig{z TI TO M i2 i3 Y a2 a3:Addr}{i:Nat}{xs:Array Value}{Q:Option Value->Shared->Prop}(hh:A.handled=none)(nd:[z,TI,TO,M,i2,i3].Nodup)(Z:zbk s.heap z TI TO M i2 i3 Y a2 a3 i)
  (l1:s.heap.IsList Y xs) (m1:Y≠z) (hx:xs[i]? =none) (hQ:∀L,(∀c o,c∉[z,M]->s.heap.get? c=some o->L.get? c=some o)->Q none { s with heap:=L }):wpAny (model l w) A (pyNext (.ref z)) Q E s:=by
 obtain⟨⟨f0,U,hf,I⟩,a0,⟨a,b,c,a6⟩,h1,h2,h3⟩:=Z;have n3:z≠M:=fun e=>by simp[e] at nd
 have hT:s.TypeIs (.ref z) "zip" :=⟨_,I,rfl⟩;unfold pyNext;refine zf (yF (y9 (name:=Str.ofString "__next__") hT wH (xD wH hT WC ?_ (WG _))))
 show wpAny _ _ (field (.ref z) 2 >>= _) _ _ _;refine zf (jG I rfl (x:=.bool false) rfl ?_)
 show wpAny _ _ (field (.ref z) 3 >>= _) _ _ _;refine zf (jG I rfl (x:=.ref TI) rfl (zf (jO a0 rfl ?_)))
 show wpAny _ _ (Builtin.SmallTypes.ownedTupleIsFree (.ref z) >>= _) _ _ _;refine zf ?_
 have J:∀{E:Value->Shared->Prop} {R:Bool->Shared->Prop},R true s->(∀L,Heap.SameBut z s.heap L->Ja L z TI TO f0 true->(∃t:Int,f0=rawInt t)->R false { s with heap:=L })->wpAny (model l w) A.in1 (Builtin.SmallTypes.ownedTupleIsFree (.ref z)) R E s:=by
  intro E R r1 r2;unfold Builtin.SmallTypes.ownedTupleIsFree;refine zf (jG I rfl (x:=f0) rfl ?_)
  rcases hf with rfl | ⟨t,rfl⟩
  ·exact zx r1
  ·show wpAny _ _ (loadIfAlive t.toNat >>= _) _ _ _
   refine zf (WV ?_)
   cases s.heap.get? t.toNat with
   | none=>exact zx r1
   | some o=>
    simp only[Option.isNone_some,jw,if_false];refine zf (jG I rfl (x:=.bool U) rfl ?_)
    cases U
    ·refine zf (wu I (by simp) fun g B u=>zx (r2 g u B ⟨t,rfl⟩))
    ·exact zx (r2 s.heap (zaT ..) I ⟨t,rfl⟩)
 refine J ?_ fun g1 u B ft=>?_
 ·simp only[if_true]
  refine zf (xS (zf (jG I rfl (x:=.ref TO) rfl (zf (wu I (by simp) fun g1 B u=>?_)))))
  replace B:Ja g1 z TI TO .ellipsis U:=B
  refine zf ?_;simp only[WB,Wz,yH,Zo]
  refine zf (zf (yE ?_));show wpAny _ _ (Builtin.SmallTypes.nextOf (.ref M) >>= _) _ _ _
  refine zf (wpAny_nextOf_list_end hh (h1.at fun o e=>u.extBut _ o (zG n3) e) (l1.at fun o e=>u.extBut _ o m1 e) hx fun g2 e H he=>?_)
  obtain⟨oe,D,G⟩:=he;have O:Ja g2 z TI TO .ellipsis U:=H _ _ n3 B;have a4:e≠z:=fun q=>by subst q;rw[O] at D;cases D;exact absurd (Qq G) (by decide)
  refine wu O (by simp) fun g3 a7 N=>?_
  refine zf (yz (T:= "StopIteration") (b:=true) ⟨oe,N.extBut _ _ a4 D,G⟩ isSubtype_stop (zx (hQ _ fun c o hc q=>?_)))
  exact N.extBut _ o 0#j (H _ o 0#j (u.extBut _ o 0#j q))
 ·simp only[jw,if_false]
  refine zf ?_
  rw[<- WI];simp only[yH,Zo];refine zf (zf (jD ?_));show wpAny _ _ (Builtin.SmallTypes.nextOf (.ref M) >>= _) _ _ _
  refine zf (wpAny_nextOf_list_end (s:={ s with heap:=g1 }) hh (h1.at fun o e=>u.extBut _ o (zG n3) e) (l1.at fun o e=>u.extBut _ o m1 e) hx fun g2 e H he=>?_)
  obtain⟨oe,D,G⟩:=he;refine zf (yz (T:= "StopIteration") (b:=true) ⟨oe,D,G⟩ isSubtype_stop (zx (hQ _ fun c o hc q=>?_)))
  exact H _ o 0#j (u.extBut _ o 0#j q)
abbrev z3h(h:Heap)(c g o:Obj):Heap:=(((((h.push c).push g).push o).push { cls:=.type "tuple",data:=.seq #[.ref h.objs.size,.ref (h.push c).objs.size,.ref ((h.push c).push g).objs.size] }).push { cls:=.type "tuple",data:=.seq #[.none,.none,.none] }).push
 { cls:=.type "zip",data:=.fields #[.none,.bool false,.bool false,.ref (((h.push c).push g).push o).objs.size,.ref ((((h.push c).push g).push o).push { cls:=.type "tuple",data:=.seq #[.ref h.objs.size,.ref (h.push c).objs.size,.ref ((h.push c).push g).objs.size] }).objs.size] }
theorem zie{G H I:Addr}{h:Heap}{o1 o2 o3:Obj}(T:∀(g:Heap) (n:Addr),g.get? n=some o1->g.IsListIter n G 0)(U:∀(g:Heap) (n:Addr),g.get? n=some o2->g.IsListIter n H 0)(Y:∀(g:Heap) (n:Addr),g.get? n=some o3->g.IsListIter n I 0)(N:o1.isFreed=false)(O:o2.isFreed=false)(Q:o3.isFreed=false) :
  zbk (z3h h o1 o2 o3) (h.objs.size+5) (h.objs.size+3) (h.objs.size+4) h.objs.size (h.objs.size+1) (h.objs.size+2) G H I 0/\(∀c o,h.get? c=some o->(z3h h o1 o2 o3).get? c=some o):=by
 have e1:(h.push o1).objs.size=h.objs.size+1:=qJ ..;have e2:((h.push o1).push o2).objs.size=h.objs.size+2:=by rw[qJ,e1]
 have B:(((h.push o1).push o2).push o3).objs.size=h.objs.size+3:=by rw[qJ,e2]
 have D:((((h.push o1).push o2).push o3).push { cls:=.type "tuple",data:=.seq #[.ref h.objs.size,.ref (h.push o1).objs.size,.ref ((h.push o1).push o2).objs.size] }).objs.size=h.objs.size+4:=by rw[qJ,B]
 have M:(((((h.push o1).push o2).push o3).push { cls:=.type "tuple",data:=.seq #[.ref h.objs.size,.ref (h.push o1).objs.size,.ref ((h.push o1).push o2).objs.size] }).push { cls:=.type "tuple",data:=.seq #[.none,.none,.none] }).objs.size=h.objs.size+5:=by rw[qJ,D]
 have t:∀{g:Heap} {o:Obj} {c:Addr} {u:Obj},g.get? c=some u->(g.push o).get? c=some u:=fun e=>zN _ e
 have L:(z3h h o1 o2 o3).get? (h.objs.size+5)=some _:=M▸zL _ rfl;have q5:(z3h h o1 o2 o3).get? (h.objs.size+4)=some _:=D▸t (zL _ rfl);have J:(z3h h o1 o2 o3).get? (h.objs.size+3)=some _:=B▸t (t (zL _ rfl));have q3:(z3h h o1 o2 o3).get? (h.objs.size+2)=some o3:=e2▸t (t (t (zL _ Q)));have q2:(z3h h o1 o2 o3).get? (h.objs.size+1)=some o2:=e1▸t (t (t (t (zL _ O))));have q1:(z3h h o1 o2 o3).get? h.objs.size=some o1:=t (t (t (t (t (zL _ N)))));rw[B,D] at L;rw[e1,e2] at J;exact⟨⟨⟨_,_,.inl rfl,L⟩,J,⟨_,_,_,q5⟩,T _ _ q1,U _ _ q2,Y _ _ q3⟩,fun c o e=>t (t (t (t (t (t e)))))⟩
theorem zif{u B D:Addr}{xs ys zs:Array Value} :
  PySem.Meets (Builtin.«zip.__new__» ⟨[.type "zip",.ref u,.ref B,.ref D],[]⟩) (fun _ R s=>s.heap.IsList u xs/\s.heap.IsList B ys/\s.heap.IsList D zs /\
   ∀H,zbk H (s.heap.objs.size+5) (s.heap.objs.size+3) (s.heap.objs.size+4) s.heap.objs.size (s.heap.objs.size+1) (s.heap.objs.size+2) u B D 0->(∀c o,s.heap.get? c=some o->H.get? c=some o)->R (.ok (.ret (.ref (s.heap.objs.size+5)))) { s with heap:=H }):=
 .of_wp fun l w A R s hq=>by
  obtain⟨t,g,d,G,os⟩:=s;obtain⟨I,J,L,Q⟩:=hq;have M:=sub_zip;have N:Heap.IsList (Shared.heap ⟨t,g,d,G,os⟩) u xs:=I;have L2:Heap.IsList (Shared.heap ⟨t.push { cls:=.type "list_iterator",data:=.fields #[.ref u,.int 0 0] },g,d,G,os⟩) B ys:=Xt J _;have O:Heap.IsList (Shared.heap ⟨(t.push { cls:=.type "list_iterator",data:=.fields #[.ref u,.int 0 0] }).push { cls:=.type "list_iterator",data:=.fields #[.ref B,.int 0 0] },g,d,G,os⟩) D zs:=Xt (Xt L _) _;wp_walk using wpAny_pyIter_list N,wpAny_pyIter_list L2,wpAny_pyIter_list O
  obtain⟨Z,T⟩:=zie (h:=t) (o1:={ cls:=.type "list_iterator",data:=.fields #[.ref u,.int 0 0] }) (o2:={ cls:=.type "list_iterator",data:=.fields #[.ref B,.int 0 0] }) (o3:={ cls:=.type "list_iterator",data:=.fields #[.ref D,.int 0 0] }) (fun g n e=>⟨_,e,rfl,rfl⟩) (fun g n e=>⟨_,e,rfl,rfl⟩) (fun g n e=>⟨_,e,rfl,rfl⟩) rfl rfl rfl
  refine⟨_,rfl,?_⟩
  have e:(((((t.push { cls:=.type "list_iterator",data:=.fields #[.ref u,.int 0 0] }).push { cls:=.type "list_iterator",data:=.fields #[.ref B,.int 0 0] }).push { cls:=.type "list_iterator",data:=.fields #[.ref D,.int 0 0] }).push { cls:=.type "tuple",data:=.seq #[.ref t.objs.size,.ref (t.push { cls:=.type "list_iterator",data:=.fields #[.ref u,.int 0 0] }).objs.size,.ref ((t.push { cls:=.type "list_iterator",data:=.fields #[.ref u,.int 0 0] }).push { cls:=.type "list_iterator",data:=.fields #[.ref B,.int 0 0] }).objs.size] }).push { cls:=.type "tuple",data:=.seq #[.none,.none,.none] }).objs.size=t.objs.size+5:=by
   rw[qJ,qJ,qJ,qJ,qJ]
  have:=Q _ Z T;rw[show Shared.heap ⟨t,g,d,G,os⟩=t from rfl,<- e] at this
  exact this
theorem zgi(a b c:Value):checkTypeCall "zip" ⟨[a,b,c],[]⟩=pure ():=by kernel_rfl
theorem zjd(a b c:Value):checkBuiltinCall "zip.__new__" ⟨[.type "zip",a,b,c],[]⟩=pure ():=by kernel_rfl
theorem zjc(o a b c:Value):argsOk "object.__init__" ⟨[o,a,b,c],[]⟩:=by unfold argsOk;kernel_rfl
theorem zhk{t u B:Addr}{G H I:Array Value}{Q:Value->Shared->Prop}(J:s.heap.IsList t G)(L:s.heap.IsList u H)(M:s.heap.IsList B I)
  (h:∀g,zbk g (s.heap.objs.size+5) (s.heap.objs.size+3) (s.heap.objs.size+4) s.heap.objs.size (s.heap.objs.size+1) (s.heap.objs.size+2) t u B 0->(∀c o,s.heap.get? c=some o->g.get? c=some o) ->
   Q (.ref (s.heap.objs.size+5)) { s with heap:=g }):wpAny (model l w) A (call (.type "zip") [.ref t,.ref u,.ref B]) Q E s:=by
 refine callType_new F.called_zip (by decide) (zgi _ _ _) (zjd _ _ _) (fun D=>zjc D _ _ _) F.entry_zip_new (zif (xs:=G) (ys:=H) (zs:=I)) ⟨J,L,M,fun g Z k=>?_⟩
 obtain⟨O,T,_,N⟩:=Z.zz;exact⟨⟨_,N,rfl⟩,h g Z k⟩
end
theorem Vd{c:Program}{w:World}{A:Around}{E:Value->Shared->Prop}{s:Shared}{z TI TO:Addr}{l:Value}{o:Bool}{Q:Value->Shared->Prop}(t:Ja s.heap z TI TO l o)(h:Q (.ref z) s):wpAny 0#e A (pyIter (.ref z)) Q E s:=by
 have g:s.TypeIs (.ref z) "zip" :=⟨_,t,rfl⟩;refine wpAny_pyIter_slot g F.slot_zip_iter (xD F.slot_zip_iter g F.entry_zip_iter ?_ (F.args_zip_iter_1 _))
 show wpAny _ _ (ret (.ref z)) _ _ s;exact zx ⟨_,rfl, "zip",_,g,wH.lookup,h⟩
def zge(K:W.Frag)(o s w:Addr):It:=
 ⟨fun i H=>∃c g l x y u,SqL K H o c/\SqL K H s g/\SqL K H w l/\c[i]? =some x/\g[i]? =some y/\l[i]? =some u,
  fun i H x A=>∃T u v t,x=.ref T/\H T=none/\A=upd H T (.tup [u,v,t])/\(∀c,SqL K H o c->c[i]? =some u)/\(∀g,SqL K H s g->g[i]? =some v)/\∀l,SqL K H w l->l[i]? =some t,
  fun i H=>∃c,SqL K H o c/\c.length<=i⟩
theorem zc6{P:Program}{w:World}{K:W.Frag}{x:Str}{px:Pos}{a1 a2 a3 z TI TO l B D:Addr}(nd:[z,TI,TO,l,B,D].Nodup) :
  Jb P w K (.Name x px) (zge K a1 a2 a3) [z,TI,TO,l,B,D] z (fun i h=>zbk h z TI TO l B D a1 a2 a3 i) where
 mem:=by simp
 obj:=fun i h Z b hb=>by
  obtain⟨U,Y,_,G⟩:=Z.zz;obtain⟨a,b',c',q⟩:=Z.to;obtain⟨o1,e1,_,d1⟩:=Z.r1;obtain⟨o2,e2,_,d2⟩:=Z.r2;obtain⟨o3,e3,_,d3⟩:=Z.r3;simp only[zC,x5,or_false] at hb;rcases hb with r | r | r | r | r | r<;>subst r
  ·exact⟨_,G,fun v q=>nomatch q⟩
  ·exact⟨_,Z.ti,fun v q=>nomatch q⟩
  ·exact⟨_,q,fun v q=>nomatch q⟩
  ·exact⟨o1,e1,fun v q=>by rw[d1] at q;cases q⟩
  ·exact⟨o2,e2,fun v q=>by rw[d2] at q;cases q⟩
  ·exact⟨o3,e3,fun v q=>by rw[d3] at q;cases q⟩
 keep:=fun i h A Z k=>by
  obtain⟨U,Y,t,G⟩:=Z.zz;obtain⟨a,b',c',q⟩:=Z.to;exact⟨⟨U,Y,t,k _ (by simp) _ G⟩,k _ (by simp) _ Z.ti,⟨a,b',c',k _ (by simp) _ q⟩,Z.r1.at fun o e=>k _ (by simp) o e,Z.r2.at fun o e=>k _ (by simp) o e,Z.r3.at fun o e=>k _ (by simp) o e⟩
 item:=by
  intro X hP hw hK hc i Q s σ H E I t Z hg;subst hP hw hK;obtain⟨xs,ys,zs,x,y,u,g,J,L,hx,hy,hz⟩:=hg;obtain⟨O,N,p1,_⟩:=I.list g;obtain⟨ac,a9,p2,_⟩:=I.list J;obtain⟨ae,aa,p3,_⟩:=I.list L;obtain⟨u1,a0,a6⟩:=N.get hx;obtain⟨u2,a4,a7⟩:=a9.get hy;obtain⟨u3,a5,a8⟩:=aa.get hz;have sub:∀b∈[z,TO,l,B,D],b∈[z,TI,TO,l,B,D]:=fun b hb=>by
   simp only[zC,x5,or_false] at hb ⊢;rcases hb with r | r | r | r | r<;>simp[r]
  have M:∀{a:Addr} {xs:List V},SqL X.K H a xs->a∉[z,TO,l,B,D]:=fun h hb=>SqK.ne_fp (kd:=true) I h (t _ (sub _ hb)) rfl
  refine zgg nd Z p1.isList p2.isList p3.isList (M g) (M J) (M L) (by simpa using a0) (by simpa using a4) (by simpa using a5) fun h1 T Z' hT ab hk=>?_
  refine⟨_,rfl,zx ?_⟩
  refine⟨.ref T,upd H T (.tup [x,y,u]),?_,rfl,⟨_,x,y,u,rfl,I.hok.fresh hT,rfl,fun ah A=>by rw[I.list_inj A g];exact hx,fun ai A=>by rw[I.list_inj A J];exact hy,fun aj A=>by rw[I.list_inj A L];exact hz⟩,Z',fun b hb=>?_⟩
  ·exact Jl (s:=s) (h':=h1) (t':=s.toks) (ch:=[z,TO,l,B,D]) (its:=[u1,u2,u3]) I (fun b hb=>t b (sub b hb)) hT (fun b o hb e=>hk b o hb e) (by rw[sizeLine_eq];exact(by decide:3<=16777216)) (.cons a6 (.cons a7 (.cons a8 .nil))) (TupX.by ab)
  ·obtain⟨o,e⟩:∃o,s.heap.get? b=some o:=by
    obtain⟨U,Y,_,G⟩:=Z.zz;obtain⟨a,b',c',q⟩:=Z.to;obtain⟨o1,e1,_⟩:=Z.r1;obtain⟨o2,e2,_⟩:=Z.r2;obtain⟨o3,e3,_⟩:=Z.r3;simp only[zC,x5,or_false] at hb;rcases hb with r | r | r | r | r | r<;>subst r
    ·exact⟨_,G⟩
    ·exact⟨_,Z.ti⟩
    ·exact⟨_,q⟩
    ·exact⟨_,e1⟩
    ·exact⟨_,e2⟩
    ·exact⟨_,e3⟩
   rw[zq (zP (jz (zH e) hT))];exact(t b hb).1
 done:=by
  intro X hP hw hK hc i Q s σ H E I t Z hg;subst hP hw hK;obtain⟨xs,g,af⟩:=hg;obtain⟨O,N,p1,_⟩:=I.list g;have sub:∀b∈[z,l],b∈[z,TI,TO,l,B,D]:=fun b hb=>by
   simp only[zC,x5,or_false] at hb ⊢;rcases hb with r | r<;>simp[r]
  have tr:∀b u,H b=some u->b∉[z,l]:=fun b u e hb=>by rw[(t b (sub b hb)).1] at e;cases e
  refine zig (I.ok.hd hc) nd Z p1.isList (SqK.ne_fp (kd:=true) I g (t z (by simp))) ?_ fun A hk=>⟨rfl,?_⟩
  ·have l1:=N.length
   simp;omega
  ·refine I.step (g':=s.gens) (d':=s.drawn) (t':=s.toks) (ch:=[z,l]) (fun b hb=>?_) (fun b o _ _ hc e _=>hk b o hc e) (fun b o _ _ hc e _=>⟨o.slots,hk b o hc e⟩) (fun _ _ _ _ n=>n) (fun b o hc e=>⟨o,hk b o hc e⟩)
    (fun _ _ e=>e) (fun _ _ _ e=>e) (fun b ps e=>⟨#[],by rw[e];simp⟩) (fun m hm=>?_) (fun b u e=>?_) I.bare
   ·obtain⟨_,g1,_,g3,g4,g5⟩:=t b (sub b hb)
    exact⟨g3,g1,g4,g5⟩
   ·obtain⟨o,es,ep,ho,r⟩:=hm
    exact⟨o,es,ep,hk _ o (fun z=>(t _ (sub _ z)).2.1 rfl) ho,r⟩
   ·refine(I.hok b u e).stay (fun c v hc q=>hk c v ?_ q) (fun _ q=>q) fun _ _ q=>q
    rcases hc with z | z
    ·rw[z];exact tr b u e
    ·exact tr c _ z
 self:=fun _ _ _ _ _ Z h=>by
  obtain⟨U,Y,_,G⟩:=Z.zz;exact Vd G h
section
variable{X:Cx}
def zkI(K:W.Frag)(s:TA):TI:=fun σ H R=>s σ H fun t c=>∃g l o,t=[.ref g,.ref l,.ref o]/\(∃u,SqL K c g u)/\(∃w,SqL K c l w)/\(∃A,SqL K c o A)/\R (zge K g l o) c
theorem zgC{l m n:Expr}{x:Str}{px:Pos}{Y:TA}{p A:Pos}(hg:Gl X "zip")(hm:X.mg "zip" = none)(ha:PA X [l,m,n] Y)(hs:starEach [l,m,n] X.env=[(false,eval l X.env),(false,eval m X.env),(false,eval n X.env)]:=by rfl)(w:starEach [m,n] X.env=[(false,eval m X.env),(false,eval n X.env)]:=by rfl) :
  PI X (.Name x px) (.Call (.Name "zip" p) [l,m,n] [] A) (zkI X.K Y):=by
 intro c s σ H R I h;refine Call_ (vP I hg hm boot_zip (Xk (thn (ha A c s σ H _ I h) fun us s1 ⟨vs,O,o,g,q1⟩=>?_) (by rw[hs,w]) (by rw[w];rfl)))
 obtain⟨a1,a2,a3,e,⟨xs,B⟩,⟨ys,D⟩,⟨zs,E⟩,q⟩:=q1;subst e;obtain⟨u,L,M,rfl,ru,G,J⟩:∃u L M,us=[u,L,M]/\RelV (.ref a1) u/\RelV (.ref a2) L/\RelV (.ref a3) M:=by
  cases g with
  | cons h1 g=>cases g with
   | cons h2 g=>cases g with
    | cons h3 g=>cases g;exact⟨_,_,_,rfl,h1,h2,h3⟩
 cases ru;cases G;cases J;obtain⟨Q,a6,p1,a0⟩:=o.list B;obtain⟨T,a7,p2,a4⟩:=o.list D;obtain⟨U,a8,p3,a5⟩:=o.list E;refine zhk p1.isList p2.isList p3.isList fun h' Z hk=>?_
 obtain⟨f0,f1,_,e0⟩:=Z.zz;refine Vd e0 ?_
 have I2:Inv X c σ O { s1 with heap:=h' }:=o.kept (t':=s1.toks) hk;have N:[s1.heap.objs.size+5,s1.heap.objs.size+3,s1.heap.objs.size+4,s1.heap.objs.size,s1.heap.objs.size+1,s1.heap.objs.size+2].Nodup:=by
  simp only[xA,zC,x5,not_or,or_false,not_false_eq_true,vq,and_true];omega
 refine⟨s1.heap.objs.size+5,_,_,_,O,rfl,I2,zc6 N,Z,fun b hb=>?_,q⟩
 have t:s1.heap.objs.size<=b:=by
  simp only[zC,x5,or_false] at hb;rcases hb with r | r | r | r | r | r<;>(rw[r];first| exact Nat.le_add_right _ _ | exact zD _)
 exact o.fpOk t (o.hok.fresh t)
end
theorem zg1{K:W.Frag}{a1 a2 a3:Addr}{xs ys us:List V}{g:TG}{Q:TT}{O:TE}{A:St}{n:Nat}{R:List V->Hp->Prop}{H:Hp}(Pv:Nat->List V->Hp->Prop)(U:Pv 0 [] H)(ly:ys.length=xs.length)(lu:us.length=xs.length)
  (Y:∀i c H,Pv i c H->SqL K H a1 xs/\SqL K H a2 ys/\SqL K H a3 us)
  (hs:∀i x y u c H T,xs[i]? =some x->ys[i]? =some y->us[i]? =some u->Pv i c H->H T=none->g (.ref T) A (upd H T (.tup [x,y,u])) fun s E=>s.drop n=A.drop n/\Q s E fun b w=>
   if b=true then O s w fun v G=>c.length<sizeLine/\Pv (i+1) (c++[v]) G else Pv (i+1) c w)
  (hd:∀c H,Pv xs.length c H->c.length<=sizeLine/\R c H) :
  ∃W:Nat->Nat->List V->Hp->Prop,(∃m,W 0 m [] H)/\∀i m c l,W i m c l ->
   ((zge K a1 a2 a3).stop i l/\c.length<=sizeLine/\R c l) \/
   ((zge K a1 a2 a3).go i l/\∃N:List V->Hp->Prop,(∀c B,N c B->∃J,J<m/\W (i+1) J c B)/\∀x D,(zge K a1 a2 a3).yld i l x D->g x A D fun s E=>s.drop n=A.drop n/\Q s E fun b w=>
    if b=true then O s w fun y G=>c.length<sizeLine/\N (c++[y]) G else N c w):=by
 refine⟨fun i m c l=>m=xs.length-i/\i<=xs.length/\Pv i c l,⟨_,rfl,qB _,U⟩,?_⟩
 rintro i m c l ⟨rfl,hi,p⟩;obtain⟨I,L,M⟩:=Y i c l p;by_cases o:i<xs.length
 ·refine .inr ⟨⟨xs,ys,us,xs[i],ys[i],us[i],I,L,M,by simp[o],by simp[ly,o],by simp[lu,o]⟩,Pv (i+1),fun a0 B p'=>⟨_,by omega,rfl,o,p'⟩,fun x D y=>?_⟩
  obtain⟨T,u,v,t,e1,hT,e2,y1,y2,y3⟩:=y;subst e1 e2;exact hs i u v t c l T (y1 xs I) (y2 ys L) (y3 us M) p hT
 ·have e:i=xs.length:=by omega
  subst e;obtain⟨z1,z2⟩:=hd c l p;exact .inl ⟨⟨xs,I,zD _⟩,z1,z2⟩
section
variable{X:Cx}{g:List (Addr×Obj)}{σ:St}{H:Hp}{s:Shared}
open Classical in
theorem Vp(I:Inv X g σ H s){q:Int×Int}:∀{ps:List 0#o} {o:List V} {l:List Value},zd2 X.K H o ps->Vals o l->l.countP (fun y=>decide (∃c,y=Value.ref c/\SqT X.K H c (pr2 q)))=ps.count q
 | [],o,l,hx,t=>by
  have:o=[]:=List.length_eq_zero_iff.mp hx.1;subst this;cases t;rfl
 | p::ps,o,l,hx,t=>by
  cases t with
  | nil=>have:=hx.1;simp at this
  | @cons x u o l r t=>
   obtain⟨c,e1,e2⟩:=hx.2 0 p rfl;cases(show x=.ref c by simpa using e1)
   cases(show u=Value.ref c from r)
   rw[Xp,List.count_cons,Vp I (ps:=ps) ⟨by have:=hx.1;simpa using this,fun i r h=>hx.2 (i+1) r h⟩ t]
   congr 1
   by_cases e:p=q
   ·subst e
    rw[zu (zT ⟨c,rfl,e2⟩),zu (beq_self_eq_true _)]
   ·rw[zk (fun z=>by
     obtain⟨B,w,A⟩:=jy z;cases w;exact e (Jj (I.tuple_inj e2 A))),zk fun z=>e (eq_of_beq z)]
end
section
variable{X:Cx}
def zgx(K:W.Frag):V->List V->Hp->VK->Prop:=fun x o H Q=>∃(l a:Addr) (g:List V) (c:List 0#o) (q:Int×Int),x=.ref l/\o=[.ref a]/\SqL K H l g/\zd2 K H g c/\SqT K H a (pr2 q)/\Q (.int (c.count q)) H
theorem Vk{K:W.Frag}(B:X.K=K)(hu:X.A.units+1<cLine):MtM X "list.count" (zgx K):=by
 intro o s σ H x U v T Q I N M h;obtain⟨l,a,Y,J,q,rfl,rfl,w,hx,D,k⟩:=h;subst B;cases N;obtain⟨u,rfl,L⟩:=M.one;cases(show u=Value.ref a from L)
 obtain⟨c,r,G,_⟩:=I.list w;obtain⟨E,g,hc,n,hd⟩:=G.isList;obtain⟨cls,t,data,O⟩:=E;cases hc;cases hd;refine call_meets zbb ⟨_,g,rfl⟩ PySem.F.entry_list_count (PySem.F.args_list_count_2 _ _) (SeqAt.list_countAt l c.toArray n t O (.ref a) _) ⟨g,(zcC (A:=X.A.in1) I D hx r hu).1,?_⟩
 refine⟨.int (J.count q),H,I.tok _,⟨s.toks,?_⟩,k⟩
 rw[show c.toArray.toList=c by simp,Vp I hx r]
end
end L2
namespace L2
structure Pot(c:Nat->Nat->Int)(r m:Nat)(f:Nat->Nat)(u v:Nat->Int):Prop where
 inj:∀x,x<r->∀y,y<r->f x=f y->x=y
 rng:∀x,x<r->f x<m
 feas:∀x,x<r->∀j,j<m->u x+v j<=c x j
 tight:∀x,x<r->u x+v (f x)=c x (f x)
 neg:∀j,j<m->v j<=0
 free:∀j,j<m->(∀x,x<r->f x≠j)->v j=0
theorem Pot.zero(c:Nat->Nat->Int)(m:Nat)(f:Nat->Nat):Pot c 0 m f (fun _=>0) (fun _=>0):=
 ⟨fun x h=>absurd h (xZ x),fun x h=>absurd h (xZ x),fun x h=>absurd h (xZ x),fun x h=>absurd h (xZ x),fun _ _=>xT _,fun _ _ _=>rfl⟩
theorem Pot.step{c:Nat->Nat->Int}{r m:Nat}{f:Nat->Nat}{u v:Nat->Int}(P:Pot c r m f u v){x b:Nat}(hx:x<r)(hb:b<m):v b-v (f x)<=c x b-c x (f x):=by
 have g:=P.feas x hx b hb;have l:=P.tight x hx;omega
inductive Wg(c:Nat->Nat->Int)(r m:Nat)(f:Nat->Nat)(g T:Nat->Int):List Nat->Nat->Int->Prop
 | one {j:Nat}:j<m->T j<=g j->Wg c r m f g T [j] j (g j)
 | step {p:List Nat} {x b:Nat} {t:Int}:Wg c r m f g T p (f x) t->x<r->b<m->b∉p->T b<=t+c x b-c x (f x)->Wg c r m f g T (p++[b]) b (t+c x b-c x (f x))
section
variable{c:Nat->Nat->Int}{r m:Nat}{f:Nat->Nat}{o T:Nat->Int}
theorem Wg.mono{s:Nat->Int}(h:∀j,s j<=T j):∀{p:List Nat} {j:Nat} {t:Int},Wg c r m f o T p j t->Wg c r m f o s p j t
 | _,_,_,.one u l=>.one u (vo (h _) l)
 | _,_,_,.step g hx hb w l=>.step (g.mono h) hx hb w (vo (h _) l)
theorem Wg.nodup:∀{p:List Nat} {j:Nat} {t:Int},Wg c r m f o T p j t->p.Nodup
 | _,_,_,.one _ _=>xA.mpr ⟨(fun h=>nomatch h),vq⟩
 | _,_,_,.step g _ _ s _=>by
  rw[y6];refine⟨g.nodup,xA.mpr ⟨(fun h=>nomatch h),vq⟩,fun a l b hb=>fun e=>?_⟩
  rw[zW.mp hb] at e;exact s (e▸l)
theorem Wg.rng:∀{p:List Nat} {j:Nat} {t:Int},Wg c r m f o T p j t->(∀x∈p,x<m)/\j∈p
 | _,_,_,.one l _=>⟨fun x hx=>by rw[zW.mp hx];exact l,by simp⟩
 | _,_,_,.step g _ hb _ _=>⟨fun x hx=>(ja.mp hx).elim (g.rng.1 x) fun z=>by rw[zW.mp z];exact hb,by simp⟩
theorem Wg.le:∀{p:List Nat} {j:Nat} {t:Int},Wg c r m f o T p j t->T j<=t
 | _,_,_,.one _ h=>h
 | _,_,_,.step _ _ _ _ h=>h
theorem Wg.mem{u v:Nat->Int}(P:Pot c r m f u v):∀{p:List Nat} {j:Nat} {t:Int},Wg c r m f o T p j t->∀y∈p,∃ty,T y<=ty/\ty-v y<=t-v j
 | _,_,_,.one A h,y,hy=>by
  rw[zW.mp hy];exact⟨_,h,xT _⟩
 | _,_,_,.step (x:=x) (b:=b) (t:=t) g hx hb B h,y,hy=>by
  have s:=P.step hx hb;rcases ja.mp hy with z | z
  ·obtain⟨ty,l,w⟩:=Wg.mem P g y z
   exact⟨ty,l,by omega⟩
  ·rw[zW.mp z]
   exact⟨_,h,xT _⟩
theorem Wg.low{u v:Nat->Int}(P:Pot c r m f u v)(l:∀j,j<m->v j<=o j):∀{p:List Nat} {j:Nat} {t:Int},Wg c r m f o T p j t->v j<=t
 | _,_,_,.one w _=>l _ w
 | _,_,_,.step (x:=x) (b:=b) (t:=t) g hx hb _ _=>by
  have s:=P.step hx hb;have:=Wg.low P l g;omega
theorem Wg.relax{u v:Nat->Int}(P:Pot c r m f u v){p:List Nat}{x b:Nat}{t:Int}(g:Wg c r m f o T p (f x) t)(hx:x<r)(hb:b<m)(B:t+c x b-c x (f x)<T b):b∉p:=fun l=>by
 obtain⟨ty,w,A⟩:=Wg.mem P g b l;have s:=P.step hx hb;omega
def zgd(c:Nat->Nat->Int)(r m:Nat)(f:Nat->Nat)(T:Nat->Int):Prop:=∀x,x<r->∀b,b<m->T b<=T (f x)+c x b-c x (f x)
inductive Ch(c:Nat->Nat->Int)(r m:Nat)(f:Nat->Nat)(o T:Nat->Int):List Nat->Nat->Prop
 | one {j:Nat}:j<m->T j=o j->Ch c r m f o T [j] j
 | step {p:List Nat} {x b:Nat}:Ch c r m f o T p (f x)->x<r->b<m->b∉p->T b=T (f x)+c x b-c x (f x)->Ch c r m f o T (p++[b]) b
theorem Wg.ch(S:zgd c r m f T):∀{p:List Nat} {j:Nat} {t:Int},Wg c r m f o T p j t->t=T j->Ch c r m f o T p j
 | _,_,_,.one u h,e=>.one u e.symm
 | _,_,_,.step (x:=x) (b:=b) (t:=t) g hx hb w h,e=>by
  have s:=S x hx b hb;have l:=g.le;have e1:t=T (f x):=by omega
  exact .step (g.ch S e1) hx hb w (by omega)
theorem Ch.rng:∀{p:List Nat} {j:Nat},Ch c r m f o T p j->(∀x∈p,x<m)/\j∈p/\p≠[]
 | _,_,.one l _=>⟨fun x hx=>by rw[zW.mp hx];exact l,by simp,by simp⟩
 | _,_,.step g _ hb _ _=>⟨fun x hx=>(ja.mp hx).elim (g.rng.1 x) fun z=>by rw[zW.mp z];exact hb,by simp,by simp⟩
theorem Ch.nodup:∀{p:List Nat} {j:Nat},Ch c r m f o T p j->p.Nodup
 | _,_,.one _ _=>xA.mpr ⟨(fun h=>nomatch h),vq⟩
 | _,_,.step g _ _ s _=>by
  rw[y6];refine⟨g.nodup,xA.mpr ⟨(fun h=>nomatch h),vq⟩,fun a l b hb=>fun e=>?_⟩
  rw[zW.mp hb] at e;exact s (e▸l)
theorem Ch.last:∀{p:List Nat} {j:Nat},Ch c r m f o T p j->p.getLast? =some j
 | _,_,.one _ _=>rfl
 | _,_,.step _ _ _ _ _=>by rw[List.getLast?_concat]
theorem Ch.head:∀{p:List Nat} {j:Nat},Ch c r m f o T p j->∃s,p.head? =some s/\s<m/\T s=o s
 | _,_,.one u h=>⟨_,rfl,u,h⟩
 | _,_,.step g _ _ _ _=>by
  obtain⟨s,l,t⟩:=g.head;refine⟨s,?_,t⟩
  rw[List.head?_append,l]
  rfl
theorem Ch.next:∀{p:List Nat} {j:Nat},Ch c r m f o T p j->∀(i a b:Nat),p[i]? =some a->p[i+1]? =some b->∃x,x<r/\f x=a/\b<m/\T b=T a+c x b-c x a
 | _,_,.one _ _,i,a,b,s,l=>by simp at l
 | _,_,.step (p:=p) (x:=x) (b:=w) g hx hb D h,i,a,b,s,l=>by
  by_cases B:i+1<p.length
  ·rw[wv (by omega)] at s
   rw[wv B] at l;exact g.next i a b s l
  ·have t:=(zU.mp l).1
   rw[qz] at t;have e1:i+1=p.length:=by simp at t;omega
   rw[e1,vh (zD _),Zl] at l;have A:w=b:=by simpa using l
   subst A;rw[wv (by omega)] at s
   have u:=g.last;rw[zbd,show p.length-1=i by omega] at u
   rw[u] at s;cases s;exact⟨x,hx,rfl,hb,h⟩
theorem Ch.grow{u v:Nat->Int}(P:Pot c r m f u v):∀{p:List Nat} {j:Nat},Ch c r m f o T p j->∀a∈p,T a-v a<=T j-v j
 | _,_,.one _ _,a,l=>by rw[zW.mp l];exact xT _
 | _,_,.step (x:=x) (b:=b) g hx hb t h,a,l=>by
  have s:=P.step hx hb;rcases ja.mp l with z | z
  ·have:=g.grow P a z
   omega
  ·rw[zW.mp z];exact xT _
end
def nxt(p:List Nat)(a:Nat):Option Nat:=p[p.idxOf a+1]?
def j7(f:Nat->Nat)(r:Nat)(p:List Nat):Nat->Nat:=fun y=>if y=r then p.headD 0 else if f y∈p then(nxt p (f y)).getD 0 else f y
section
variable{c:Nat->Nat->Int}{r m:Nat}{f:Nat->Nat}{T:Nat->Int}{u v:Nat->Int}
theorem Qf{p:List Nat}{a:Nat}(h:a∈p):p[p.idxOf a]? =some a:=by
 rw[qg (List.idxOf_lt_length_iff.mpr h)];exact congrArg some (List.getElem_idxOf _)
theorem xN{p:List Nat}{j:Nat}(C:Ch c r m f (c r) T p j)(A:∀x,x<r->f x≠j){y:Nat}(hy:y<r)(g:f y∈p):∃b,p[p.idxOf (f y)+1]? =some b/\j7 f r p y=b:=by
 have w:=List.idxOf_lt_length_iff.mpr g;have l:=Qf g;have o:=C.last;rw[zbd] at o;have s:p.idxOf (f y)+1<p.length:=by
  refine Nat.lt_of_le_of_ne w fun e=>?_
  have t:p.idxOf (f y)=p.length-1:=by omega
  rw[t,o] at l;exact A y hy (qT l).symm
 refine⟨_,qg s,?_⟩
 unfold j7 nxt;rw[zk (by omega),zu g,qg s]
 rfl
theorem Pot.augment{p:List Nat}{j:Nat}(P:Pot c r m f u v)(S:zgd c r m f T)(h0:∀b,b<m->T b<=c r b)(C:Ch c r m f (c r) T p j)(D:∀x,x<r->f x≠j)(jm:j<m)(H:∀b,b<m->(∀x,x<r->f x≠b)->T j<=T b) :
  Pot c (r+1) m (j7 f r p) (fun x=>if x=r then T j else u x+(T j-min (T (f x)-v (f x)) (T j))) (fun b=>v b+min (T b-v b) (T j)-T j):=by
 have vj:v j=0:=P.free j jm D;have w:=fun a ha=>C.grow P a ha
 have nd:=C.nodup;obtain⟨s,L,sm,Ts⟩:=C.head;have J:j7 f r p r=s:=by
  unfold j7;rw[zu rfl];cases p with
  | nil=>cases L
  | cons x p=>cases L;rfl
 have sp:s∈p:=List.mem_of_head? L;have l:∀y,y<r->f y∉p->j7 f r p y=f y:=fun y hy hp=>by
  unfold j7;rw[zk (by omega),zk hp]
 have M:∀i,p[i]? =some s->i=0:=fun i I=>by
  have h0:p[0]? =some s:=by rw[<- List.head?_eq_getElem?];exact L
  have l1:=(zU.mp I);have l2:=(zU.mp h0);exact(Qw nd).mp (l1.2.trans l2.2.symm)
 have E:∀i k b,p[i]? =some b->p[k]? =some b->i=k:=fun i k b I hk=>by
  have l1:=(zU.mp I);have l2:=(zU.mp hk);exact(Qw nd).mp (l1.2.trans l2.2.symm)
 refine⟨?_,?_,?_,?_,?_,?_⟩
 ·-- no a3 O
  have a2:∀x,x<r->∀y,y<r->j7 f r p x=j7 f r p y->x=y:=fun x hx y hy e=>by
   by_cases o:f x∈p
   ·obtain⟨b,hb,G⟩:=xN C D hx o
    by_cases A:f y∈p
    ·obtain⟨Q,g,t⟩:=xN C D hy A
     rw[G,t] at e;subst e;have:=E _ _ _ hb g;have e2:p.idxOf (f x)=p.idxOf (f y):=by omega
     have U:=Qf o;rw[e2,Qf A] at U;exact P.inj x hx y hy (qT U).symm
    ·rw[G,l y hy A] at e
     exact absurd (e▸qw hb) A
   ·by_cases A:f y∈p
    ·obtain⟨Q,g,t⟩:=xN C D hy A
     rw[t,l x hx o] at e;exact absurd (e▸qw g) o
    ·rw[l x hx o,l y hy A] at e
     exact P.inj x hx y hy e
  have kr:∀y,y<r->j7 f r p y≠s:=fun y hy e=>by
   by_cases A:f y∈p
   ·obtain⟨Q,g,t⟩:=xN C D hy A
    rw[t] at e;subst e;have:=M _ g;omega
   ·rw[l y hy A] at e
    exact A (e▸sp)
  intro x hx y hy e;by_cases B:x=r
  ·by_cases yr:y=r
   ·omega
   ·rw[B,J] at e
    exact absurd e.symm (kr y (by omega))
  ·by_cases yr:y=r
   ·rw[yr,J] at e
    exact absurd e (kr x (by omega))
   ·exact a2 x (by omega) y (by omega) e
 ·intro x hx
  by_cases B:x=r
  ·rw[B,J];exact sm
  ·by_cases o:f x∈p
   ·obtain⟨b,hb,G⟩:=xN C D (show x<r by omega) o
    rw[G];exact C.rng.1 b (qw hb)
   ·rw[l x (by omega) o]
    exact P.rng x (by omega)
 ·intro x hx b hb
  by_cases B:x=r
  ·subst B
   simp only[if_true];have:=h0 b hb;omega
  ·simp only[zk B]
   have h1:=P.feas x (by omega) b hb
   have h2:=P.tight x (by omega)
   have h3:=S x (by omega) b hb
   omega
 ·intro x hx
  by_cases B:x=r
  ·subst B
   rw[J];simp only[if_true];have:=w s sp;omega
  ·simp only[zk B]
   have h2:=P.tight x (by omega)
   by_cases o:f x∈p
   ·obtain⟨b,hb,G⟩:=xN C D (show x<r by omega) o
    rw[G];obtain⟨x',a1,e1,_,U⟩:=C.next _ _ _ (Qf o) hb
    have ex:=P.inj x' a1 x (by omega) e1
    subst ex;have g1:=w _ o;have g2:=w _ (qw hb);omega
   ·rw[l x (by omega) o]
    omega
 ·intro b hb
  have:=P.neg b hb;show v b+min (T b-v b) (T j)-T j<=0;omega
 ·intro b hb hf
  show v b+min (T b-v b) (T j)-T j=0;have bp:b∉p:=fun hp=>by
   obtain⟨i,I,e⟩:=Qz hp;have N:p[i]? =some b:=by rw[<- e];exact qg I
   cases i with
   | zero=>
    refine hf r (xg _) ?_
    rw[J];rw[<- List.head?_eq_getElem?,L] at N
    exact qT N
   | succ i=>
    have a0:i<p.length:=by omega
    have Y:p[i]? =some p[i]:=qg a0;obtain⟨x,hx,e1,_⟩:=C.next i _ _ Y N
    have o:f x∈p:=by rw[e1];exact qw Y
    obtain⟨Q,g,t⟩:=xN C D hx o;have:p.idxOf (f x)=i:=E _ _ _ (Qf o) (by rw[e1];exact Y)
    rw[this,N] at g;cases g;exact hf x (by omega) t
  have nf:∀x,x<r->f x≠b:=fun x hx e=>by
   refine hf x (by omega) ?_
   rw[l x hx (by rw[e];exact bp)]
   exact e
  have h1:=P.free b hb nf;have h2:=H b hb nf;omega
end
def qW(n:Nat)(g:Nat->Int):Int:=((List.range n).map g).sum
theorem qV(n:Nat)(g:Nat->Int):qW (n+1) g=qW n g+g n:=by
 unfold qW;rw[vD,zQ,Wy];simp
theorem ZD{g h:Nat->Int}:∀(n:Nat),(∀x,x<n->g x<=h x)->qW n g<=qW n h
 | 0,_=>xT _
 | n+1,H=>by
  have:=ZD n fun x hx=>H x (by omega)
  have:=H n (by omega)
  rw[qV,qV];omega
theorem yO{g h:Nat->Int}(n:Nat)(H:∀x,x<n->g x=h x):qW n g=qW n h:=Int.le_antisymm (ZD n fun x hx=>Xl (H x hx)) (ZD n fun x hx=>Xl (H x hx).symm)
theorem Jw(g h:Nat->Int):∀n,qW n (fun x=>g x+h x)=qW n g+qW n h
 | 0=>rfl
 | n+1=>by
  have:=Jw g h n;rw[qV,qV,qV];omega
theorem W9{m:Nat}(v:Nat->Int){a:Nat}(g:a<m):qW m v=v a+qW m (fun j=>if j=a then 0 else v j):=by
 induction m with
 | zero=>omega
 | succ m c=>
  rw[qV,qV];by_cases e:a=m
  ·subst e
   have:qW a v=qW a (fun j=>if j=a then 0 else v j):=yO a fun x hx=>by rw[zk (by omega)]
   rw[zu rfl];omega
  ·have:=c (by omega)
   rw[zk (fun z:m=a=>e z.symm)]
   omega
theorem W8{m:Nat}:∀{r:Nat} {g:Nat->Nat} {v:Nat->Int},(∀x,x<r->g x<m)->(∀x,x<r->∀y,y<r->g x=g y->x=y)->(∀j,j<m->v j<=0)->qW m v<=qW r fun x=>v (g x)
 | 0,g,v,_,_,hv=>by
  have:qW m v<=qW m fun _=>0:=ZD m hv
  have z:∀n,qW n (fun _=>0)=0:=fun n=>by
   induction n with
   | zero=>rfl
   | succ n c=>rw[qV,c];rfl
  rw[z m] at this;exact this
 | r+1,g,v,o,l,hv=>by
  have c:=W8 (r:=r) (g:=g) (v:=fun j=>if j=g r then 0 else v j) (fun x hx=>o x (by omega)) (fun x hx y hy=>l x (by omega) y (by omega)) fun j s=>by
   show(if j=g r then 0 else v j)<=0
   split
   ·exact xT _
   ·exact hv j s
  have e:qW r (fun x=>(fun j=>if j=g r then(0:Int) else v j) (g x))=qW r fun x=>v (g x):=yO r fun x hx=>by
   show(if g x=g r then(0:Int) else v (g x))=v (g x)
   rw[zk fun z=>by have:=l x (by omega) r (by omega) z;omega]
  rw[e] at c;rw[qV,W9 v (o r (by omega))]
  omega
section
variable{c:Nat->Nat->Int}{r m:Nat}{f:Nat->Nat}{u v:Nat->Int}
theorem Pot.weak(P:Pot c r m f u v){g:Nat->Nat}(l:∀x,x<r->g x<m)(s:∀x,x<r->∀y,y<r->g x=g y->x=y):qW r u+qW m v<=qW r fun x=>c x (g x):=by
 have o:qW r (fun x=>u x+v (g x))<=qW r fun x=>c x (g x):=ZD r fun x hx=>P.feas x hx (g x) (l x hx)
 rw[Jw] at o;have t:=W8 l s P.neg;omega
theorem W7{m:Nat}:∀{r:Nat} {g:Nat->Nat} {v:Nat->Int},(∀x,x<r->g x<m)->(∀x,x<r->∀y,y<r->g x=g y->x=y)->(∀j,j<m->(∀x,x<r->g x≠j)->v j=0)->(qW r fun x=>v (g x))=qW m v
 | 0,g,v,_,_,hv=>by
  have e:qW m v=qW m fun _=>0:=yO m fun j l=>hv j l fun x hx=>absurd hx (xZ x)
  have z:∀n,qW n (fun _=>0)=0:=fun n=>by
   induction n with
   | zero=>rfl
   | succ n o=>rw[qV,o];rfl
  rw[e,z m];rfl
 | r+1,g,v,t,s,hv=>by
  have o:=W7 (r:=r) (g:=g) (v:=fun j=>if j=g r then 0 else v j) (fun x hx=>t x (by omega)) (fun x hx y hy=>s x (by omega) y (by omega)) fun j l w=>by
   show(if j=g r then(0:Int) else v j)=0
   split
   ·rfl
   ·rename_i ne
    refine hv j l fun x hx e=>?_
    by_cases z:x=r
    ·subst z;exact ne e.symm
    ·exact w x (by omega) e
  have e:qW r (fun x=>(fun j=>if j=g r then(0:Int) else v j) (g x))=qW r fun x=>v (g x):=yO r fun x hx=>by
   show(if g x=g r then(0:Int) else v (g x))=v (g x)
   rw[zk fun z=>by have:=s x (by omega) r (by omega) z;omega]
  rw[e] at o;rw[qV,W9 v (t r (by omega))]
  omega
theorem Pot.sum(P:Pot c r m f u v):(qW r fun x=>c x (f x))=qW r u+qW m v:=by
 have e:(qW r fun x=>c x (f x))=qW r fun x=>u x+v (f x):=yO r fun x hx=>(P.tight x hx).symm
 rw[e,Jw,W7 P.rng P.inj P.free]
theorem Pot.least(P:Pot c r m f u v){g:Nat->Nat}(o:∀x,x<r->g x<m)(l:∀x,x<r->∀y,y<r->g x=g y->x=y):(qW r fun x=>c x (f x))<=qW r fun x=>c x (g x):=by
 rw[P.sum];exact P.weak o l
end
end L2
namespace L2
def tot(c:List (Int×List Nat))(j:Nat):Int:=(c.getD j (0,[])).1
def way(c:List (Int×List Nat))(j:Nat):List Nat:=(c.getD j (0,[])).2
def jU(c:Nat->Nat->Int)(k x:Nat)(st:List 0#n×Bool)(b:Nat):List 0#n×Bool:=
 if tot st.1 k+c x b-c x k<tot st.1 b then(st.1.set b (tot st.1 k+c x b-c x k,way st.1 k++[b]),true) else st
def xG(c:Nat->Nat->Int)(k x n:Nat)(st:List 0#n×Bool):List 0#n×Bool:=(List.range n).foldl (jU c k x) st
theorem vY(c:Nat->Nat->Int)(k x n:Nat)(st:List 0#n×Bool):xG c k x (n+1) st=jU c k x (xG c k x n st) n:=by
 unfold xG;rw[vD,List.foldl_append];rfl
def jx(c:Nat->Nat->Int)(m:Nat)(g:List (Nat×Nat))(st:List 0#n×Bool):List 0#n×Bool:=g.foldl (fun st h=>xG c h.1 h.2 m st) st
theorem zau(c:Nat->Nat->Int)(m:Nat)(g:List (Nat×Nat))(h:Nat×Nat)(st:List 0#n×Bool):jx c m (g++[h]) st=xG c h.1 h.2 m (jx c m g st):=by
 unfold jx;rw[List.foldl_append];rfl
theorem JM(c:Nat->Nat->Int)(m:Nat)(g:List (Nat×Nat))(st:List 0#n×Bool){i:Nat}{h:Nat×Nat}(e:g[i]? =some h):jx c m (g.take (i+1)) st=xG c h.1 h.2 m (jx c m (g.take i) st):=by
 rw[zaS,e,zaZ];exact zau c m _ h st
inductive Settle(c:Nat->Nat->Int)(m:Nat)(l:List (Nat×Nat)):List 0#n->List 0#n->Prop
 | stop {g}:(jx c m l (g,false)).2=false->Settle c m l g (jx c m l (g,false)).1
 | go {g o}:(jx c m l (g,false)).2=true->Settle c m l (jx c m l (g,false)).1 o->Settle c m l g o
theorem Settle.uniq{c:Nat->Nat->Int}{m:Nat}{u:List (Nat×Nat)}{s t:List 0#n}(h:Settle c m u s t):∀{l},Settle c m u s l->t=l:=by
 induction h with
 | stop e=>
  intro l g;cases g with
  | stop _=>rfl
  | go o _=>rw[e] at o;cases o
 | go e _ w=>
  intro l g;cases g with
  | stop o=>rw[e] at o;cases o
  | go _ g=>exact w g
theorem VW{c:Nat->Nat->Int}{k x b:Nat}{st:List 0#n×Bool}(h:(jU c k x st b).2=false):jU c k x st b=st/\tot st.1 b<=tot st.1 k+c x b-c x k:=by
 unfold jU at h ⊢;by_cases z:tot st.1 k+c x b-c x k<tot st.1 b
 ·rw[zu z] at h;cases h
 ·rw[zk z];exact⟨rfl,by omega⟩
theorem JE{c:Nat->Nat->Int}{k x:Nat}{st:List 0#n×Bool}:∀{n:Nat},(xG c k x n st).2=false->xG c k x n st=st/\∀b,b<n->tot st.1 b<=tot st.1 k+c x b-c x k
 | 0,_=>⟨rfl,fun b h=>absurd h (xZ b)⟩
 | n+1,h=>by
  rw[vY] at h ⊢;obtain⟨e1,e2⟩:=VW h;rw[e1] at h ⊢;obtain⟨g,l⟩:=JE h;rw[g] at e2;refine⟨g,fun b hb=>?_⟩
  rcases Qo b n with z | z
  ·exact l b z
  ·rw[show b=n by omega];exact e2
theorem QI{c:Nat->Nat->Int}{m:Nat}{st:List (Int×List Nat)×Bool}:∀{l:List (Nat×Nat)},(jx c m l st).2=false->jx c m l st=st/\∀h∈l,∀b,b<m->tot st.1 b<=tot st.1 h.1+c h.2 b-c h.2 h.1:=by
 intro l;induction l generalizing st with
 | nil=>intro _;exact⟨rfl,fun h t=>nomatch t⟩
 | cons h l u=>
  intro e;have e:(jx c m l (xG c h.1 h.2 m st)).2=false:=e;obtain⟨e1,e2⟩:=u e;rw[e1] at e;obtain⟨o,s⟩:=JE e;rw[o] at e1 e2;refine⟨show jx c m l (xG c h.1 h.2 m st)=st from by rw[o];exact e1,fun g hg b hb=>?_⟩
  rcases zC.mp hg with z | z
  ·rw[z];exact s b hb
  ·exact e2 g z b hb
def WgA(c:Nat->Nat->Int)(r m:Nat)(f:Nat->Nat)(l:Nat->Int)(g:List 0#n):Prop:=g.length=m/\∀j,j<m->Wg c r m f l (tot g) (way g j) j (tot g j)
theorem Jf{c:List (Int×List Nat)}{b:Nat}{q:Int×List Nat}(hb:b<c.length)(j:Nat):tot (c.set b q) j=if j=b then q.1 else tot c j:=by
 unfold tot;rw[qI,qI];by_cases e:j=b
 ·subst e;rw[QD hb,zu rfl];rfl
 ·rw[QA (zG e),zk e]
theorem zbn{c:List (Int×List Nat)}{b:Nat}{q:Int×List Nat}(hb:b<c.length)(j:Nat):way (c.set b q) j=if j=b then q.2 else way c j:=by
 unfold way;rw[qI,qI];by_cases e:j=b
 ·subst e;rw[QD hb,zu rfl];rfl
 ·rw[QA (zG e),zk e]
def mea(m:Nat)(v:Nat->Int)(c:List (Int×List Nat)):Nat:=((List.range m).map fun j=>(tot c j-v j).toNat).sum
theorem Jv{g h:Nat->Nat}:∀{l:List Nat},(∀x∈l,g x<=h x)->(l.map g).sum<=(l.map h).sum
 | [],_=>zD _
 | a::l,H=>by
  have:=Jv (l:=l) fun x hx=>H x (z9 _ hx)
  have:=H a (by simp)
  simp only[jV,Wv];omega
theorem Ju{g h:Nat->Nat}:∀{l:List Nat},(∀x∈l,g x<=h x)->(∃x∈l,g x<h x)->(l.map g).sum<(l.map h).sum
 | [],_,⟨x,hx,_⟩=>nomatch hx
 | a::l,H,⟨x,hx,c⟩=>by
  have:=H a (by simp)
  simp only[jV,Wv];rcases zC.mp hx with z | z
  ·subst z
   have:=Jv (l:=l) fun x hx=>H x (z9 _ hx)
   omega
  ·have:=Ju (l:=l) (fun x hx=>H x (z9 _ hx)) ⟨x,z,c⟩
   omega
section
variable{c:Nat->Nat->Int}{r m:Nat}{f:Nat->Nat}{l:Nat->Int}{u v:Nat->Int}
theorem zdm(P:Pot c r m f u v)(G:∀j,j<m->v j<=l j){x b:Nat}{st:List 0#n×Bool}(g:WgA c r m f l st.1)(hx:x<r)(hb:b<m) :
  WgA c r m f l (jU c (f x) x st b).1/\mea m v (jU c (f x) x st b).1<=mea m v st.1/\((jU c (f x) x st b).2=true->st.2=true\/mea m v (jU c (f x) x st b).1<mea m v st.1):=by
 unfold jU;by_cases z:tot st.1 (f x)+c x b-c x (f x)<tot st.1 b
 ·rw[zu z]
  have o:b<st.1.length:=by rw[g.1];exact hb
  have A:∀j,tot 0#u j<=tot st.1 j:=fun j=>by
   rw[Jf o];by_cases e:j=b
   ·rw[zu e,e];exact Int.le_of_lt z
   ·rw[zk e];exact xT _
  have w:=g.2 (f x) (P.rng x hx);have I:=Wg.low P G w;have J:=P.step hx hb;have s:tot 0#u b=tot st.1 (f x)+c x b-c x (f x):=by rw[Jf o,zu rfl]
  have B:mea m v 0#u<mea m v st.1:=by
   refine Ju (fun j _=>?_) ⟨b,qt.mpr hb,?_⟩
   ·have:=A j
    show(tot _ j-v j).toNat<=(tot st.1 j-v j).toNat;omega
   ·show(tot _ b-v b).toNat<(tot st.1 b-v b).toNat
    rw[s];omega
  refine⟨⟨by rw[yI];exact g.1,fun j H=>?_⟩,vp B,fun _=>.inr B⟩
  by_cases e:j=b
  ·subst e
   have E:way (st.1.set j (tot st.1 (f x)+c x j-c x (f x),way st.1 (f x)++[j])) j=way st.1 (f x)++[j]:=by rw[zbn o,zu rfl]
   rw[E];have D:∀{t:Int},t=tot st.1 (f x)+c x j-c x (f x)->Wg c r m f l (tot (st.1.set j (tot st.1 (f x)+c x j-c x (f x),way st.1 (f x)++[j]))) (way st.1 (f x)++[j]) j t:=fun e=>by
    rw[e];exact Wg.step (w.mono A) hx hb (w.relax P hx hb z) (Xl s)
   exact D s
  ·have e1:tot 0#u j=tot st.1 j:=by rw[Jf o,zk e]
   have e2:way 0#u j=way st.1 j:=by rw[zbn o,zk e]
   show Wg c r m f l _ (way _ j) j (tot _ j);rw[e2];have:=(g.2 j H).mono A;rw[<- e1] at this;exact this
 ·rw[zk z]
  exact⟨g,zD _,fun h=>.inl h⟩
theorem VT(P:Pot c r m f u v)(o:∀j,j<m->v j<=l j){x:Nat}{st:List 0#n×Bool}(g:WgA c r m f l st.1)(hx:x<r):∀{n:Nat},n<=m ->
  WgA c r m f l (xG c (f x) x n st).1/\mea m v (xG c (f x) x n st).1<=mea m v st.1/\((xG c (f x) x n st).2=true->st.2=true\/mea m v (xG c (f x) x n st).1<mea m v st.1)
 | 0,_=>⟨g,zD _,fun h=>.inl h⟩
 | n+1,E=>by
  obtain⟨B,s,w⟩:=VT P o g hx (n:=n) (by omega)
  obtain⟨D,t,A⟩:=zdm P o B hx (b:=n) (by omega)
  rw[vY];refine⟨D,xa t s,fun h=>?_⟩
  rcases A h with z | z
  ·rcases w z with y | y
   ·exact .inl y
   ·exact .inr (yK t y)
  ·exact .inr (jz z s)
theorem ZK(P:Pot c r m f u v)(w:∀j,j<m->v j<=l j):∀{hs:List (Nat×Nat)} {st:List 0#n×Bool},(∀h∈hs,h.2<r/\h.1=f h.2)->WgA c r m f l st.1 ->
  WgA c r m f l (jx c m hs st).1/\mea m v (jx c m hs st).1<=mea m v st.1/\((jx c m hs st).2=true->st.2=true\/mea m v (jx c m hs st).1<mea m v st.1)
 | [],st,_,g=>⟨g,zD _,fun h=>.inl h⟩
 | h::hs,st,H,g=>by
  obtain⟨hx,e⟩:=H h (by simp)
  obtain⟨t,o,s⟩:=VT P w g hx (n:=m) (zD _);rw[<- e] at t o s;obtain⟨D,A,B⟩:=ZK P w (hs:=hs) (fun h E=>H h (z9 _ E)) t
  show WgA c r m f l (jx c m hs (xG c h.1 h.2 m st)).1/\mea m v (jx c m hs (xG c h.1 h.2 m st)).1<=mea m v st.1/\((jx c m hs (xG c h.1 h.2 m st)).2=true->st.2=true\/mea m v (jx c m hs (xG c h.1 h.2 m st)).1<mea m v st.1);refine⟨D,xa A o,fun q=>?_⟩
  rcases B q with z | z
  ·rcases s z with y | y
   ·exact .inl y
   ·exact .inr (yK A y)
  ·exact .inr (jz z o)
theorem Settle.ok(P:Pot c r m f u v)(B:∀j,j<m->v j<=l j){w:List (Nat×Nat)}{o t:List 0#n}(s:Settle c m w o t)(H:∀h∈w,h.2<r/\h.1=f h.2)(A:∀x,x<r->(f x,x)∈w) :
  WgA c r m f l o->WgA c r m f l t/\zgd c r m f (tot t):=by
 induction s with
 | @stop o e=>
  intro g;obtain⟨e1,e2⟩:=QI e;rw[e1];exact⟨g,fun x hx b hb=>e2 (f x,x) (A x hx) b hb⟩
 | @go o t e s D=>
  intro g;exact D (ZK P B H (st:=(o,false)) g).1
theorem WgA.first(c:Nat->Nat->Int)(r m:Nat)(f:Nat->Nat)(l:Nat->Int):WgA c r m f l ((List.range m).map fun j=>(l j,[j])):=by
 have e:∀j,j<m->((List.range m).map fun j=>(l j,[j])).getD j (0,[])=(l j,[j]):=fun j g=>by
  rw[qI,zY,vH g];rfl
 refine⟨by rw[zv,zV],fun j g=>?_⟩
 have e1:tot ((List.range m).map fun j=>(l j,[j])) j=l j:=by unfold tot;rw[e j g]
 have e2:way ((List.range m).map fun j=>(l j,[j])) j=[j]:=by unfold way;rw[e j g]
 rw[e2];have:Wg c r m f l (tot ((List.range m).map fun j=>(l j,[j]))) [j] j (l j):=.one g (Xl e1)
 rw[<- e1] at this;exact this
theorem zdn{k x b:Nat}{st:List 0#n×Bool}(hb:b<st.1.length)(j:Nat):tot (jU c k x st b).1 j<=tot st.1 j:=by
 unfold jU;by_cases z:tot st.1 k+c x b-c x k<tot st.1 b
 ·rw[zu z]
  show tot (st.1.set b _) j<=_;rw[Jf hb];by_cases e:j=b
  ·rw[zu e,e];exact Int.le_of_lt z
  ·rw[zk e];exact xT _
 ·rw[zk z];exact xT _
theorem zan{k x b:Nat}{st:List 0#n×Bool}:(jU c k x st b).1.length=st.1.length:=by
 unfold jU;by_cases z:tot st.1 k+c x b-c x k<tot st.1 b
 ·rw[zu z];exact yI
 ·rw[zk z]
theorem ZI{k x:Nat}{st:List 0#n×Bool}:∀{n:Nat},(xG c k x n st).1.length=st.1.length
 | 0=>rfl
 | n+1=>by rw[vY,zan];exact ZI
theorem zb4{k x:Nat}{st:List 0#n×Bool}(j:Nat):∀{n:Nat},n<=st.1.length->tot (xG c k x n st).1 j<=tot st.1 j
 | 0,_=>xT _
 | n+1,g=>by
  rw[vY];exact vo (zdn (by rw[ZI];exact g) j) (zb4 j (by omega))
theorem JN(j:Nat):∀{hs:List (Nat×Nat)} {st:List 0#n×Bool},m<=st.1.length->tot (jx c m hs st).1 j<=tot st.1 j/\(jx c m hs st).1.length=st.1.length
 | [],_,_=>⟨xT _,rfl⟩
 | h::hs,st,g=>by
  obtain⟨a,b⟩:=JN j (hs:=hs) (st:=xG c h.1 h.2 m st) (by rw[ZI];exact g)
  exact⟨vo a (zb4 j g),b.trans ZI⟩
theorem Settle.le{w:List (Nat×Nat)}{g t:List 0#n}(s:Settle c m w g t)(j:Nat):m<=g.length->tot t j<=tot g j:=by
 induction s with
 | @stop g e=>intro o;exact(JN j (st:=(g,false)) o).1
 | @go g t e s A=>
  intro o;obtain⟨a,b⟩:=JN (c:=c) (m:=m) j (hs:=w) (st:=(g,false)) o;exact vo (A (by rw[b];exact o)) a
end
end L2
namespace L2
def look(c:List (Nat×Nat))(k:Nat):Option Nat:=(c.find? fun h=>decide (h.1=k)).map (·.2)
def Q4(c:List (Nat×Nat))(k x:Nat):List (Nat×Nat):=if(c.any fun h=>decide (h.1=k))=true then c.map fun h=>if h.1=k then(h.1,x) else h else c++[(k,x)]
theorem YL(k:Nat):∀c:List (Nat×Nat),(c.any fun h=>decide (h.1=k))=(look c k).isSome
 | []=>rfl
 | h::c=>by
  have:=YL k c;by_cases e:h.1=k
  ·simp[look,e]
  ·simp only[look,xX,Zp,e,decide_false,Ww] at this ⊢
   exact this
theorem YK(k x j:Nat):∀c:List (Nat×Nat),look (c.map fun h=>if h.1=k then(h.1,x) else h) j=if j=k then(look c j).map (fun _=>x) else look c j
 | []=>by by_cases e:j=k<;>simp[look,e]
 | h::c=>by
  have t:=YK k x j c;have s:∀(g:Nat×Nat) (o:List (Nat×Nat)),look (g::o) j=if g.1=j then some g.2 else look o j:=fun g o=>by
   by_cases e:g.1=j<;>simp[look,e]
  rw[jV,s,s,t];by_cases e1:h.1=k
  ·rw[zu e1]
   by_cases e2:j=k
   ·have l:h.1=j:=e1.trans e2.symm
    simp[e2,e1]
   ·have l:¬h.1=j:=fun z=>e2 (z.symm.trans e1)
    simp[e2,l]
  ·rw[zk e1]
   by_cases e2:j=k
   ·have l:¬h.1=j:=fun z=>e1 (z.trans e2)
    simp[e2,e1]
   ·simp[e2]
theorem zfr(c:List (Nat×Nat))(k x j:Nat):look (Q4 c k x) j=if j=k then some x else look c j:=by
 have g:=YL k c;unfold Q4;by_cases h:(c.any fun h=>decide (h.1=k))=true
 ·rw[zu h,YK]
  rw[h] at g;by_cases e:j=k
  ·rw[zu e,zu e,e]
   obtain⟨y,hy⟩:=zbc.mp g.symm;rw[hy];rfl
  ·rw[zk e,zk e]
 ·rw[zk h]
  have g:(look c k).isSome=false:=by rw[<- g];exact Bool.eq_false_iff.mpr h
  unfold look;rw[List.find?_append]
  by_cases e:j=k
  ·rw[zu e]
   subst e;have n:c.find? (fun h=>decide (h.1=j))=none:=by
    unfold look at g;cases q:c.find? (fun h=>decide (h.1=j)) with
    | none=>rfl
    | some y=>rw[q] at g;cases g
   rw[n];simp
  ·rw[zk e]
   cases q:c.find? (fun h=>decide (h.1=j)) with
   | none=>simp[zG e]
   | some y=>simp
theorem zfw(c:List (Nat×Nat))(k x:Nat):(c.map (·.1)).Nodup->((Q4 c k x).map (·.1)).Nodup:=by
 intro l;unfold Q4;by_cases h:(c.any fun h=>decide (h.1=k))=true
 ·rw[zu h,j9]
  have:((fun h:Nat×Nat=>h.1)∘fun h:Nat×Nat=>if h.1=k then(h.1,x) else h)=fun h=>h.1:=by
   funext g
   show(if g.1=k then(g.1,x) else g).1=g.1
   by_cases e:g.1=k
   ·rw[zu e]
   ·rw[zk e]
  rw[this];exact l
 ·rw[zk h,zQ,y6]
  refine⟨l,by simp,fun a o b hb e=>h ?_⟩
  obtain⟨g,hg,rfl⟩:=qr.mp o;have:b=k:=by simpa using hb
  exact Qv.mpr ⟨g,hg,zT (e.trans this)⟩
theorem YJ{c:List (Nat×Nat)}(g:(c.map (·.1)).Nodup){k x:Nat}:look c k=some x↔(k,x)∈c:=by
 induction c with
 | nil=>simp[look]
 | cons h c l=>
  have s:look (h::c) k=if h.1=k then some h.2 else look c k:=by
   by_cases e:h.1=k<;>simp[look,e]
  rw[jV,xA] at g;rw[s,zC];by_cases e:h.1=k
  ·rw[zu e]
   constructor
   ·intro q
    cases q;exact .inl (by rw[<- e])
   ·intro q
    rcases q with q | q
    ·rw[<- q]
    ·exact absurd (qr.mpr ⟨(k,x),q,e.symm⟩) g.1
  ·rw[zk e,l g.2]
   exact⟨fun q=>.inr q,fun q=>q.elim (fun z=>absurd (by rw[<- z]) e) id⟩
def Hold(c:List (Nat×Nat))(r:Nat)(f:Nat->Nat):Prop:=(c.map (·.1)).Nodup/\∀k x,look c k=some x↔x<r/\f x=k
theorem Hold.nil(f:Nat->Nat):Hold [] 0 f:=⟨vq,fun k x=>⟨(fun h=>nomatch h),fun h=>absurd h.1 (xZ x)⟩⟩
theorem Hold.mem{c:List (Nat×Nat)}{r:Nat}{f:Nat->Nat}(h:Hold c r f):(∀g∈c,g.2<r/\g.1=f g.2)/\∀x,x<r->(f x,x)∈c:=by
 obtain⟨o,l⟩:=h;refine⟨fun g hg=>?_,fun x hx=>(YJ o).mp ((l (f x) x).mpr ⟨hx,rfl⟩)⟩
 obtain⟨a,b⟩:=(l g.1 g.2).mp ((YJ o).mpr hg);exact⟨a,b.symm⟩
theorem Hold.free{c:List (Nat×Nat)}{r:Nat}{f:Nat->Nat}(h:Hold c r f){j:Nat}:look c j=none↔∀x,x<r->f x≠j:=by
 constructor
 ·intro e x hx z
  rw[(h.2 j x).mpr ⟨hx,z⟩] at e;cases e
 ·intro e
  cases q:look c j with
  | none=>rfl
  | some x=>exact absurd ((h.2 j x).mp q).2 (e x ((h.2 j x).mp q).1)
def cmN(c:List (Nat×Nat))(r:Nat)(p:List Nat)(i:Nat):Nat:=if i=0 then r else(look c (p.getD (i-1) 0)).getD 0
def mdN(c:List (Nat×Nat))(r:Nat)(p:List Nat):Nat->List (Nat×Nat)
 | 0=>c
 | i+1=>Q4 (mdN c r p i) (p.getD i 0) (cmN c r p i)
theorem YI{c:List (Nat×Nat)}(g:(c.map (·.1)).Nodup)(r:Nat)(p:List Nat):∀i,((mdN c r p i).map (·.1)).Nodup
 | 0=>g
 | i+1=>zfw _ _ _ (YI g r p i)
theorem YH(c:List (Nat×Nat))(r:Nat){p:List Nat}(l:p.Nodup)(k:Nat):∀i,i<=p.length->look (mdN c r p i) k=if k∈p.take i then some (cmN c r p (p.idxOf k)) else look c k
 | 0,_=>by simp[mdN]
 | i+1,t=>by
  have s:=YH c r l k i (by omega)
  have g:p[i]? =some (p[i]'(by omega)):=qg _
  have o:p.getD i 0=p[i]'(by omega):=by rw[qI,g];rfl
  show look (Q4 (mdN c r p i) (p.getD i 0) (cmN c r p i)) k=_;rw[zfr,s,o,zaS,g,zaZ];by_cases e:k=p[i]'(by omega)
  ·rw[zu e,zu (ja.mpr (.inr (zW.mpr e)))]
   have:p.idxOf k=i:=by rw[e];exact l.idxOf_getElem i (by omega)
   rw[this]
  ·rw[zk e]
   by_cases z:k∈p.take i
   ·rw[zu z,zu (ja.mpr (.inl z))]
   ·rw[zk z,zk fun y=>(ja.mp y).elim z fun y=>e (zW.mp y)]
section
variable{c:Nat->Nat->Int}{r m:Nat}{f:Nat->Nat}{T:Nat->Int}
theorem Hold.move{s:List (Nat×Nat)}(h:Hold s r f){p:List Nat}{j:Nat}(C:Ch c r m f (c r) T p j)(I:∀x,x<r->f x≠j):Hold (mdN s r p p.length) (r+1) (j7 f r p):=by
 have w:=C.nodup;have B:=C.rng.2.2;refine⟨YI h.1 r p _,fun k x=>?_⟩
 rw[YH s r w k _ (zD _),jX];have A:0<p.length:=Zy.mpr B;have hd:p.headD 0=p[0]'A:=by cases p with | nil=>exact absurd rfl B | cons a l=>rfl
 have L:j7 f r p r=p[0]'A:=by unfold j7;rw[zu rfl,hd]
 have i0:p.idxOf (p[0]'A)=0:=w.idxOf_getElem 0 A;have at_:∀i (u:i+1<p.length),∃o,o<r/\f o=p[i]'(by omega)/\look s (p[i]'(by omega))=some o/\j7 f r p o=p[i+1]'u:=fun i u=>by
  obtain⟨o,E,D,G,_⟩:=C.next i _ _ (qg (by omega)) (qg u)
  refine⟨o,E,D,(h.2 _ o).mpr ⟨E,D⟩,?_⟩
  unfold j7 nxt;rw[zk (by omega),D,zu (xB _),w.idxOf_getElem i (by omega),qg u]
  rfl
 by_cases t:k∈p
 ·rw[zu t]
  obtain⟨i,u,H⟩:=Qz t;have N:p.idxOf k=i:=by rw[<- H];exact w.idxOf_getElem i u
  rw[N];cases i with
  | zero=>
   have Q:cmN s r p 0=r:=zu rfl;rw[Q];constructor
   ·intro q
    cases q;exact⟨xg _,by rw[L,<- H]⟩
   ·rintro⟨hx,q⟩
    by_cases e:x=r
    ·rw[e]
    ·have hx:x<r:=by omega
     by_cases g:f x∈p
     ·obtain⟨b,e1,e2⟩:=xN C I hx g
      rw[q] at e2;subst e2;have J:=(zU.mp e1).1;have:p.idxOf k=p.idxOf (f x)+1:=by
       rw[<- (zU.mp e1).2];exact w.idxOf_getElem _ J
      omega
     ·have:j7 f r p x=f x:=by unfold j7;rw[zk e,zk g]
      rw[this] at q;exact absurd (q▸t) g
  | succ i=>
   obtain⟨o,E,D,G,O⟩:=at_ i u;have U:cmN s r p (i+1)=o:=by
    unfold cmN;rw[zk (Nat.succ_ne_zero i),Nat.add_sub_cancel,qI,qg (by omega)]
    show(look s (p[i]'(by omega))).getD 0=o
    rw[G];rfl
   rw[U];constructor
   ·intro q
    cases q;exact⟨by omega,by rw[O,H]⟩
   ·rintro⟨hx,q⟩
    by_cases e:x=r
    ·subst e
     rw[L] at q;have:=congrArg p.idxOf q;rw[i0,N] at this;omega
    ·have hx:x<r:=by omega
     by_cases g:f x∈p
     ·obtain⟨b,e1,e2⟩:=xN C I hx g
      rw[q] at e2;subst e2;have J:=(zU.mp e1).1;have e3:p.idxOf k=p.idxOf (f x)+1:=by
       rw[<- (zU.mp e1).2];exact w.idxOf_getElem _ J
      have Y:p.idxOf (f x)=i:=by omega
      have e5:f x=p[i]'(by omega):=by
       have:=Qf g;rw[Y,qg (by omega)] at this
       exact(qT this).symm
      have M:look s (f x)=some x:=(h.2 _ x).mpr ⟨hx,rfl⟩;rw[e5,G] at M;exact M
     ·have:j7 f r p x=f x:=by unfold j7;rw[zk e,zk g]
      rw[this] at q;exact absurd (q▸t) g
 ·rw[zk t,h.2 k x]
  constructor
  ·rintro⟨hx,rfl⟩
   exact⟨by omega,by unfold j7;rw[zk (by omega),zk t]⟩
  ·rintro⟨hx,q⟩
   by_cases e:x=r
   ·subst e
    rw[L] at q;exact absurd (q▸xB A) t
   ·have hx:x<r:=by omega
    by_cases g:f x∈p
    ·obtain⟨b,e1,e2⟩:=xN C I hx g
     rw[q] at e2;subst e2;exact absurd (qw e1) t
    ·have:j7 f r p x=f x:=by unfold j7;rw[zk e,zk g]
     rw[this] at q;exact⟨hx,q⟩
end
end L2
namespace L2
theorem wA{α:Type}[DecidableEq α]:∀{l k:List α},l.Nodup->(∀x∈l,x∈k)->l.length<=k.length
 | [],_,_,_=>qB _
 | a::l,k,c,h=>by
  rw[xA] at c;have g:=h a (by simp)
  have:=wA (l:=l) (k:=k.erase a) c.2 fun x hx=>by
   have ne:x≠a:=fun e=>c.1 (e▸hx)
   exact(Xy ne).mpr (h x (z9 _ hx))
  rw[XE g] at this;have:=XA g;simp only[jJ];omega
section
variable{c:Nat->Nat->Int}{r m:Nat}{f:Nat->Nat}{u v:Nat->Int}
theorem YT(f:Nat->Nat)(h:r<m):∃j,j<m/\∀x,x<r->f x≠j:=by
 by_cases z:∃j,j<m/\∀x,x<r->f x≠j
 ·exact z
 ·have:(List.range m).length<=((List.range r).map f).length:=wA Zt fun j g=>by
   have g:=qt.mp g;by_cases y:∃x,x<r/\f x=j
   ·obtain⟨x,hx,e⟩:=y
    exact qr.mpr ⟨x,qt.mpr hx,e⟩
   ·exact absurd ⟨j,g,fun x hx e=>y ⟨x,hx,e⟩⟩ z
  rw[zV,zv,zV] at this;omega
theorem Pot.more(P:Pot c r m f u v)(hc:∀j,j<m->0<=c r j){t:List (Nat×Nat)}(h:Hold t r f){l:List 0#n}(s:Settle c m t ((List.range m).map fun j=>(c r j,[j])) l){j:Nat}(D:j<m)(w:look t j=none)
  (o:∀b,b<m->look t b=none->tot l j<=tot l b):∃A J L,Pot c (r+1) m A J L/\Hold (mdN t r (way l j) (way l j).length) (r+1) A/\Ch c r m f (c r) (tot l) (way l j) j:=by
 obtain⟨H,I⟩:=h.mem;have G:∀j,j<m->v j<=c r j:=fun j w=>vo (P.neg j w) (hc j w)
 obtain⟨g,st⟩:=s.ok P G H I (WgA.first c r m f (c r));have C:=(g.2 j D).ch st rfl;have B:=h.free.mp w;refine⟨_,_,_,P.augment st (fun b hb=>?_) C B D fun b hb E=>o b hb (h.free.mpr E),h.move C B,C⟩
 have:=s.le b (by rw[zv,zV];exact zD _)
 refine vo this (Xl ?_)
 unfold tot;rw[qI,zY,vH hb];rfl
end
def yj(g:Nat->Nat)(n:Nat):Nat:=((List.range n).map fun x=>2^g x).sum
theorem Zf(g:Nat->Nat)(n:Nat):yj g (n+1)=yj g n+2^g n:=by
 unfold yj;rw[vD,zQ,Wy];simp
theorem zhm{M a:Nat}(h:M/2^a % 2=0)(k:Nat):(M+2^a)/2^k % 2=if k=a then 1 else M/2^k % 2:=by
 have c:0<2^a:=zaP a;by_cases e:k=a
 ·subst e
  rw[zu rfl,Nat.add_div_right _ c];omega
 ·rw[zk e]
  rcases Qo k a with z | z
  ·have e1:2^a=2^k*(2*2^(a-k-1)):=by
    rw[<- Nat.pow_succ',<- Nat.pow_add];congr 1
    omega
   rw[e1,Nat.add_mul_div_left _ _ (zaP k)];omega
  ·have e1:2^k=2^a*(2*2^(k-a-1)):=by
    rw[<- Nat.pow_succ',<- Nat.pow_add];congr 1
    omega
   rw[e1,<- XB,<- XB,Nat.add_div_right _ c,<- XB,<- XB];have:(M/2^a).succ/2=M/2^a/2:=by omega
   rw[this]
theorem ZL{g:Nat->Nat}:∀{n:Nat},(∀x,x<n->∀y,y<n->g x=g y->x=y)->∀k,((∃x,x<n/\g x=k)->yj g n/2^k % 2=1)/\((∀x,x<n->g x≠k)->yj g n/2^k % 2=0)
 | 0,_,k=>⟨fun ⟨x,hx,_⟩=>absurd hx (xZ x),fun _=>by simp[yj]⟩
 | n+1,c,k=>by
  have l:=ZL (g:=g) (n:=n) fun x hx y hy=>c x (by omega) y (by omega)
  have o:=(l (g n)).2 fun x hx e=>by
   have:=c x (by omega) n (by omega) e
   omega
  rw[Zf,zhm o k];refine⟨fun ⟨x,hx,e⟩=>?_,fun h=>?_⟩
  ·by_cases z:k=g n
   ·rw[zu z]
   ·rw[zk z]
    refine(l k).1 ⟨x,?_,e⟩
    have:x≠n:=fun y=>z (by rw[<- e,y])
    omega
  ·rw[zk fun z=>h n (by omega) z.symm]
   exact(l k).2 fun x hx=>h x (by omega)
def SndM(c:Nat->Nat->Int)(m n M:Nat)(t:Int):Prop:=∃g:Nat->Nat,(∀x,x<n->g x<m)/\(∀x,x<n->∀y,y<n->g x=g y->x=y)/\M=yj g n/\t=qW n fun x=>c x (g x)
theorem SndM.zero(c:Nat->Nat->Int)(m:Nat):SndM c m 0 0 0:=⟨fun _=>0,fun x h=>absurd h (xZ x),fun x h=>absurd h (xZ x),rfl,rfl⟩
theorem SndM.next{c:Nat->Nat->Int}{m n M k:Nat}{t:Int}(s:SndM c m n M t)(hk:k<m)(hb:M/2^k % 2=0):SndM c m (n+1) (M+2^k) (t+c n k):=by
 obtain⟨g,u,l,rfl,rfl⟩:=s;have o:∀x,x<n->g x≠k:=fun x hx e=>by
  have:=(ZL l k).1 ⟨x,hx,e⟩;omega
 have A:∀x,x<n->(if x=n then k else g x)=g x:=fun x hx=>zk (by omega)
 refine⟨fun x=>if x=n then k else g x,fun x hx=>?_,fun x hx y hy e=>?_,?_,?_⟩
 ·by_cases z:x=n
  ·simp only[z,if_true];exact hk
  ·simp only[z,if_false];exact u x (by omega)
 ·by_cases z:x=n
  ·by_cases w:y=n
   ·omega
   ·simp only[z,w,if_true,if_false] at e
    exact absurd e.symm (o y (by omega))
  ·by_cases w:y=n
   ·simp only[z,w,if_true,if_false] at e
    exact absurd e (o x (by omega))
   ·simp only[z,w,if_false] at e
    exact l x (by omega) y (by omega) e
 ·rw[Zf]
  simp only[if_true];congr 1
  unfold yj;congr 1
  refine Zx fun x hx=>?_
  have hx:=qt.mp hx;show 2^g x=2^(if x=n then k else g x)
  rw[A x hx]
 ·rw[qV]
  simp only[if_true];congr 1
  exact yO n fun x hx=>by rw[zk (by omega)]
theorem ze1{n:Nat}{f:Nat->Nat}(c:∀x,x<n+1->∀y,y<n+1->f x=f y->x=y):yj f n/2^f n % 2=0:=
 (ZL (fun x hx y hy=>c x (by omega) y (by omega)) (f n)).2 fun x hx e=>by
  have:=c x (by omega) n (by omega) e
  omega
end L2
namespace L2
open PySem PySem.Spec PyProof.Rows
def BoxAt(H:Hp)(b:Addr)(n:Int):Prop:=∃l c g:Int,H b=some (.lst [.int l,.int c,.int g])/\0<=l/\0<=c/\c<2147483648/\0<=g/\g<=n
def SameB(b:Addr)(H g:Hp):Prop:=∀c o,H c=some o->c≠b->g c=some o
theorem ZQ{i j:Int}(g:0<=i)(c:i<18446744073709551616):CMul i j:=by
 have e1:(-(2^64):Int)= -18446744073709551616:=by decide
 have e2:((2^64):Int)=18446744073709551616:=by decide
 refine .inl ⟨?_,?_⟩
 ·rw[e1];omega
 ·rw[e2];exact c
theorem zib{a m j:Int}(h:0<m)(c:m<18446744073709551616):CMul (a % m) j:=ZQ (yw _ (by omega)) (Int.lt_trans (yB _ h) c)
section
variable{P:Program}{w:World}{K:W.Frag}{I:Str->Option Value}{G:Heap}
inductive Ye(l:List V)(H:Hp)(Q:VK):Prop
 | mk (b:Addr) (c n:Int) (_:l=[.ref b,.int c]) (_:BoxAt H b n) (_:n<1099511627776) (_:0<c) (_:c<1073741824) (_:∀(r:Int) g,0<=r->r<c->BoxAt g b (n+1)->SameB b H g->Q (.int r) g):Ye  l H Q
def yc:Sp:=fun c H Q _=>Ye  c H Q
theorem u0{N P:List Str}{S:Scope}(a:S.kind=.function:=by rfl)(b:S.isCoroutine=false:=by rfl)(c:S.isGenerator=false:=by rfl)(d:N.Nodup:=by decide +kernel)(e:N.take P.length=P:=by rfl)(f:∀x∈P,S.names.lookup x=some .local∨S.names.lookup x=some .cell:=by decide +kernel)(g:∀y∈S.names,y.2≠.free:=by decide +kernel):zE N P S:=⟨a,b,c,d,e,f,g⟩
theorem zeB:zE ["_law_box_here","_law_size","_law_found","_law_step","_law_once","_law_twice"] ["_law_box_here","_law_size"] (zy (topL 45)):=u0
theorem zgJ{f:Addr}{U:FuncData}(F:Fun K "_law_take" "_law_take" (topL 45) f U)(B:Blt I):qA P w K I G CX0 1 f U ["_law_box_here","_law_size"] yc:=by
 have L:=zeB.nd;refine F.ok zeB 0#d (fun a0 A T s H vs Q E hr h=>?_)
 ·obtain⟨b,u,n,rfl,_⟩:=h
  rfl
 ·obtain⟨b,u,n,rfl,⟨M,D,J,hb,p0,p1,t,p2,a1⟩,hn,l,O,k⟩:=h
  refine⟨_,(zg (je (qC zh3 (zS qo (pv 0) zj 0#c) zj (z7 _))
   (zg (vc (zw Y5 rfl B.divmod Y6 (za (zS qo (pv 0) zj 0#c) 0#s)) (jP rfl (zI (JK (pv 0) zj ye) (zI (zB (i:=2) L rfl 0#a) jd))))
    (zp (zA (pv 2))))
   qe)
   (zg (vc (zK qx (zS qo (pv 0) zj 0#c) zj) (JK (pv 0) zj ye))
   (zg (zF (i:=3) L rfl 0#a (zK qx zj (zK xW (zS qo (pv 0) zj 0#c) (zS qo (pv 0) zj 0#c))))
   (zg (zF (i:=4) L rfl 0#a (zK xI (zK xW (zK qx (zS qo (pv 0) zj 0#c) (zK xW zj (zS qo (pv 0) zj 0#c))) (pv 3)) zj))
   (zg (zF (i:=5) L rfl 0#a (zK xI (zK qx (zK xW (pv 4) (zK qx (zK xI (pv 4) zj) zj)) (zS qo (pv 0) zj 0#c)) zj))
   (zp (zA (zK xI (zK V6 (zK xI (zK xW (pv 5) (zK qx (zK xI (pv 5) zj) zj)) zj) zj) (pv 1))))))))),?_⟩
  refine⟨_,rfl,b,_,_,_,rfl,rfl,u4 hb,rfl,_,_,rfl,rfl,_,rfl,?_⟩
  refine ym (fun c=>?_) (fun c=>?_)
  ·refine⟨_,rfl,b,_,_,_,rfl,rfl,u4 hb,rfl,_,rfl,_,_,rfl,⟨l,O⟩,fun p Y=>?_⟩
   have N:b≠p:=zo hb Y;refine⟨p,_,rfl,u5 ze,rfl,_,_,rfl,_,rfl,b,_,_,_,rfl,rfl,(by rw[zq N];exact hb),rfl,_,_,rfl,rfl,_,rfl,?_⟩
   refine k _ _ (yw _ (by omega)) (yB _ l) ⟨_,D,J,ze,Int.ediv_nonneg p0 (by omega),p1,t,p2,by omega⟩ fun d o e hd=>?_
   rw[zq hd,zq (zo e Y)];exact e
  ·refine⟨_,rfl,b,_,_,_,rfl,rfl,u4 hb,rfl,_,_,rfl,rfl,_,rfl,b,_,_,_,rfl,rfl,hb,rfl,?_⟩
   have g:upd H b (.lst [.int M,.int D,.int (J+1)]) b=some (.lst [.int M,.int D,.int (J+1)]):=ze;refine⟨_,rfl,b,_,_,_,rfl,rfl,u4 g,rfl,_,rfl,b,_,_,_,rfl,rfl,u4 g,rfl,_,_,rfl,rfl,ZQ (by omega) (by omega),_,_,rfl,rfl,?_⟩
   refine⟨_,rfl,b,_,_,_,rfl,rfl,u4 g,rfl,_,rfl,b,_,_,_,rfl,rfl,u4 g,rfl,_,_,rfl,rfl,ZQ (by omega) (by omega),_,_,rfl,rfl,_,rfl,_,_,rfl,rfl,ZQ (by omega) (by omega),_,_,rfl,rfl,(by show(0:Int)<_;decide),?_⟩
   refine⟨_,rfl,_,rfl,_,_,rfl,rfl,(by show(0:Int)<_;decide),_,_,rfl,rfl,_,_,rfl,rfl,zib (by decide) (by decide),_,rfl,b,_,_,_,rfl,rfl,u4 g,rfl,_,_,rfl,rfl,_,_,rfl,rfl,(by show(0:Int)<_;decide),?_⟩
   refine⟨_,rfl,_,rfl,_,_,rfl,rfl,(by show(0:Int)<_;decide),_,_,rfl,rfl,_,_,rfl,rfl,zib (by decide) (by decide),_,_,rfl,rfl,(by show(0:Int)<_;decide),_,_,rfl,rfl,⟨by decide,by decide⟩,_,rfl,_,_,rfl,rfl,l,?_⟩
   refine k _ _ (yw _ (by omega)) (yB _ l) ⟨M,D,J+1,g,p0,p1,t,by omega,by omega⟩ fun d o e hd=>?_
   rw[zq hd];exact e
inductive zbQ(K:W.Frag)(c:List V)(H:Hp)(Q:VK):Prop
 | mk (a:Addr) (g:List Int) (j:Nat) (_:c=[.ref a,.int j]) (_:SqL K H a (g.map V.int)) (_:j<=100) (_:∀p o,H p=none->BoxAt (upd H p o) p 0->Q (.ref p) (upd H p o)):zbQ K c H Q
def zhH(K:W.Frag):Sp:=fun c H Q _=>zbQ K c H Q
theorem zhX:zE ["_law_script","_law_k","_law_cell"] ["_law_script","_law_k"] (zy (topL 44)):=u0
theorem zcA{c:Int}{j:Nat}(g:j<=100):CMul (ZA c) (if decide (10^18<=ZA c)=true then 1 else 0):=by
 refine .inr ?_
 split
 ·exact⟨by decide,by decide⟩
 ·exact⟨by decide,by decide⟩
theorem zfP{c:Int}:0<=ZA c*(if decide (10^18<=ZA c)=true then 1 else 0):=by
 have h:0<=ZA c:=by unfold ZA;split<;>omega
 split
 ·rw[Int.mul_one];exact h
 ·rw[Int.mul_zero];exact xT 0
theorem zja{f:Addr}{t:FuncData}(F:Fun K "_law_box" "_law_box" (topL 44) f t)(B:Blt I):qA P w K I G CX0 1 f t ["_law_script","_law_k"] (zhH K):=by
 have M:=zhX.nd;refine F.ok zhX (fun N H Q E h=>?_) (fun J A o s H N Q E O h=>?_)
 ·obtain⟨a,g,j,rfl,_⟩:=h
  rfl
 ·obtain⟨a,g,j,rfl,u,D,k⟩:=h
  refine⟨_,(zg (zF (i:=2) M rfl 0#a (yg (qC zcf (pv 1) (zw zR rfl B.len boot_len 0#t) (z7 _)) (zS qo (pv 0) (pv 1) 0#c) zj))
   (zp (zA (qQ (za (zK xW (zw wn rfl B.abs wo (za (pv 2) zb)) (qO Vw rfl B.int ZT (za (qN zh4 (zw wn rfl B.abs wo (za (pv 2) zb)) (zK ziU zj zj) (z7 _)) zb))) (za (zK xI (zK xW (zK qx (zK qx (zK xI (pv 2) zj) (zK xW zj (pv 1))) zj) zj) zj) (za zj zb))))))),?_⟩
  refine⟨_,rfl,_,rfl,a,_,rfl,.inl u,_,_,rfl,rfl,_,rfl,?_⟩
  refine ym (fun c=>?_) (fun c=>?_)
  ·have L:j<g.length:=by
    have:=jy c;rw[zv] at this;omega
   refine⟨_,rfl,_,rfl,a,_,_,.int g[j],rfl,rfl,u,jA (by simp[L]),?_⟩
   generalize g[j]=z;refine⟨_,rfl,_,rfl,_,rfl,_,rfl,_,_,rfl,rfl,⟨by decide,by decide,by decide⟩,_,_,rfl,rfl,.inr ⟨_,rfl,_,_,rfl,rfl,zcA D,_,rfl,_,_,rfl,rfl,(by show(0:Int)<_;decide),_,rfl,_,_,rfl,rfl,ZQ (by decide) (by decide),_,_,rfl,rfl,_,_,rfl,rfl,_,_,rfl,rfl,?_,_,_,rfl,rfl,(by show(0:Int)<_;decide),(by rw[sizeLine_eq];exact(by decide:3<=16777216)),fun p l=>k p _ l ⟨_,_,_,ze,?_,?_,?_,by decide,by decide⟩⟩⟩
   ·refine ZQ ?_ ?_
    ·have:=yw z (show(2147483629:Int)≠0 by decide)
     omega
    ·have:=yB z (show(0:Int)<2147483629 by decide)
     omega
   ·exact zfP
   ·exact yw _ (by decide)
   ·exact Int.lt_trans (yB _ (by decide)) (by decide)
  ·refine⟨_,rfl,_,rfl,_,rfl,_,rfl,_,_,rfl,rfl,⟨by decide,by decide,by decide⟩,_,_,rfl,rfl,.inr ⟨_,rfl,_,_,rfl,rfl,zcA D,_,rfl,_,_,rfl,rfl,(by show(0:Int)<_;decide),_,rfl,_,_,rfl,rfl,ZQ (by decide) (by decide),_,_,rfl,rfl,_,_,rfl,rfl,_,_,rfl,rfl,?_,_,_,rfl,rfl,(by show(0:Int)<_;decide),(by rw[sizeLine_eq];exact(by decide:3<=16777216)),fun p l=>k p _ l ⟨_,_,_,ze,?_,?_,?_,by decide,by decide⟩⟩⟩
   ·refine ZQ ?_ ?_
    ·have:=yw 0 (show(2147483629:Int)≠0 by decide)
     omega
    ·have:=yB 0 (show(0:Int)<2147483629 by decide)
     omega
   ·exact zfP
   ·exact yw _ (by decide)
   ·exact Int.lt_trans (yB _ (by decide)) (by decide)
theorem zfM{c:List V}{lo g:Option Int}{x:V}(h:x∈jF c lo g):x∈c:=List.mem_of_mem_drop (za6 h)
theorem zcq{n j:Nat}(h:j<n):ixN n (j:Int)=some j:=by
 unfold ixN;rw[zu (by omega),zu (by omega)];simp
theorem zfN(c:List Int)(lo g:Option Int):∃l:List Int,jF (c.map V.int) lo g=l.map V.int:=by
 refine⟨(c.drop (HT.sIx c.length 0 lo)).take (HT.sIx c.length c.length g-HT.sIx c.length 0 lo),?_⟩
 unfold jF;rw[zv,List.map_take,List.map_drop]
theorem zhg(c:List Int)(z:Nat):(jF (c.map V.int) none (some (z:Int))).length=min z c.length:=by
 unfold jF;rw[HT.sIx_nat,HT.sIx_none,jv,Zv,zv];omega
theorem zhh(c:List Int)(z:Nat)(g:Option Int):(jF (c.map V.int) (some (z:Int)) g).length<=c.length-min z c.length:=by
 unfold jF;rw[HT.sIx_nat,jv,Zv,zv];omega
inductive Yo(K:W.Frag)(o:List V)(H:Hp)(Q:VK):Prop
 | mk (a:Addr) (l:List Int) (z:Nat) (_:o=[.ref a,.int z]) (_:SqL K H a (l.map V.int)) (_:l.length<=63) (_:1<=z) (_:z<=63) (_:∀(p:Addr) (g:List Int) c,Same H c->SqL K c p (g.map V.int)->g.length<=z->Q (.ref p) c):Yo K o H Q
def zeq(K:W.Frag):Sp:=fun c H Q _=>Yo K c H Q
theorem zeG:zE ["_law_script","_law_size","_law_cells","_law_k","_law_cell"] ["_law_script","_law_size"] (zy (topL 46)):=u0
def zcZ(a:_)(z:Nat)(p:_)(H:_)(q:_)(l:List Int):=fun(i:Nat) (σ:St) (c:Hp)=>(Ex3 fun(g:List Int) (o s:Option V)=>An5 (σ=[some (.ref a),some (.int z),some (.ref p),o,s]) (Same H c) (c p=some (.lst (g.map V.int))) (c q=some (.lst (jF (l.map V.int) (some (z:Int)) (some 63)))) (g.length=min z l.length):Prop)
theorem zgO{f:Addr}{fd:FuncData}(F:Fun K "_law_folded" "_law_folded" (topL 46) f fd)(B:Blt I):qA P w K I G CX0 1 f fd ["_law_script","_law_size"] (zeq K):=by
 have nd:=zeG.nd;refine F.ok zeG 0#d (fun a6 A a4 s H vs Q E hr h=>?_)
 ·obtain⟨a,g,z,rfl,_⟩:=h
  rfl
 ·obtain⟨a,g,z,rfl,hS,a5,a8,a9,k⟩:=h
  refine⟨_,(zg (zF (i:=2) nd rfl 0#a (qO wD rfl B.list j5 (za (xP Jg (pv 0) wx (xL (pv 1))) zb)))
   (zg (qM ju rfl (yQ rfl B.enumerate (za (xP Jg (pv 0) (xL (pv 1)) (xL zj)) zb)) (jP rfl (zI (zB (i:=3) nd rfl 0#a) (zI (zB (i:=4) nd rfl 0#a) jd)))
   (zp (vc (zK qx (zS qo (pv 2) (zK xI (pv 3) (pv 1)) 0#c) (zK xW (pv 4) (zK qx (pv 3) zj))) (JK (pv 2) (zK xI (pv 3) (pv 1)) ye))))
   (zp (zA (pv 2))))),?_⟩
  refine⟨_,rfl,_,rfl,_,rfl,a,_,rfl,hS,fun l hl=>⟨l,_,rfl,.inl (u4 ze),fun p hp=>?_⟩⟩
  have s1:Same H (upd (upd H l (.lst (jF (g.map V.int) none (some (z:Int))))) p (.lst (jF (g.map V.int) none (some (z:Int))))):=(zd hl).trans (zd hp);generalize a0:upd (upd H l (.lst (jF (g.map V.int) none (some (z:Int))))) p (.lst (jF (g.map V.int) none (some (z:Int))))=H1 at s1;have M:H1 p=some (.lst (jF (g.map V.int) none (some (z:Int)))):=by rw[<- a0];exact ze
  have np:H p=none:=(zd hl).free hp;refine⟨_,rfl,_,rfl,_,rfl,_,rfl,a,_,rfl,s1.seq hS,fun q hq=>⟨q,rfl,⟨_,u4 ze⟩,?_⟩⟩
  have U:p≠q:=zo M hq;obtain⟨a1,u⟩:=zfN g none (some (z:Int));have lo:=zhg g z;have hi:=zhh g z (some 63);refine J8 (K:=K) (a:=q) (xs:=jF (g.map V.int) (some (z:Int)) (some 63)) (zcZ a z p H q g)
   ⟨a1,none,none,rfl,s1.trans (zd hq),by rw[zq U,M,u],ze,by rw[<- lo,u,zv]⟩ (fun i σ Y _ ⟨_,_,_,_,_,_,h,_⟩=>u4 h) ?_ ?_
  ·rintro i x σ Y T hx ⟨J,v3,v4,rfl,sm,t,D,L⟩ hT
   have a7:i<(jF (g.map V.int) (some (z:Int)) (some 63)).length:=(zU.mp hx).1;obtain⟨c,rfl⟩:∃c,x=V.int c:=by
    have:=zfM (qw hx);obtain⟨c,_,e⟩:=qr.mp this;exact⟨c,e.symm⟩
   have hj:i % z<J.length:=by
    have:=wE i (show 0<z by omega)
    omega
   have a2:p≠T:=zo t hT;have a3:q≠T:=zo D hT;have N:upd Y T (.tup [.int i,.int c]) p=some (.lst (J.map V.int)):=by rw[zq a2];exact t
   have em:((i % z:Nat):Int)=(i:Int) % (z:Int):=Int.natCast_emod i z;have O:(0:Int)<(z:Int):=by omega
   refine⟨T,_,rfl,u5 ze,rfl,_,_,rfl,_,_,rfl,rfl,?_⟩
   refine⟨_,rfl,_,rfl,_,rfl,_,_,rfl,rfl,O,p,_,_,.int J[i % z],rfl,rfl,u4 N,(by rw[<- em];exact jA (by simp[hj])),?_⟩
   refine⟨_,rfl,_,rfl,_,_,rfl,rfl,_,_,rfl,rfl,.inr ⟨?_,?_⟩,_,_,rfl,rfl,?_⟩
   ·have e1:(-(2^64):Int)= -18446744073709551616:=by decide
    rw[e1];omega
   ·have e2:((2^64):Int)=18446744073709551616:=by decide
    rw[e2];omega
   refine⟨_,rfl,_,rfl,_,rfl,_,_,rfl,rfl,O,p,_,_,i % z,rfl,rfl,N,(by rw[<- em,zv];exact zcq hj),?_⟩
   refine⟨J.set (i % z) (J[i % z]+c*((i:Int)+2)),_,_,rfl,fun d o e=>?_,by rw[ze,List.map_set],?_,by rw[yI];exact L⟩
   ·rw[zq (zo e np),zq (zo (sm d o e) hT)]
    exact sm d o e
   ·rw[zq (zG U),zq a3]
    exact D
  ·rintro σ Y ⟨J,v3,v4,rfl,sm,t,D,L⟩
   exact⟨_,rfl,k p J Y sm (u4 t) (by omega)⟩
theorem zad:[V.ty "list",V.ty "tuple"].length<=sizeLine:=by rw[sizeLine_eq];exact(by decide:2<=16777216)
def spS(K:W.Frag):Nat->Sp
 | 0=>fun _ _ _ _=>False
 | n+1=>fun g H Q _=>∃d f v,g=[f,v]/\Rep K H d f/\Rep K H d v/\Dat.ok n d/\∀c,Same H c->Q (.bl true) c
theorem zeD:zE ["_law_found","_law_due"] ["_law_found","_law_due"] (zy (topL 47)):=u0
theorem zcg{f:Addr}{fd:FuncData}(F:Fun K "_law_same" "_law_same" (topL 47) f fd)(B:Blt I)(hm:I "_law_same" = some (.ref f))(hb:Binds K fd ["_law_found","_law_due"] []) :
  ∀n:Nat,qA P w K I G CX0 n f fd ["_law_found","_law_due"] (spS K n)
 | 0=>⟨fun _ _ _ _ h=>h.elim,fun _ _ _ _ _ _ _ _ _ _ _ _ _ h=>h.elim⟩
 | n+1=>by
  have a0:Dfn P w K I G "_law_same" n ["_law_found","_law_due"] (spS K n):=⟨f,fd,zcg F B hm hb n,hm,F.kp,hb⟩;have nd:=zeD.nd;refine F.ok zeD 0#d (fun a4 A a3 s H vs Q E hr h=>?_)
  ·obtain⟨d,g,v,rfl,_⟩:=h
   rfl
  ·obtain⟨d,g,v,rfl,rg,rv,ok,k⟩:=h
   refine⟨_,(zg (je (qL (zw Vv rfl B.isinstance boot_isinstance (za (pv 1) (za (jB (za (qR (v:=.ty "list") rfl B.list j5 rfl) (za (qR (v:=.ty "tuple") rfl B.tuple qZ rfl) zb))) zb))))
   (zg (je (PW.pt (yf (jh (qL (zw Vv rfl B.isinstance boot_isinstance (za (pv 0) (za (jB (za (qR (v:=.ty "list") rfl B.list j5 rfl) (za (qR (v:=.ty "tuple") rfl B.tuple qZ rfl) zb))) zb))))) (va (qC YA (zw qY rfl B.isinstance boot_isinstance (za (pv 0) (za (qR (v:=.ty "list") rfl B.list j5 rfl) zb))) (zw qY rfl B.isinstance boot_isinstance (za (pv 1) (za (qR (v:=.ty "list") rfl B.list j5 rfl) zb))) (z7 _)))))
    (zp (zA j6))
    qe)
    (zp (zA (xn (qN xQ (zw zR rfl B.len boot_len 0#t) (zw zR rfl B.len boot_len 0#s) (z7 _)) (xV (zw (j4 rfl) rfl B.all boot_all (za (vM [] [] rfl rfl (by kernel_rfl) (V0 rfl B.zip (za (pv 0) 0#s)) 0#k (fun _ _ _ _=>(zi a0 (hr.mono (by omega)) rfl (za (pv 0) 0#s)))) zb)))))))
   qe)
   (zg (je (PW.pt (yf (qC JR (pv 1) vL (z7 _)) (va (qL (zw qY rfl B.isinstance boot_isinstance (za (pv 1) (za (qR (v:=.ty "str") rfl B.str ZS rfl) zb)))))))
   (zp (zA (xn (qN xQ (pv 0) (pv 1) (z7 _)) (xV (qN xQ (zw qY rfl B.isinstance boot_isinstance (za (pv 0) (za (qR (v:=.ty "str") rfl B.str ZS rfl) zb))) (zw qY rfl B.isinstance boot_isinstance (za (pv 1) (za (qR (v:=.ty "str") rfl B.str ZS rfl) zb))) (z7 _))))))
   qe)
   (zp (zA (xn (zw qY rfl B.isinstance boot_isinstance (za (pv 0) (za (qR (v:=.ty "int") rfl B.int ZT rfl) zb))) (xn (qN xQ (zw qY rfl B.isinstance boot_isinstance (za (pv 0) (za (qR (v:=.ty "bool") rfl B.bool Qk rfl) zb))) (zw qY rfl B.isinstance boot_isinstance (za (pv 1) (za (qR (v:=.ty "bool") rfl B.bool Qk rfl) zb))) (z7 _)) (xV (qN xQ (pv 0) (pv 1) (z7 _))))))))),?_⟩
   refine⟨_,rfl,zad,fun p hp=>⟨v,d.tyN,p,["list","tuple"],rfl,(rv.same (zd hp)).ty,ze,(by decide),_,rfl,?_⟩⟩
   have s1:Same H (upd H p (.tup [V.ty "list",V.ty "tuple"])):=zd hp;have u:=rg.same s1;have t:=rv.same s1;generalize upd H p (.tup [V.ty "list",V.ty "tuple"])=H1 at s1 u t;cases d with
   | non=>
    cases(show g=_ from rg);cases(show v=_ from rv)
    refine ifF rfl ⟨_,rfl,rfl,_,rfl,ifT (by simp) (ifT rfl ?_)⟩
    refine⟨_,rfl,_,rfl,rfl,_,rfl,ifT (by simp) ⟨_,rfl,_, "NoneType", "str",rfl,u.ty,(by decide),_,rfl,_, "NoneType", "str",rfl,t.ty,(by decide),rfl,?_⟩⟩
    have:=k H1 s1;simpa using this
   | str x=>
    cases(show g=_ from rg);cases(show v=_ from rv)
    refine ifF rfl ⟨_,rfl,rfl,_,rfl,ifF (by simp) ⟨_,rfl,_, "str", "str",rfl,t.ty,(by decide),_,rfl,ifT (by decide) ?_⟩⟩
    refine⟨_,rfl,_,rfl,rfl,_,rfl,ifT (by simp) ⟨_,rfl,_, "str", "str",rfl,u.ty,(by decide),_,rfl,_, "str", "str",rfl,t.ty,(by decide),rfl,?_⟩⟩
    have:=k H1 s1;simpa using this
   | bl b=>
    cases(show g=_ from rg);cases(show v=_ from rv)
    refine ifF rfl ⟨_,rfl,rfl,_,rfl,ifF (by simp) ⟨_,rfl,_, "bool", "str",rfl,t.ty,(by decide),_,rfl,ifF (by decide) ?_⟩⟩
    refine⟨_,rfl,_, "bool", "int",rfl,u.ty,(by decide),_,rfl,ifT (by decide) ⟨_,rfl,_, "bool", "bool",rfl,u.ty,(by decide),_,rfl,_, "bool", "bool",rfl,t.ty,(by decide),rfl,_,rfl,ifT (by simp) ⟨_,rfl,_,rfl,rfl,?_⟩⟩⟩
    have:=k H1 s1;simpa using this
   | int b=>
    cases(show g=_ from rg);cases(show v=_ from rv)
    refine ifF rfl ⟨_,rfl,rfl,_,rfl,ifF (by simp) ⟨_,rfl,_, "int", "str",rfl,t.ty,(by decide),_,rfl,ifF (by decide) ?_⟩⟩
    refine⟨_,rfl,_, "int", "int",rfl,u.ty,(by decide),_,rfl,ifT (by decide) ⟨_,rfl,_, "int", "bool",rfl,u.ty,(by decide),_,rfl,_, "int", "bool",rfl,t.ty,(by decide),rfl,_,rfl,ifT (by simp) ⟨_,rfl,_,rfl,rfl,?_⟩⟩⟩
    have:=k H1 s1;simpa using this
   | lst ds=>
    obtain⟨a,J,rfl,hx,rx⟩:=u;obtain⟨b,L,rfl,hy,ry⟩:=t;cases n with
    | zero=>exact(show False from ok).elim
    | succ n=>
     obtain⟨a2,N⟩:ds.length<=1000000/\∀d∈ds,Dat.ok n d:=ok;have lx:=rx.len;have ly:=ry.len;have a1:=bG1000000;refine ifT rfl ?_
     refine⟨_,rfl,zad,fun p2 O=>⟨.ref a, "list",p2,["list","tuple"],rfl,(.inl ⟨rfl,J,(zd O).seq hx⟩),ze,(by decide),_,rfl,ifF rfl ?_⟩⟩
     have s2:Same H1 (upd H1 p2 (.tup [V.ty "list",V.ty "tuple"])):=zd O;have c:=s2.seq hx;have l:=s2.seq hy;have U:=rx.same s2;have Y:=ry.same s2;have s3:=s1.trans s2;generalize upd H1 p2 (.tup [V.ty "list",V.ty "tuple"])=H2 at s2 s3 c l U Y;refine⟨_,rfl,.ref a, "list", "list",rfl,(.inl ⟨rfl,J,c⟩),(by decide),_,rfl,.ref b, "list", "list",rfl,(.inl ⟨rfl,L,l⟩),(by decide),rfl,_,rfl,ifF (by decide) ?_⟩
     refine⟨_,rfl,a,J,rfl,(.inl c),_,rfl,b,L,rfl,(.inl l),rfl,_,rfl,ifT (by simp[lx,ly]) ?_⟩
     refine⟨_,rfl,_,rfl,true,true,a,b,rfl,⟨J,c⟩,⟨L,l⟩,?_⟩
     refine JZ (K:=K) (k1:=true) (k2:=true) (xs:=J) (ys:=L) (fun i zs H3=>zs=List.replicate i (V.bl true)/\Same H2 H3) ⟨rfl,u6 _⟩ (fun i zs H3 ⟨_,M⟩=>⟨M.seq c,M.seq l⟩) ?_ ?_
     ·rintro i x y zs H3 T e1 e2 ⟨rfl,M⟩ hT
      have hi:i<ds.length:=by have:=(zU.mp e1).1;omega
      obtain⟨d1,q1,r1⟩:=U.get e1;obtain⟨d2,q2,r2⟩:=Y.get e2;rw[q1] at q2;cases q2
      have s4:=M.trans (zd (o:=.tup [x,y]) hT);refine⟨T,_,rfl,u5 ze,rfl,_,_,rfl,_,_,rfl,rfl,rfl,?_⟩
      refine⟨_,rfl,_,rfl,d1,x,y,rfl,r1.same s4,r2.same s4,N d1 (qw q1),fun H5 s5=>⟨?_,?_,s4.trans s5⟩⟩
      ·rw[xF];omega
      ·rw[QQ]
     ·rintro zs H3 ⟨rfl,M⟩
      refine⟨by rw[xF];omega,fun D hD=>⟨D,List.replicate (min J.length L.length) true,rfl,?_,?_⟩⟩
      ·refine u4 ?_
       rw[ze,zaY]
      ·have:=k _ (s3.trans (M.trans (zd (o:=.lst (List.replicate (min J.length L.length) (V.bl true))) hD)))
       simpa using this
   | tup ds=>
    obtain⟨a,J,rfl,hx,rx⟩:=u;obtain⟨b,L,rfl,hy,ry⟩:=t;cases n with
    | zero=>exact(show False from ok).elim
    | succ n=>
     obtain⟨a2,N⟩:ds.length<=1000000/\∀d∈ds,Dat.ok n d:=ok;have lx:=rx.len;have ly:=ry.len;have a1:=bG1000000;refine ifT rfl ?_
     refine⟨_,rfl,zad,fun p2 O=>⟨.ref a, "tuple",p2,["list","tuple"],rfl,(.inr ⟨rfl,J,(zd O).sqT hx⟩),ze,(by decide),_,rfl,ifF rfl ?_⟩⟩
     have s2:Same H1 (upd H1 p2 (.tup [V.ty "list",V.ty "tuple"])):=zd O;have c:=s2.sqT hx;have l:=s2.sqT hy;have U:=rx.same s2;have Y:=ry.same s2;have s3:=s1.trans s2;generalize upd H1 p2 (.tup [V.ty "list",V.ty "tuple"])=H2 at s2 s3 c l U Y;refine⟨_,rfl,.ref a, "tuple", "list",rfl,(.inr ⟨rfl,J,c⟩),(by decide),_,rfl,.ref b, "tuple", "list",rfl,(.inr ⟨rfl,L,l⟩),(by decide),rfl,_,rfl,ifF (by decide) ?_⟩
     refine⟨_,rfl,a,J,rfl,(.inr c),_,rfl,b,L,rfl,(.inr l),rfl,_,rfl,ifT (by simp[lx,ly]) ?_⟩
     refine⟨_,rfl,_,rfl,false,false,a,b,rfl,⟨J,c⟩,⟨L,l⟩,?_⟩
     refine JZ (K:=K) (k1:=false) (k2:=false) (xs:=J) (ys:=L) (fun i zs H3=>zs=List.replicate i (V.bl true)/\Same H2 H3) ⟨rfl,u6 _⟩ (fun i zs H3 ⟨_,M⟩=>⟨M.sqT c,M.sqT l⟩) ?_ ?_
     ·rintro i x y zs H3 T e1 e2 ⟨rfl,M⟩ hT
      have hi:i<ds.length:=by have:=(zU.mp e1).1;omega
      obtain⟨d1,q1,r1⟩:=U.get e1;obtain⟨d2,q2,r2⟩:=Y.get e2;rw[q1] at q2;cases q2
      have s4:=M.trans (zd (o:=.tup [x,y]) hT);refine⟨T,_,rfl,u5 ze,rfl,_,_,rfl,_,_,rfl,rfl,rfl,?_⟩
      refine⟨_,rfl,_,rfl,d1,x,y,rfl,r1.same s4,r2.same s4,N d1 (qw q1),fun H5 s5=>⟨?_,?_,s4.trans s5⟩⟩
      ·rw[xF];omega
      ·rw[QQ]
     ·rintro zs H3 ⟨rfl,M⟩
      refine⟨by rw[xF];omega,fun D hD=>⟨D,List.replicate (min J.length L.length) true,rfl,?_,?_⟩⟩
      ·refine u4 ?_
       rw[ze,zaY]
      ·have:=k _ (s3.trans (M.trans (zd (o:=.lst (List.replicate (min J.length L.length) (V.bl true))) hD)))
       simpa using this
theorem le0:([]:List V).length<=sizeLine:=qB _
theorem le2{x y:V}:[x,y].length<=sizeLine:=by rw[sizeLine_eq];exact(by decide:2<=16777216)
theorem SameB.refl(b:Addr)(H:Hp):SameB b H H:=fun _ _ e _=>e
def u7:=@SameB.refl
theorem SameB.trans{b:Addr}{H g l:Hp}(a:SameB b H g)(c:SameB b g l):SameB b H l:=fun d o e hd=>c d o (a d o e hd) hd
theorem SameB.of{b:Addr}{H c:Hp}(a:Same H c):SameB b H c:=fun d o e _=>a d o e
theorem SameB.new{b p:Addr}{o:HO}{H c:Hp}(a:SameB b H c)(h:c p=none):SameB b H (upd c p o):=a.trans (.of (zd h))
theorem BoxAt.new{b p:Addr}{o:HO}{H:Hp}{n:Int}(a:BoxAt H b n)(h:H p=none):BoxAt (upd H p o) b n:=by
 obtain⟨c,g,l,e,r⟩:=a;exact⟨c,g,l,by rw[zq (zo e h)];exact e,r⟩
theorem BoxAt.same{b:Addr}{H c:Hp}{n:Int}(a:BoxAt H b n)(s:Same H c):BoxAt c b n:=by
 obtain⟨g,l,o,e,r⟩:=a;exact⟨g,l,o,s _ _ e,r⟩
theorem BoxAt.ne{b t:Addr}{H:Hp}{n:Int}{o:HO}(a:BoxAt H b n)(h:H t=some o)(c:∀x y z,o≠.lst [x,y,z]):t≠b:=by
 obtain⟨g,l,s,e,r⟩:=a;exact YD h e (c _ _ _)
theorem BoxAt.some{b:Addr}{H:Hp}{n:Int}(a:BoxAt H b n):∃o,H b=.some o:=let ⟨_,_,_,e,_⟩:=a;⟨_,e⟩
theorem BoxAt.mono{b:Addr}{H:Hp}{n m:Int}(a:BoxAt H b n)(h:n<=m):BoxAt H b m:=by
 obtain⟨c,g,l,e,o,s,t,u,A⟩:=a;exact⟨c,g,l,e,o,s,t,u,by omega⟩
theorem le1{x:V}:[x].length<=sizeLine:=by rw[sizeLine_eq];exact(by decide:1<=16777216)
theorem le3{x y z:V}:[x,y,z].length<=sizeLine:=by rw[sizeLine_eq];exact(by decide:3<=16777216)
theorem le4{x y z u:V}:[x,y,z,u].length<=sizeLine:=by rw[sizeLine_eq];exact(by decide:4<=16777216)
theorem leN{c:List V}(h:c.length<=1000):c.length<=sizeLine:=by rw[sizeLine_eq];omega
theorem Wo{α:Type}{xs:List α}{i:Int}(h:0<=i)(g:i<xs.length):∃v,atI xs i=some v/\xs[i.toNat]? =some v:=by
 have c:i.toNat<xs.length:=by omega
 refine⟨xs[i.toNat],?_,by simp[c]⟩
 have:=jA (xs:=xs) (j:=i.toNat) (v:=xs[i.toNat]) (by simp[c])
 rwa[show((i.toNat:Nat):Int)=i by omega] at this
theorem fm{α:V->Prop}{x:V}{c:List V}(h:α x)(g:∀y∈c,α y):∀y∈x::c,α y:=fun y hy=>(zC.mp hy).elim (fun e=>e▸h) (g y)
theorem SameB.put{b m:Addr}{H g:Hp}{o:HO}(s:SameB b H g)(h:H m=none):SameB b H (upd g m o):=fun c u e hc=>by
 rw[zq (zo e h)];exact s c u e hc
theorem SameB.none{b m:Addr}{H c:Hp}(s:SameB b H c)(h:c m=none)(g:m≠b):H m=none:=by
 cases q:H m with
 | none=>rfl
 | some o=>have:=s m o q g;rw[h] at this;cases this
def vN(x:Str):Prop:=(x.cps.toList.map Q6).all id=true
theorem zjh{r:Int}(l:0<=r)(o:r<26):∃c,atI zdk.cps.toList r=some c/\Q6 c=true:=by
 rw[YM];obtain⟨c,e,g⟩:=Wo (xs:=List.range' 97 26) l (by rw[List.length_range'];omega)
 have s:=List.mem_range'_1.mp (qw g);refine⟨c,e,?_⟩
 unfold Q6;rw[zT (by omega),zT (by omega)]
 rfl
theorem zfq{c:Nat}{y:Str}(h:Q6 c=true)(hy:vN y):vN ((⟨#[c]⟩:Str)++y):=by
 unfold vN at hy ⊢;show((#[c]++y.cps).toList.map Q6).all id=true;rw[Array.toList_append,zQ,List.all_append,hy,Bool.and_true];show(Q6 c&&true)=true;rw[h];rfl
theorem zfu{c:Nat}{y:Str}:((⟨#[c]⟩:Str)++y).length=y.length+1:=by
 show(#[c]++y.cps).size=y.cps.size+1;rw[Array.size_append];show 1+_=_;omega
theorem BoxAt.nne{b p:Addr}{H:Hp}{n:Int}(a:BoxAt H b n)(h:H p=none):p≠b:=by
 obtain⟨o,e⟩:=a.some;exact(zo e h).symm
theorem BoxAt.other{b l:Addr}{H:Hp}{n:Int}{o:HO}(a:BoxAt H b n)(h:l≠b):BoxAt (upd H l o) b n:=by
 obtain⟨c,g,s,e,r⟩:=a;exact⟨c,g,s,by rw[zq (zG h)];exact e,r⟩
def Nm(x:Str):Prop:=x.length<=8/\(∀c∈x.cps.toList,c<1000000)/\1<=x.length/\vN x
theorem zky{x:Str}(g:1<=x.length)(h:x.length<=8)(l:vN x):Nm x:=by
 refine⟨h,fun c hc=>?_,g,l⟩
 unfold vN at l;have:=vF.mp l (Q6 c) (qr.mpr ⟨c,hc,rfl⟩);unfold Q6 at this;simp at this;omega
theorem X0:∀(c:List Str),(c.map V.str).all wK=true
 | []=>rfl
 | n::c=>by
  show(true&&(c.map V.str).all wK)=true;rw[X0 c];rfl
inductive X4(l:List V)(H:Hp)(Q:VK):Prop
 | mk (g c:Int) (_:l=[.int g,.int c]) (_:0<=g) (_:1<=c) (_:c<=8) (_:∀y:Str,(y.length:Int)=c->vN y->Q (.str y) H):X4  l H Q
def zbB:Sp:=fun c H Q _=>X4  c H Q
theorem zbV:zE ["_law_number","_law_size","_law_word","_law_k"] ["_law_number","_law_size"] (zy (topL 48)):=u0
def zcY(g:_)(H:_):=fun(i:Nat) (σ:St) (l:Hp)=>(Ex3 fun(c:Int) (y:Str) (o:Option V)=>An5 (σ=[some (.int c),some (.int g),some (.str y),o]) (0<=c) (y.length=i) (vN y) (l=H):Prop)
theorem ze9{f:Addr}{L:FuncData}(F:Fun K "_law_spelled" "_law_spelled" (topL 48) f L)(B:Blt I):qA P w K I G CX0 1 f L ["_law_number","_law_size"] zbB:=by
 have u:=zbV.nd;refine F.ok zbV 0#d (fun U A J s H vs Q E hr h=>?_)
 ·obtain⟨t,l,rfl,_⟩:=h
  rfl
 ·obtain⟨t,l,rfl,n0,s0,s1,k⟩:=h
  have M:=bG100000;have o:=bGe;refine⟨_,(zg (zF (i:=2) u rfl 0#a zeW)
   (zg (qM ju rfl (qX rfl B.range 0#s) (zB (i:=3) u rfl 0#a)
   (zg (zF (i:=2) u rfl 0#a (zK zav (zS zjn zeW (zK xI (pv 0) zj) 0#c) (pv 2)))
    (zp (zF (i:=0) u rfl 0#a (zK V6 (pv 0) zj)))))
   (zp (zA (pv 2))))),?_⟩
  refine⟨_,rfl,_,rfl,(by rw[o];omega),(by rw[o];omega),?_⟩
  refine jC (zcY l H) ⟨t,_,_,rfl,n0,rfl,rfl,rfl⟩ ?_ ?_
  ·rintro i σ T hi ⟨g,y,v3,rfl,O,N,D,rfl⟩
   obtain⟨c,hc,Y⟩:=zjh (r:=g % 26) (yw _ (by decide)) (yB _ (by decide))
   refine⟨_,rfl,_,_,rfl,rfl,(by show(0:Int)<26;decide),_,_,c,rfl,rfl,(by rw[sizeLine_eq];decide),hc,_,rfl,_,_,rfl,rfl,?_,?_⟩
   ·show 1+y.length<=sizeLine
    omega
   ·exact⟨_,rfl,_,_,rfl,rfl,⟨by decide,by decide⟩,_,_,_,rfl,Int.ediv_nonneg O (by decide),by rw[zfu,N],zfq Y D,rfl⟩
  ·rintro σ T ⟨g,y,v3,rfl,O,N,D,rfl⟩
   exact⟨_,rfl,k y (by omega) D⟩
inductive zbK(l:List V)(H:Hp)(Q:VK):Prop
 | mk (b t:Addr) (n:Int) (g:List Str) (_:l=[.ref b,.ref t]) (_:BoxAt H b n) (_:n<1099511000000) (_:t≠b) (_:H t=some (.lst (g.map V.str))) (_:g.length<=1000) (_:∀(y:Str) c,SameB b H c->BoxAt c b (n+12)->1<=y.length->y.length<=8->vN y->Q (.str y) c):zbK  l H Q
def zhC:Sp:=fun c H Q _=>zbK  c H Q
theorem zhR:zE ["_law_box_here","_law_taken","_law_size","_law_number","_law_k","_law_word","_law_turn"] ["_law_box_here","_law_taken"] (zy (topL 49)):=u0
theorem ziI{r:Int}(c:0<=r)(g:r<4):∃z:Int,atI [V.int 3,V.int 3,V.int 3,V.int 8] r=some (.int z)/\3<=z/\z<=8:=by
 have hc:r=0\/r=1\/r=2\/r=3:=by omega
 rcases hc with rfl | rfl | rfl | rfl
 ·exact⟨3,rfl,by decide,by decide⟩
 ·exact⟨3,rfl,by decide,by decide⟩
 ·exact⟨3,rfl,by decide,by decide⟩
 ·exact⟨8,rfl,by decide,by decide⟩
def zcX(b:_)(t:_)(l:_)(H:_)(n:_):=fun(i:Nat) (σ:St) (g:Hp)=>(Ex2 fun(c:Int) (o:Option V)=>An4 (σ=[some (.ref b),some (.ref t),some (.int (1+l)),some (.int c),o,none,none]) (0<=c) (SameB b H g) (BoxAt g b (n+2+i)):Prop)
def zcW(b:_)(t:_)(o:_)(c:_)(g:_):=fun(i:Nat) (σ:St) (l:Hp)=>(Ex3 fun(s u:Option V) (y:Str)=>An5 (σ=[some (.ref b),some (.ref t),some (.int (1+o)),some (.int c),s,some (.str y),u]) (1<=y.length) (y.length<=8) (vN y) (l=g):Prop)
theorem zi3{f:Addr}{fd:FuncData}(F:Fun K "_law_name" "_law_name" (topL 49) f fd)(B:Blt I)(u:Dfn P w K I G "_law_take" 1 ["_law_box_here","_law_size"] yc)(g:Dfn P w K I G "_law_spelled" 1 ["_law_number","_law_size"] zbB):qA P w K I G CX0 2 f fd ["_law_box_here","_law_taken"] zhC:=by
 have J:=zhR.nd;refine F.ok zhR 0#d (fun a7 A a6 s H vs Q E N h=>?_)
 ·obtain⟨b,t,n,U,rfl,_⟩:=h
  rfl
 ·obtain⟨b,t,n,U,rfl,B0,hn,a5,ht,a8,k⟩:=h
  have D:=bGe;refine⟨_,(zg (zF (i:=2) J rfl 0#a (zK qx zj (zi u N.m rfl (za (pv 0) (za (zS qo (qQ (za zj (za zj (za zj (za zj zb))))) (zi u N.m rfl 0#p) 0#c) zb)))))
   (zg (zF (i:=3) J rfl 0#a zj)
   (zg (qM ju rfl (qX rfl B.range (za (pv 2) zb)) (zB (i:=4) J rfl 0#a)
   (zp (zF (i:=3) J rfl 0#a (zK qx (zK xW (pv 3) zj) (zi u N.m rfl 0#p)))))
   (zg (zF (i:=5) J rfl 0#a (zi g N.m rfl (za (pv 3) (za (pv 2) zb))))
   (zg (qM ju rfl (qX rfl B.range (za (zK qx (zw zR rfl B.len boot_len 0#s) zj) zb)) (zB (i:=6) J rfl 0#a)
   (zp (je (qC Vh (pv 5) (pv 1) (by with_unfolding_all rfl))
    (zp (zF (i:=5) J rfl 0#a (zi g N.m rfl (za (zK qx (pv 3) (pv 6)) (za zj zb)))))
    qe)))
   (zp (zA (pv 5)))))))),?_⟩
  refine⟨_,rfl,le4,fun l hl=>⟨_,rfl,b,4,n,rfl,B0.new hl,by omega,by decide,by decide,fun r H1 r0 r1 B1 S1=>?_⟩⟩
  have L1:=S1 l _ (ze (H:=H)) ((B0.new hl).ne (ze (H:=H) (o:=.lst [.int 3,.int 3,.int 3,.int 8])) (by intro x y z e;cases e))
  have a2:=((u7 b H).new (o:=.lst [.int 3,.int 3,.int 3,.int 8]) hl).trans S1;obtain⟨z,ez,z0,z1⟩:=ziI r0 r1;refine⟨l,_,_,_,rfl,rfl,u4 L1,ez,b,z,n+1,rfl,B1,by omega,by omega,by omega,fun r2 H2 a0 a1 B2 S2=>⟨_,_,rfl,rfl,?_⟩⟩
  have a3:=a2.trans S2;refine⟨_,rfl,_,rfl,(by rw[D];omega),(by rw[D];omega),?_⟩
  refine jC (zcX b t r2 H n) ⟨0,_,rfl,by decide,a3,B2.mono (by omega)⟩ ?_ ?_
  ·rintro i σ H4 hi ⟨L,v4,rfl,m0,T,Y⟩
   refine⟨_,rfl,_,_,rfl,rfl,.inr ⟨by decide,by decide⟩,_,rfl,b,26,_,rfl,Y,by omega,by decide,by decide,fun r3 H5 c0 c1 B5 S5=>⟨_,_,rfl,rfl,_,_,rfl,?_,T.trans S5,B5.mono (by omega)⟩⟩
   omega
  ·rintro σ H4 ⟨L,v4,rfl,m0,T,Y⟩
   refine⟨_,rfl,_,rfl,L,1+r2,rfl,m0,by omega,by omega,fun y ly M=>?_⟩
   have O:=T t _ ht a5;have el:(U.map V.str).length=U.length:=zv ..;refine⟨_,rfl,t,_,rfl,.inl (u4 O),_,_,rfl,rfl,_,rfl,(by rw[D,el];omega),(by rw[D,el];omega),?_⟩
   refine jC (zcW b t r2 L H4) ⟨_,_,y,rfl,by omega,by omega,M,rfl⟩ ?_ ?_
   ·rintro i σ H5 hi ⟨v4,v6,y,rfl,y0,y1,M,rfl⟩
    refine⟨_,rfl,_,rfl,t,_,rfl,.inl (u4 O),rfl,X0 U,_,rfl,ym (fun c=>?_) (fun c=>⟨_,_,y,rfl,y0,y1,M,rfl⟩)⟩
    exact⟨_,rfl,_,rfl,_,_,rfl,rfl,_,8,rfl,by omega,by decide,by decide,fun y' a9 a4=>⟨_,_,y',rfl,by omega,by omega,a4,rfl⟩⟩
   ·rintro σ H5 ⟨v4,v6,y,rfl,y0,y1,M,rfl⟩
    exact⟨_,rfl,k y _ T (Y.mono (by omega)) y0 y1 M⟩
def Row(H:Hp)(l:Addr)(c:List Str):Prop:=H l=some (.lst (c.map V.str))/\∀x∈c,Nm x
theorem Row.same{H c:Hp}{l:Addr}{g:List Str}(r:Row H l g)(s:Same H c):Row c l g:=⟨s _ _ r.1,r.2⟩
theorem Row.draw{H c:Hp}{b l:Addr}{g:List Str}(r:Row H l g)(s:SameB b H c)(h:l≠b):Row c l g:=⟨s _ _ r.1 h,r.2⟩
inductive X8(o:List V)(H:Hp)(Q:VK):Prop
 | mk (b:Addr) (m n:Int) (_:o=[.ref b,.int m]) (_:BoxAt H b n) (_:n<1000000) (_:0<=m) (_:m<=12) (_:∀(l:Addr) (g:List Str) c,SameB b H c->BoxAt c b (n+150)->l≠b->H l=none->Row c l g->(g.length:Int)=m->Q (.ref l) c):X8  o H Q
def zbJ:Sp:=fun c H Q _=>X8  c H Q
theorem zbZ:zE ["_law_box_here","_law_many","_law_found","_law_k"] ["_law_box_here","_law_many"] (zy (topL 50)):=u0
def zcV(b:_)(m:_)(l:_)(H:_)(n:_):=fun(i:Nat) (σ:St) (c:Hp)=>(Ex2 fun(g:List Str) (o:Option V)=>An5 (σ=[some (.ref b),some (.int m),some (.ref l),o]) (SameB b H c) (BoxAt c b (n+12*i)) (Row c l g) (g.length=i):Prop)
theorem zfc{f:Addr}{U:FuncData}(F:Fun K "_law_names" "_law_names" (topL 50) f U)(B:Blt I)(c:Dfn P w K I G "_law_name" 2 ["_law_box_here","_law_taken"] zhC):qA P w K I G CX0 3 f U ["_law_box_here","_law_many"] zbJ:=by
 have nd:=zbZ.nd;refine F.ok zbZ 0#d (fun a0 A M s H vs Q E hr h=>?_)
 ·obtain⟨b,m,n,rfl,_⟩:=h
  rfl
 ·obtain⟨b,m,n,rfl,N,hn,m0,m1,k⟩:=h
  have Y:=bG100000;have t:=bGe;refine⟨_,(zg (zF (i:=2) nd rfl 0#a (qQ zb))
   (zg (qM ju rfl (qX rfl B.range 0#s) (zB (i:=3) nd rfl 0#a)
   (zp (xK (yi wS ZW ZV j3 (pv 2) (za (zi c hr.m rfl (za (pv 0) (za (pv 2) zb))) zb)))))
   (zp (zA (pv 2))))),?_⟩
  refine⟨le0,fun l u=>?_⟩
  have nl:=N.nne u;refine⟨_,rfl,_,rfl,(by rw[t];omega),(by rw[t];omega),?_⟩
  refine jC (zcV b m l H n) ⟨[],_,rfl,(u7 b H).new u,(N.new u).mono (by omega),⟨ze,fun x h=>nomatch h⟩,rfl⟩ ?_ ?_
  ·rintro i σ O hi ⟨D,v3,rfl,L,J,o,g⟩
   refine⟨_,rfl,.inl ⟨rfl,_,u4 o.1⟩,_,rfl,_,rfl,b,l,_,D,rfl,J,by omega,nl,o.1,by omega,fun y H5 T B5 y0 y1 al=>⟨l,_,_,rfl,rfl,(o.draw T nl).1,by rw[zv,g];omega,?_⟩⟩
   refine⟨D++[y],_,rfl,(L.trans T).put u,(B5.other nl).mono (by omega),⟨by rw[ze,zQ];rfl,fun x hx=>?_⟩,by rw[qz,g];rfl⟩
   rcases ja.mp hx with q | q
   ·exact o.2 x q
   ·rw[zW.mp q];exact zky y0 y1 al
  ·rintro σ O ⟨D,v3,rfl,L,J,o,g⟩
   exact⟨_,rfl,k l D O L (J.mono (by omega)) nl u o (by omega)⟩
def PlA(H:Hp)(a:Addr):Prop:=∃x y:Int,H a=some (.tup [.int x,.int y])/\0<=x/\x<=1000/\0<=y/\y<=1000
theorem PlA.imp{H c:Hp}{a:Addr}(h:PlA H a)(f:∀o,H a=some o->c a=some o):PlA c a:=let ⟨x,y,e,r⟩:=h;⟨x,y,f _ e,r⟩
theorem PlA.draw{H c:Hp}{a b:Addr}{n:Int}(h:PlA H a)(B:BoxAt H b n)(s:SameB b H c):PlA c a:=by
 obtain⟨x,y,e,r⟩:=h;obtain⟨l,o,t,g,_⟩:=B;exact⟨x,y,s a _ e (YD e g (by intro z;cases z)),r⟩
def LieAt(H:Hp)(c:List Addr)(g:List 0#o):Prop:=c.length=g.length/\∀(i:Nat) (q:Int×Int),g[i]? =some q->∃a,c[i]? =some a/\H a=some (.tup [.int q.1,.int q.2])
theorem LieAt.imp{H l:Hp}{g:List Addr}{s:List 0#o}(h:LieAt H g s)(f:∀a o,a∈g->H a=some o->l a=some o):LieAt l g s:=⟨h.1,fun i q e=>let ⟨a,b,c⟩:=h.2 i q e;⟨a,b,f _ _ (qw b) c⟩⟩
theorem LieAt.prs{K:W.Frag}{H:Hp}{g:List Addr}{l:List 0#o}(h:LieAt H g l):zd2 K H (g.map V.ref) l:=⟨by rw[zv];exact h.1,fun i q e=>let ⟨a,b,c⟩:=h.2 i q e;⟨a,by rw[zY,b];rfl,u5 c⟩⟩
theorem zh5{α:Type}[DecidableEq α]:∀{c ys:List α},c.Nodup->(∀x∈c,x∈ys)->c.length<=ys.length
 | [],_,_,_=>qB _
 | x::c,ys,s,h=>by
  obtain⟨l,o⟩:=xA.mp s;have hx:=h x jK;have:=zh5 o (ys:=ys.erase x) fun z g=>(Xy fun e=>l (by rw[<- e];exact g)).mpr (h z (z9 _ g))
  rw[XE hx] at this;have:=XA hx;rw[jJ];omega
theorem zfs{H:Hp}:∀{c:List Addr},(∀a∈c,PlA H a)->∃g,LieAt H c g
 | [],_=>⟨[],rfl,fun i q e=>by cases e⟩
 | a::c,h=>by
  obtain⟨g,l,f⟩:=zfs fun b hb=>h b (z9 _ hb)
  obtain⟨x,y,e,_⟩:=h a jK;refine⟨(x,y)::g,by rw[jJ,jJ,l],fun i q o=>?_⟩
  cases i with
  | zero=>cases o;exact⟨a,rfl,e⟩
  | succ i=>exact f i q o
theorem LieAt.mem{H:Hp}{g:List Addr}{c:List 0#o}(h:LieAt H g c){a:Addr}(s:a∈g):∃q∈c,H a=some (.tup [.int q.1,.int q.2]):=by
 obtain⟨i,l,e⟩:=Qz s;have o:i<c.length:=by rw[<- h.1];exact l
 obtain⟨b,e1,e2⟩:=h.2 i _ (qg o);rw[qg l,e] at e1;cases e1;exact⟨_,xB o,e2⟩
theorem zll{ps:List (Int×Int)}{x0 y:Int}(s:ps.length<=1000):¬∀j:Nat,j<ps.length+1->((x0+j) % 1001,y)∈ps:=fun h=>by
 have o:((List.range (ps.length+1)).map fun(j:Nat)=>((x0+j) % 1001,y)).Nodup:=by
  rw[List.Nodup,wO];refine(Zt (n:=ps.length+1)).imp_of_mem fun {i j} g c ne z=>ne ?_
  have g:=qt.mp g;have c:=qt.mp c;have z:=(Prod.mk.inj z).1;omega
 have:=zh5 o (ys:=ps) fun z l=>by
  obtain⟨j,c,rfl⟩:=qr.mp l;exact h j (qt.mp c)
 rw[zv,zV] at this;omega
inductive X7(K:W.Frag)(l:List V)(H:Hp)(Q:VK):Prop
 | mk (b t:Addr) (n:Int) (g:List Addr) (_:l=[.ref b,.ref t]) (_:BoxAt H b n) (_:n<1099511627000) (_:t≠b) (_:H t=some (.lst (g.map V.ref))) (_:g.length<=1000) (_:(∀a∈g,PlA H a)) (_:∀(p:Addr) c,SameB b H c->BoxAt c b (n+3)->H p=none->PlA c p->(∀a∈g,c p≠H a)->Q (.ref p) c):X7 K l H Q
def ZF(K:W.Frag):Sp:=fun c H Q _=>X7 K c H Q
theorem zbY:zE ["_law_box_here","_law_taken","_law_most","_law_x","_law_y","_law_turn"] ["_law_box_here","_law_taken"] (zy (topL 51)):=u0
theorem zfb{f:Addr}{fd:FuncData}(F:Fun K "_law_place" "_law_place" (topL 51) f fd)(B:Blt I)(g:Dfn P w K I G "_law_take" 1 ["_law_box_here","_law_size"] yc):qA P w K I G CX0 2 f fd ["_law_box_here","_law_taken"] (ZF K):=by
 have nd:=zbY.nd;refine F.ok zbY 0#d (fun a5 A a4 s H vs Q E hr h=>?_)
 ·obtain⟨b,t,n,as,rfl,_⟩:=h
  rfl
 ·obtain⟨b,t,n,as,rfl,B0,hn,a1,ht,a6,pa,k⟩:=h
  have a0:=hr.units;have U:=bGe;obtain⟨u,L⟩:=zfs pa;have pl:=L.1;have el:(as.map V.ref).length=as.length:=zv ..;refine⟨_,(zg (zF (i:=2) nd rfl 0#a (yg (qC xQ (zi g hr.m rfl 0#p) zj (z7 _)) zj zj))
   (zg (JJ (i:=3) (j:=4) rfl nd rfl rfl (by decide) rfl rfl (za (zi g hr.m rfl (za (pv 0) (za (pv 2) zb))) (za (zi g hr.m rfl (za (pv 0) (za (pv 2) zb))) zb)) (by rfl))
   (zg (qM ju rfl (qX rfl B.range (za (zK qx (zw zR rfl B.len boot_len 0#s) zj) zb)) (zB (i:=5) nd rfl 0#a)
   (zp (je (qC (ziV rfl a0) (jB (za (pv 3) (za (pv 4) zb))) (pv 1) (by with_unfolding_all rfl))
    (zp (zF (i:=3) nd rfl 0#a (zK xI (zK qx (pv 3) zj) zj)))
    qe)))
   (zp (zA (jB (za (pv 3) (za (pv 4) zb)))))))),?_⟩
  refine⟨_,rfl,b,4,n,rfl,B0,by omega,by decide,by decide,fun r H1 r0 r1 B1 S1=>⟨rfl,_,rfl,ym (fun c=>?_) (fun c=>?_)⟩⟩
  all_goals
   refine⟨_,rfl,_,rfl,b,_,n+1,rfl,B1,by omega,by decide,by decide,fun x H2 x0 x1 B2 S2=>⟨_,rfl,_,rfl,b,_,n+1+1,rfl,B2,by omega,by decide,by decide,fun y H3 y0 y1 B3 S3=>⟨_,_,rfl,?_⟩⟩⟩
   have S4:=S1.trans (S2.trans S3);have a3:=S4 t _ ht a1;refine⟨_,rfl,t,_,rfl,.inl (u4 a3),_,_,rfl,rfl,_,rfl,(by rw[U,el];omega),(by rw[U,el];omega),?_⟩
   have xb:x<=1000:=by omega
   refine jC (fun i σ T=>Ex3 fun(v2 v5:Option V) (z:Int)=>An6 (σ=[some (.ref b),some (.ref t),v2,some (.int z),some (.int y),v5]) (0<=z) (z<=1000) (SameB b H T) (BoxAt T b (n+1+1+1)) (((z,y)∉u\/(z=(x+i) % 1001/\∀j:Nat,j<i->((x+j) % 1001,y)∈u)))) ⟨_,none,x,rfl,x0,xb,S4,B3,.inr ⟨by show x=(x+((0:Nat):Int)) % 1001;omega,fun j hj=>absurd hj (xZ j)⟩⟩ ?_ ?_
   ·rintro i σ T _ ⟨v2,v5,z,rfl,M,N,D,O,J⟩
    refine⟨_,rfl,_,rfl,le2,fun p l=>⟨_,rfl,p,t,(z,y),_,u,rfl,rfl,u5 ze,u4 ((D.new l) t _ ht a1),(L.imp fun a o ha e=>?_).prs,_,rfl,ym (fun d=>?_) (fun d=>?_)⟩⟩
    ·obtain⟨cx,cy,hc,_⟩:=pa a ha
     exact(D.new l) a o e fun e2=>by
      obtain⟨w0,w1,w2,e3,_⟩:=id B0;rw[e2] at hc;rw[hc] at e3;cases e3
    ·have d:(z,y)∈u:=jy d
     refine⟨_,rfl,_,_,rfl,rfl,_,_,rfl,rfl,(by show(0:Int)<1001;decide),_,_,_,rfl,yw _ (by decide),by have:=yB (z+1) (by decide:(0:Int)<1001);omega,D.new l,O.new l,.inr ?_⟩
     rcases J with J | ⟨e,hj⟩
     ·exact absurd d J
     ·refine⟨by rw[e];omega,fun j a2=>?_⟩
      by_cases q:j=i
      ·rw[q,<- e];exact d
      ·exact hj j (by omega)
    ·have d:¬(z,y)∈u:=fun m=>d (zT m)
     exact⟨_,_,z,rfl,M,N,D.new l,O.new l,.inl d⟩
   ·rintro σ T ⟨v2,v5,z,rfl,M,N,D,O,J⟩
    have B6:BoxAt T b (n+3):=by
     have e:n+3=n+1+1+1:=by omega
     rw[e];exact O
    have Y:(z,y)∉u:=by
     rcases J with J | ⟨_,hj⟩
     ·exact J
     ·exact absurd (fun j a2=>hj j (by omega)) (zll (ps:=u) (x0:=x) (y:=y) (by omega))
    refine⟨_,rfl,_,rfl,le2,fun p l=>k p _ (D.new l) (B6.new l) (D.none l (O.nne l)) ⟨z,y,ze,M,N,y0,by omega⟩ fun a ha e=>?_⟩
    obtain⟨q,hq,e2⟩:=L.mem ha;rw[ze,e2] at e;cases e;exact Y hq
inductive JA(s:List V)(H:Hp)(Q:VK):Prop
 | mk (b:Addr) (m n:Int) (_:s=[.ref b,.int m]) (_:BoxAt H b n) (_:n<1000000) (_:0<=m) (_:m<=100) (_:∀(l:Addr) (g:List Addr) c,SameB b H c->BoxAt c b (n+400)->l≠b->H l=none->c l=some (.lst (g.map V.ref))->(∀a∈g,PlA c a)->(g.length:Int)=m->(∃o,LieAt c g o/\o.Nodup)->Q (.ref l) c):JA  s H Q
def Yk:Sp:=fun c H Q _=>JA  c H Q
theorem Yv:zE ["_law_box_here","_law_many","_law_found","_law_k"] ["_law_box_here","_law_many"] (zy (topL 52)):=u0
def zcU(b:_)(m:_)(l:_)(H:_)(n:_):=fun(i:Nat) (σ:St) (c:Hp)=>(∃(g:List Addr) (s:Option V),σ=[some (.ref b),some (.int m),some (.ref l),s]/\SameB b H c/\BoxAt c b (n+3*i)/\c l=some (.lst (g.map V.ref))/\(∀a∈g,PlA c a)/\g.length=i/\∃o,LieAt c g o/\o.Nodup:Prop)
theorem zdt{f:Addr}{fd:FuncData}(F:Fun K "_law_places" "_law_places" (topL 52) f fd)(B:Blt I)(g:Dfn P w K I G "_law_place" 2 ["_law_box_here","_law_taken"] (ZF K)):qA P w K I G CX0 3 f fd ["_law_box_here","_law_many"] Yk:=by
 have nd:=Yv.nd;refine F.ok Yv 0#d (fun a3 A a1 s H vs Q E hr h=>?_)
 ·obtain⟨b,m,n,rfl,_⟩:=h
  rfl
 ·obtain⟨b,m,n,rfl,B0,hn,m0,m1,k⟩:=h
  have a2:=bG100000;have O:=bGe;refine⟨_,(zg (zF (i:=2) nd rfl 0#a (qQ zb))
   (zg (qM ju rfl (qX rfl B.range 0#s) (zB (i:=3) nd rfl 0#a)
   (zp (xK (yi wS ZW ZV j3 (pv 2) (za (zi g hr.m rfl (za (pv 0) (za (pv 2) zb))) zb)))))
   (zp (zA (pv 2))))),?_⟩
  refine⟨le0,fun l T=>?_⟩
  have nl:=B0.nne T;refine⟨_,rfl,_,rfl,(by rw[O];omega),(by rw[O];omega),?_⟩
  refine jC (zcU b m l H n) ⟨[],_,rfl,(u7 b H).new T,(B0.new T).mono (by omega),ze,(fun x h=>nomatch h),rfl,[],⟨rfl,fun i q e=>by cases e⟩,vq⟩ ?_ ?_
  ·rintro i σ H4 hi ⟨N,v3,rfl,S4,D,J,L,t,U,c,pn⟩
   refine⟨_,rfl,.inl ⟨rfl,_,u4 J⟩,_,rfl,_,rfl,b,l,_,N,rfl,D,by omega,nl,J,by omega,L,fun p Y M B5 pN pp pq=>⟨l,_,_,rfl,rfl,M l _ J nl,by rw[zv,t];omega,?_⟩⟩
   have L5:=M l _ J nl;have o:∀{a:Addr},PlA Y a->PlA (upd Y l (.lst (N.map V.ref++[.ref p]))) a:=fun {a} h=>by
    obtain⟨x,y,e,r⟩:=h;exact⟨x,y,by rw[zq (YD e L5 (by intro z;cases z))];exact e,r⟩
   obtain⟨px,py,pe,_⟩:=id pp;refine⟨N++[p],_,rfl,(S4.trans M).put T,(B5.other nl).mono (by omega),by rw[ze,zQ];rfl,fun a ha=>?_,by rw[qz,t];rfl,U++[(px,py)],⟨by rw[qz,qz,c.1];rfl,fun j q e=>?_⟩,y6.mpr ⟨pn,xA.mpr ⟨x5,vq⟩,fun u hu v hv e=>?_⟩⟩
   ·rcases ja.mp ha with q | q
    ·exact o ((L a q).draw D M)
    ·rw[zW.mp q];exact o pp
   ·have up:∀{a:Addr} {x y:Int},Y a=some (.tup [.int x,.int y])->upd Y l (.lst (N.map V.ref++[.ref p])) a=some (.tup [.int x,.int y]):=fun {a x y} e=>by
     rw[zq (YD e L5 (by intro z;cases z))];exact e
    by_cases lt:j<U.length
    ·rw[wv lt] at e
     obtain⟨a,e1,e2⟩:=c.2 j q e;obtain⟨cx,cy,e3,_⟩:=L a (qw e1);obtain⟨dx,dy,e4,_⟩:=(L a (qw e1)).draw D M;refine⟨a,by rw[wv (by rw[c.1];exact lt)];exact e1,up (M a _ e2 fun z=>?_)⟩
     obtain⟨w0,w1,w2,e5,_⟩:=id D;rw[z,e5] at e2;cases e2
    ·rw[vh (by omega)] at e
     have e0:j-U.length=0:=by
      have:=(zU.mp e).1;rw[za8] at this;omega
     rw[e0] at e;cases e;exact⟨p,by rw[vh (by rw[c.1];omega),c.1,e0];rfl,up pe⟩
   ·rw[zW.mp hv] at e
    obtain⟨i',a0,eu⟩:=Qz hu;obtain⟨a,e1,e2⟩:=c.2 i' _ (qg a0);refine pq a (qw e1) ?_
    rw[pe,e2,eu,e]
  ·rintro σ H4 ⟨N,v3,rfl,S4,D,J,L,t,U,c,pn⟩
   exact⟨_,rfl,k l N H4 S4 (D.mono (by omega)) nl T J L (by omega) ⟨U,c,pn⟩⟩
inductive Yg(K:W.Frag)(o:List V)(H:Hp)(Q:VK):Prop
 | mk (b a:Addr) (n:Int) (g:List V) (_:o=[.ref b,.ref a]) (_:BoxAt H b n) (_:n<1000000) (_:a≠b) (_:H a=some (.lst g)) (_:g.length<=1000) (_:∀(l:Addr) (s:List V) c,SameB b H c->BoxAt c b (n+g.length)->l≠b->H l=none->c l=some (.lst s)->s.Perm g->Q (.ref l) c):Yg K o H Q
def zai(K:W.Frag):Sp:=fun c H Q _=>Yg K c H Q
theorem zeC:zE ["_law_box_here","_law_some","_law_found","_law_one"] ["_law_box_here","_law_some"] (zy (topL 53)):=u0
def zcT(b:_)(a:_)(l:_)(H:_)(n:_)(g:List V):=fun(i:Nat) (σ:St) (c:Hp)=>(Ex2 fun(o:List V) (s:Option V)=>An6 (σ=[some (.ref b),some (.ref a),some (.ref l),s]) (SameB b H c) (BoxAt c b (n+i)) (c a=some (.lst g)) (c l=some (.lst o)) (o.Perm (g.take i)):Prop)
theorem zgK{f:Addr}{fd:FuncData}(F:Fun K "_law_shuffled" "_law_shuffled" (topL 53) f fd)(B:Blt I)(c:Dfn P w K I G "_law_take" 1 ["_law_box_here","_law_size"] yc):qA P w K I G CX0 2 f fd ["_law_box_here","_law_some"] (zai K):=by
 have nd:=zeC.nd;refine F.ok zeC 0#d (fun a2 A a0 s H vs Q E hr h=>?_)
 ·obtain⟨b,a,n,o,rfl,_⟩:=h
  rfl
 ·obtain⟨b,a,n,o,rfl,B0,hn,U,T,a3,k⟩:=h
  have a1:=bG100000;have O:=bGe;refine⟨_,(zg (zF (i:=2) nd rfl 0#a (qQ zb))
   (zg (qM ju rfl (jL (pv 1)) (zB (i:=3) nd rfl 0#a)
   (zp (xK (yi wS PySem.F.slot_list_insert PySem.F.type_list_insert zdy (pv 2) (za (zi c hr.m rfl (za (pv 0) (za (zK qx (zw zR rfl B.len boot_len (za (pv 2) zb)) zj) zb))) (za (pv 3) zb))))))
   (zp (zA (pv 2))))),?_⟩
  refine⟨le0,fun l g=>?_⟩
  have nl:=B0.nne g;have Y:a≠l:=zo T g;refine⟨_,rfl,a,rfl,⟨_,u4 ((zd g) _ _ T)⟩,wj (K:=K) (a:=a) (xs:=o) (zcT b a l H n o)
   ⟨[],_,rfl,(u7 b H).new g,(B0.new g).mono (by omega),(zd g) _ _ T,ze,.nil⟩ (fun i σ L _ ⟨_,_,_,_,_,h,_,_⟩=>u4 h) ?_ ?_⟩
  ·rintro i x σ L hx ⟨D,v3,rfl,M,J,A4,t,u⟩
   have hi:=(zU.mp hx).1;have yl:D.length=i:=by rw[u.length_eq,jv];omega
   refine⟨_,rfl,.inl ⟨rfl,_,u4 t⟩,_,rfl,_,rfl,l,_,rfl,.inl (u4 t),_,_,rfl,rfl,b,_,_,rfl,J,by omega,by omega,by omega,fun q H5 q0 q1 B5 N=>⟨_,rfl,?_⟩⟩
   refine⟨l,D,q,x,rfl,rfl,N l _ t nl,q0,by rw[O];omega,by omega,?_⟩
   refine⟨_,_,rfl,(M.trans N).put g,(B5.other nl).mono (by omega),by rw[zq Y];exact N a _ A4 U,ze,?_⟩
   have e1:o.take (i+1)=o.take i++[x]:=by
    obtain⟨h1,h2⟩:=zU.mp hx;rw[<- h2,ZX]
   rw[e1];refine List.perm_middle.trans ?_
   rw[List.take_append_drop];exact((List.Perm.cons x u).trans (zf0 x _).symm)
  ·rintro σ L ⟨D,v3,rfl,M,J,A4,t,u⟩
   rw[jX] at u;exact⟨_,rfl,k l D L M J nl g t u⟩
end
def SameT(H c:Hp):Prop:=∀a u,H a=some u->(∀g,u≠.lst g)->c a=some u
theorem SameT.trans{H g l:Hp}(a:SameT H g)(b:SameT g l):SameT H l:=fun c u e h=>b c u (a c u e h) h
theorem SameT.of{H c:Hp}(s:Same H c):SameT H c:=fun a u e _=>s a u e
theorem SameT.draw{H c:Hp}{b:Addr}{n:Int}(B:BoxAt H b n)(s:SameB b H c):SameT H c:=fun a u e h=>by
 obtain⟨l,o,t,g,_⟩:=B;exact s a u e (fun z=>by rw[z,g] at e;cases e;exact h _ rfl)
def ua:=@SameT.draw
theorem SameT.put{H:Hp}{l:Addr}{c g:List V}(h:H l=some (.lst c)):SameT H (upd H l (.lst g)):=fun a u e hu=>by
 rw[zq (fun z=>by rw[z,h] at e;cases e;exact hu _ rfl)];exact e
mutual
def Dat.imm:Dat->Bool
 | .lst _=>false
 | .tup c=>Dat.imms c
 | _=>true
def Dat.imms:List Dat->Bool
 | []=>true
 | d::c=>d.imm&&Dat.imms c
end
section
variable{P:Program}{w:World}{K:W.Frag}{I:Str->Option Value}{G:Heap}
theorem SqT.keep{H c:Hp}{a:Addr}{g:List V}(q:SqT K H a g)(s:SameT H c):SqT K c a g:=by
 rcases q with(q | ⟨o,q⟩) | q
 ·exact .inl (.inl (s a _ q (fun z h=>nomatch h)))
 ·exact .inl (.inr ⟨o,s a _ q (fun z h=>nomatch h)⟩)
 ·exact .inr q
mutual
theorem Rep.keep{H c:Hp}(s:SameT H c):∀{d:Dat} {v:V},d.imm=true->Rep K H d v->Rep K c d v
 | .non,_,_,h=>h
 | .bl _,_,_,h=>h
 | .int _,_,_,h=>h
 | .str _,_,_,h=>h
 | .lst _,_,i,_=>by cases i
 | .tup ds,_,i,h=>by
  obtain⟨a,g,e,q,r⟩:=h;exact⟨a,g,e,q.keep s,Reps.keep s (ds:=ds) i r⟩
theorem Reps.keep{H g:Hp}(s:SameT H g):∀{ds:List Dat} {l:List V},Dat.imms ds=true->Reps K H ds l->Reps K g ds l
 | [],_,_,h=>h
 | d::ds,_,i,h=>by
  obtain⟨x,r,e,o,t⟩:=h;have c:(d.imm&&Dat.imms ds)=true:=i;rw[jI] at c;exact⟨x,r,e,Rep.keep s c.1 o,Reps.keep s c.2 t⟩
end
theorem Reps.snoc{H:Hp}{d:Dat}{v:V}(h:Rep K H d v):∀{c:List Dat} {g:List V},Reps K H c g->Reps K H (c++[d]) (g++[v])
 | [],_,e=>by rw[show _=_ from e];exact⟨v,[],rfl,h,rfl⟩
 | _::_,_,e=>by
  obtain⟨x,r,e1,l,o⟩:=e;subst e1;exact⟨x,r++[v],rfl,l,Reps.snoc h o⟩
def ub:=@Reps.snoc
theorem wy{α β:Type}{f:α->β}{H E:List β}(h:H.Perm E):∀{g:List α},E=g.map f->∃o:List α,o.Perm g/\H=o.map f:=by
 induction h with
 | nil=>
  intro g e;have:g=[]:=by simpa using e.symm
  exact⟨[],by rw[this],rfl⟩
 | @cons x Q T p L=>
  intro g e;cases g with
  | nil=>simp at e
  | cons a B=>
   rw[jV] at e;injection e with e1 e2;obtain⟨o,u,A⟩:=L e2;exact⟨a::o,u.cons a,by rw[jV,<- A,<- e1]⟩
 | swap x y l=>
  intro g e;cases g with
  | nil=>simp at e
  | cons a B=>
   cases B with
   | nil=>simp at e
   | cons c D=>
    rw[jV,jV] at e;injection e with e1 e2;injection e2 with e2 J;exact⟨c::a::D,.swap a c D,by rw[jV,jV,<- e1,<- e2,<- J]⟩
 | trans p q s t=>
  intro g e;obtain⟨o,u,A⟩:=t e;obtain⟨O,M,N⟩:=s A;exact⟨O,M.trans u,N⟩
def vZ(p:Nat×Nat):Dat:=.tup [.int p.1,.int p.2]
def wI(c:List (Nat×Nat)):Dat:=.tup (c.map vZ)
theorem x8:∀(c:List (Nat×Nat)),Dat.imms (c.map vZ)=true
 | []=>rfl
 | p::c=>by
  show(Dat.imm (vZ p)&&Dat.imms (c.map vZ))=true;rw[x8 c];rfl
def ByOrd(c:List Nat)(g:List (Nat×Nat)):Prop:=∀p∈g,∃k l:Nat,k<l/\c[k]? =some p.1/\c[l]? =some p.2
theorem Reps.take{H:Hp}:∀(n:Nat) {c:List Dat} {g:List V},Reps K H c g->Reps K H (c.take n) (g.take n)
 | 0,_,_,_=>rfl
 | n+1,[],_,h=>by rw[show _=_ from h];exact rfl
 | n+1,d::c,_,h=>by
  obtain⟨x,r,e,l,o⟩:=h;subst e;exact⟨x,r.take n,rfl,l,Reps.take n o⟩
theorem Reps.app{H:Hp}:∀{c l:List Dat} {o s:List V},Reps K H c o->Reps K H l s->Reps K H (c++l) (o++s)
 | [],_,_,_,h,g=>by rw[show _=_ from h];exact g
 | d::c,_,_,_,h,g=>by
  obtain⟨x,r,e,t,u⟩:=h;subst e;exact⟨x,r++_,rfl,t,Reps.app u g⟩
inductive JB(K:W.Frag)(o:List V)(H:Hp)(Q:VK):Prop
 | mk (b:Addr) (m n:Int) (_:o=[.ref b,.int m]) (_:BoxAt H b n) (_:n<1000000) (_:0<=m) (_:m<=100) (_:∀(p:Addr) (l:List (Nat×Nat)) (c:List Nat) g,SameB b H g->BoxAt g b (n+800)->Rep K g (wI l) (.ref p)->c.Perm (List.range m.toNat)->ByOrd c l->l.length<=200->Q (.ref p) g):JB K o H Q
def Yr(K:W.Frag):Sp:=fun c H Q _=>JB K c H Q
theorem Yw:zE ["_law_box_here","_law_many","_law_order","_law_found","_law_turn","_law_k"] ["_law_box_here","_law_many"] (zy (topL 55)):=u0
theorem zkg{m r:Int}(h:0<=r)(c:r<4)(l:2<=m)(g:m<=100):∃z:Int,atI [V.int 1,V.int 4,V.int 13,V.int (2*m)] r=some (.int z)/\1<=z/\z<=200:=by
 have hc:r=0\/r=1\/r=2\/r=3:=by omega
 rcases hc with rfl | rfl | rfl | rfl
 ·exact⟨1,rfl,by omega,by omega⟩
 ·exact⟨4,rfl,by omega,by omega⟩
 ·exact⟨13,rfl,by omega,by omega⟩
 ·exact⟨2*m,rfl,by omega,by omega⟩
theorem ze2{ord:List Nat}{i:Int}(h:0<=i)(c:i<ord.length):∃x:Nat,atI (ord.map fun i:Nat=>V.int (i:Int)) i=some (.int (x:Int))/\ord[i.toNat]? =some x:=by
 obtain⟨v,e1,e2⟩:=Wo (xs:=ord.map fun i:Nat=>V.int (i:Int)) h (by rw[zv];exact c)
 rw[zY] at e2;obtain⟨x,hx,rfl⟩:=qH.mp e2;exact⟨x,e1,hx⟩
def zcS(b:_)(m:_)(o:_)(R:_)(H:_)(n:_)(g:_)(K:_):=fun(i:Nat) (σ:St) (c:Hp)=>(Ex4 fun(l:List (Nat×Nat)) (s:List V) (t u:Option V)=>An8 (σ=[some (.ref b),some (.int m),some (.ref o),some (.ref R),t,u]) (SameB b H c) (BoxAt c b (n+110+2*i)) (c o=some (.lst (g.map fun i:Nat=>V.int (i:Int)))) (c R=some (.lst s)) (Reps K c (l.map vZ) s) (ByOrd g l) (l.length=i):Prop)
theorem zdu{f:Addr}{fd:FuncData}(F:Fun K "_law_aheads" "_law_aheads" (topL 55) f fd)(B:Blt I)(g:Dfn P w K I G "_law_take" 1 ["_law_box_here","_law_size"] yc)(l:Dfn P w K I G "_law_shuffled" 2 ["_law_box_here","_law_some"] (zai K)):qA P w K I G CX0 3 f fd ["_law_box_here","_law_many"] (Yr K):=by
 have nd:=Yw.nd;refine F.ok Yw 0#d (fun ae A a8 s H vs Q E hr h=>?_)
 ·obtain⟨b,m,n,rfl,_⟩:=h
  rfl
 ·obtain⟨b,m,n,rfl,B0,hn,m0,m1,k⟩:=h
  have ac:=bG100000;have a3:=bGe;refine⟨_,(zg (JJ (i:=2) (j:=3) rfl nd rfl rfl (by decide) rfl rfl (za (zi l hr.m rfl (za (pv 0) (za (V3 rfl rfl B.list rfl B.range j5 0#s) zb))) (za (qQ zb) zb)) (by rfl))
   (zg (je (qC zcf (pv 1) zj (z7 _))
   (zp (zA (jB zb)))
   qe)
   (zg (qM ju rfl (qX rfl B.range (za (zi g hr.m rfl (za (pv 0) (za (zS qo (qQ (za zj (za zj (za zj (za (zK xW zj (pv 1)) zb))))) (zi g hr.m rfl 0#p) 0#c) zb))) zb)) (zB (i:=4) nd rfl 0#a)
   (zg (zF (i:=5) nd rfl 0#a (zi g hr.m rfl (za (pv 0) (za (zK vd (pv 1) zj) zb))))
    (zp (xK (yi wS ZW ZV j3 (pv 3) (za (jB (za (zS qo (pv 2) (pv 5) 0#c) (za (zS qo (pv 2) (zK qx (zK qx (pv 5) zj) (zi g hr.m rfl (za (pv 0) (za (zK vd (zK vd (pv 1) zj) (pv 5)) zb)))) 0#c) zb))) zb))))))
   (zp (zA (qO xf rfl B.tuple qZ (za (zK ze5 (pv 3) (xP Jg (pv 3) wx (xL (qO Vw rfl B.int ZT (za (qN xQ (zi g hr.m rfl 0#p) zj (z7 _)) zb))))) zb))))))),?_⟩
  refine⟨_,rfl,_,rfl,m,rfl,m0,by omega,fun l0 h0=>?_⟩
  have O:((List.range m.toNat).map fun i:Nat=>V.int (i:Int)).length=m.toNat:=by rw[zv,zV]
  refine⟨b,l0,n,_,rfl,B0.new h0,by omega,B0.nne h0,ze,by rw[O];omega,fun o ys H1 S1 B1 no oN ho pm=>⟨le0,fun R hR=>⟨_,_,rfl,?_⟩⟩⟩
  obtain⟨u,op,rfl⟩:=wy pm rfl;have ol:u.length=m.toNat:=by rw[op.length_eq,zV]
  rw[O] at B1;have U:=B1.nne hR;have oR:o≠R:=zo ho hR;have a2:=((u7 b H).new h0).trans S1;have RH:H R=none:=a2.none hR U;have S2:=a2.new (o:=.lst []) hR;have B2:=B1.new (o:=.lst []) hR;have O2:=(zd (o:=.lst []) hR) _ _ ho;have R2:upd H1 R (.lst []) R=some (.lst []):=ze;generalize upd H1 R (.lst [])=H2 at S2 B2 O2 R2;refine⟨_,rfl,_,_,rfl,rfl,_,rfl,ym (fun c=>?_) (fun c=>?_)⟩
  ·exact⟨le0,fun p hp=>k p [] u _ (S2.new hp) ((B2.new hp).mono (by omega)) ⟨p,[],rfl,u5 ze,rfl⟩ op (fun p h=>nomatch h) (qB _)⟩
  have m2:2<=m:=by
   have:¬m<2:=fun z=>c (zT z)
   omega
  refine⟨_,rfl,_,rfl,_,_,rfl,rfl,.inl ⟨by decide,by decide⟩,le4,fun l1 h1=>⟨_,rfl,b,4,_,rfl,B2.new h1,by omega,by decide,by decide,fun r H3 r0 r1 B3 S3=>?_⟩⟩
  have L3:=S3 l1 _ ze (B2.nne h1);obtain⟨z,ez,z0,z1⟩:=zkg r0 r1 m2 m1;refine⟨l1,_,_,_,rfl,rfl,u4 L3,ez,b,z,_,rfl,B3,by omega,by omega,by omega,fun cnt H4 c0 c1 B4 S4=>⟨_,rfl,(by rw[a3];omega),(by rw[a3];omega),?_⟩⟩
  have U4:=((u7 b H2).new h1).trans (S3.trans S4);have a5:=S2.trans U4;have O4:=U4 _ _ O2 no;have R4:=U4 _ _ R2 U;clear S2 B2 O2 R2 S3 S4 U4 L3 h1 B3;refine jC (zcS b m o R H n u K)
   ⟨[],[],_,_,rfl,a5,B4.mono (by omega),O4,R4,rfl,(fun p h=>nomatch h),rfl⟩ ?_ ?_
  ·rintro i σ H5 hi ⟨M,D,v4,v5,rfl,S5,B5,O5,R5,rp,bo,Y⟩
   have xl:D.length=i:=by rw[rp.len,zv,Y]
   refine⟨_,rfl,_,rfl,_,_,rfl,rfl,b,_,_,rfl,B5,by omega,by omega,by omega,fun kk H6 k0 k1 B6 J=>?_⟩
   have O6:=J _ _ O5 no;obtain⟨x1,a6,a9⟩:=ze2 (ord:=u) k0 (by omega)
   refine⟨_,rfl,.inl ⟨rfl,_,u4 (J _ _ R5 U)⟩,_,rfl,_,rfl,o,_,_,_,rfl,rfl,u4 O6,a6,?_⟩
   refine⟨_,rfl,_,rfl,_,_,rfl,rfl,_,rfl,_,rfl,_,_,rfl,rfl,_,rfl,_,_,rfl,rfl,b,_,_,rfl,B6,by omega,by omega,by omega,fun q H7 q0 q1 B7 S7=>⟨_,_,rfl,rfl,?_⟩⟩
   have O7:=S7 _ _ O6 no;have R7:=S7 _ _ (J _ _ R5 U) U;obtain⟨x2,a7,aa⟩:=ze2 (ord:=u) (i:=kk+1+q) (by omega) (by omega)
   refine⟨o,_,_,_,rfl,rfl,u4 O7,a7,le2,fun T N=>⟨R,D,.ref T,rfl,rfl,(zd N) _ _ R7,by omega,?_⟩⟩
   have R8:=(zd (o:=.tup [.int (x1:Int),.int (x2:Int)]) N) _ _ R7;have st:SameT H5 (upd (upd H7 T (.tup [.int (x1:Int),.int (x2:Int)])) R (.lst (D++[.ref T]))):=((ua B5 (J.trans S7)).trans (.of (zd N))).trans (.put R8);refine⟨M++[(x1,x2)],_,_,_,rfl,(((S5.trans J).trans S7).new N).put RH,((B7.new N).other U).mono (by omega),by rw[zq oR];exact(zd N) _ _ O7,ze,?_,fun pq a1=>?_,by rw[qz,Y];rfl⟩
   ·rw[zQ]
    refine ub ?_ (Reps.keep st (x8 M) rp)
    refine⟨T,_,rfl,u5 ?_,_,_,rfl,rfl,_,_,rfl,rfl,rfl⟩
    rw[zq (fun zz=>by rw[zz,R7] at N;cases N)]
    exact ze
   ·rcases ja.mp a1 with w1 | w1
    ·exact bo pq w1
    ·rw[zW.mp w1]
     exact⟨kk.toNat,(kk+1+q).toNat,by omega,a9,aa⟩
  ·rintro σ H5 ⟨M,D,v4,v5,rfl,S5,B5,O5,R5,rp,bo,Y⟩
   have xl:D.length=M.length:=by rw[rp.len,zv]
   refine⟨_,rfl,_,rfl,_,rfl,b,4,_,rfl,B5,by omega,by decide,by decide,fun r9 H6 af ag B6 J=>⟨rfl,.inr ⟨_,rfl,_,rfl,R,D,rfl,u4 (J _ _ R5 U),fun s1 L=>?_⟩⟩⟩
   have R6:=J _ _ R5 U;obtain⟨t,et⟩:∃t:Nat,jF D none (some (if decide (V.int r9=V.int 0)=true then(1:Int) else 0))=D.take t/\t<=1:=by
    unfold jF;by_cases hd:decide (V.int r9=V.int 0)=true
    ·rw[zu hd,show(some (1:Int))=some ((1:Nat):Int) from rfl,HT.sIx_nat,HT.sIx_none]
     refine⟨min 1 D.length,by simp,by omega⟩
    ·rw[zk hd,show(some (0:Int))=some ((0:Nat):Int) from rfl,HT.sIx_nat,HT.sIx_none]
     refine⟨0,by simp,by omega⟩
   rw[et.1];have st:SameT H5 H6:=.draw B5 J;have ab:=Reps.keep st (x8 M) rp;have tl:(D.take t).length<=1:=by rw[jv];omega
   refine⟨R,s1,_,_,rfl,rfl,(zd L) _ _ R6,ze,by omega,fun c1 a0=>⟨c1,_,rfl,.inl ⟨u4 ze,fun p hp=>?_⟩⟩⟩
   have sm:=((zd (o:=.lst (D.take t)) L).trans (zd (o:=.lst (D++D.take t)) a0)).trans (zd (o:=.tup (D++D.take t)) hp);refine k p (M++M.take t) u _ ((((S5.trans J).new L).new a0).new hp) ((((B6.new L).new a0).new hp).mono (by omega)) ⟨p,_,rfl,u5 ze,?_⟩ op (fun pq a1=>?_) (by rw[qz,jv];omega)
   ·have a4:=Reps.keep (SameT.of sm) (x8 M) ab
    have rt:=Reps.take t a4;rw[<- List.map_take] at rt;have:=Reps.app a4 rt;rw[<- zQ] at this;exact this
   ·rcases ja.mp a1 with w1 | w1
    ·exact bo pq w1
    ·exact bo pq (za6 w1)
structure wZ where
 k:Str
 x:Int
 y:Int
structure wJ where
 k:Str
 x:Int
 y:Int
 m:Int
def jR(p:wZ):Dat:=.tup [.str p.k,.tup [.int p.x,.int p.y]]
def jS(p:wJ):Dat:=.tup [.str p.k,.tup [.int p.x,.int p.y],.int p.m]
theorem wm:∀(c:List wJ),Dat.imms (c.map jS)=true
 | []=>rfl
 | p::c=>by
  show(Dat.imm (jS p)&&Dat.imms (c.map jS))=true;rw[wm c];rfl
theorem xH:∀(c:List wZ),Dat.imms (c.map jR)=true
 | []=>rfl
 | p::c=>by
  show(Dat.imm (jR p)&&Dat.imms (c.map jR))=true;rw[xH c];rfl
def inP(x y:Int):Prop:=0<=x/\x<=1000/\0<=y/\y<=1000
inductive Yp(K:W.Frag)(u:List V)(H:Hp)(Q:VK):Prop
 | mk (b o t:Addr) (A:Bool) (n:Int) (c:List Str) (g:List wZ) (_:u=[.ref b,.ref o,.ref t,.bl A]) (_:BoxAt H b n) (_:n<900000) (_:o≠b) (_:Row H o c) (_:1<=c.length) (_:c.length<=12) (_:Rep K H (.tup (g.map jR)) (.ref t)) (_:g.length<=100) (_:∀(p:Addr) (fs:List wJ) (s:List Str) l,SameB b H l->BoxAt l b (n+400)->Rep K l (.tup (fs.map jS)) (.ref p)->(fs.map (·.k)).Perm (c++s)->(∀e∈s,e∈c)->fs.length<=20->(∀f∈fs,Nm f.k/\inP f.x f.y/\0<=f.m/\f.m<=400)->Q (.ref p) l):Yp K u H Q
def zer(K:W.Frag):Sp:=fun c H Q _=>Yp K c H Q
theorem zeH:zE ["_law_box_here","_law_kinds_here","_law_parts","_law_plenty","_law_great","_law_more","_law_some","_law_found","_law_kind","_law_need","_law_many"] ["_law_box_here","_law_kinds_here","_law_parts","_law_plenty"] (zy (topL 54)):=u0
theorem zeh{ns:List Str}{i:Int}(h:0<=i)(c:i<ns.length):∃x,atI (ns.map V.str) i=some (.str x)/\x∈ns:=by
 obtain⟨v,e1,e2⟩:=Wo (xs:=ns.map V.str) h (by rw[zv];exact c)
 rw[zY] at e2;obtain⟨x,hx,rfl⟩:=qH.mp e2;exact⟨x,e1,qw hx⟩
theorem zkf{a c r:Int}(h:0<=r)(t:r<3)(g:0<=a)(l:a<=400)(o:0<=c)(s:c<=400):∃z:Int,atI [V.int a,V.int c,V.int 400] r=some (.int z)/\0<=z/\z<=400:=by
 have hc:r=0\/r=1\/r=2:=by omega
 rcases hc with rfl | rfl | rfl
 ·exact⟨a,rfl,g,l⟩
 ·exact⟨c,rfl,o,s⟩
 ·exact⟨400,rfl,by omega,by omega⟩
theorem zgP{f:Addr}{fd:FuncData}(F:Fun K "_law_feeders" "_law_feeders" (topL 54) f fd)(B:Blt I)(u:Dfn P w K I G "_law_take" 1 ["_law_box_here","_law_size"] yc)(N:Dfn P w K I G "_law_shuffled" 2 ["_law_box_here","_law_some"] (zai K))(U:Dfn P w K I G "_law_place" 2 ["_law_box_here","_law_taken"] (ZF K)):qA P w K I G CX0 3 f fd ["_law_box_here","_law_kinds_here","_law_parts","_law_plenty"] (zer K):=by
 have nd:=zeH.nd;refine F.ok zeH 0#d (fun ax A ar s H vs Q E hr h=>?_)
 ·obtain⟨b,ks,ps,pl,n,t,M,rfl,_⟩:=h
  rfl
 ·obtain⟨b,ks,ps,pl,n,t,M,rfl,B0,hn,nk,Rk,k0,k1,hp,lp,k⟩:=h
  have aw:=bG100000;have aj:=bGe;have ek:(t.map V.str).length=t.length:=zv ..;refine⟨_,(zg (zF (i:=4) nd rfl 0#a (qN xQ (zi u hr.m rfl 0#p) zj (z7 _)))
   (zg (VX (zF (i:=5) nd rfl 0#a (zi u hr.m rfl (za (pv 0) (za (yg (qL (pv 4)) (zK vd zj (zw zR rfl B.len boot_len 0#s)) zj) zb)))))
   (zg (zF (i:=6) nd rfl 0#a (zK ze5 (pv 1) (jQ ["_law_kinds_here","_law_box_here"] [1,0] rfl rfl (by kernel_rfl) (qX rfl B.range (za (pv 5) zb)) 0#k (fun _ _ _ _=>(zS (wb (K:=K) rfl) (pv 1) (zi u hr.m rfl (za (pv 2) (za (zw (vS (K:=K) rfl) rfl B.len boot_len 0#s) zb))) 0#c)))))
   (zg (zF (i:=7) nd rfl 0#a (qQ zb))
   (zg (qM ju rfl (jL (zi N hr.m rfl (za (pv 0) (za (pv 6) zb)))) (zB (i:=8) nd rfl 0#m)
   (zg (zF (i:=9) nd rfl 0#a (zw zR rfl B.len boot_len (za (jQ ["_law_kind"] [8] rfl rfl (by kernel_rfl) (xm (pv 2)) (fun _ _ _ _=>(JL (qC xQ (zS (vC (K:=K) rfl) (pv 0) zj 0#c) (pv 1) (z7 _)))) (fun _ _ _ _=>(pv 0))) zb)))
    (zg (VX (zF (i:=10) nd rfl 0#a (yg (qL (pv 3)) (zS qo (qQ (za (pv 9) (za (zK qx (pv 9) (zi u hr.m rfl 0#p)) (za zj zb)))) (zi u hr.m rfl 0#p) 0#c) (zi u hr.m rfl 0#p))))
    (zp (xK (yi wS ZW ZV j3 (pv 7) (za (jB (za (pv 8) (za (zi U hr.m rfl (za (pv 0) (za (qQ zb) zb))) (za (pv 10) zb)))) zb)))))))
   (zp (zA (qO xf rfl B.tuple qZ (za (pv 7) zb))))))))),?_⟩
  refine⟨_,rfl,b,8,n,rfl,B0,by omega,by decide,by decide,fun r H1 r0 r1 B1 S1=>⟨rfl,?_⟩⟩
  have af:=Rk.draw S1 nk;refine⟨fun σ' H'=>Ex1 fun(more:Int)=>An6 (σ'=[some (.ref b),some (.ref ks),some (.ref ps),some (.bl pl),some (.bl (decide (V.int r=V.int 0))),some (.int more),none,none,none,none,none]) (0<=more) (more<=20) ((t.length:Int)+more<=20) (SameB b H H') (BoxAt H' b (n+2)),?_,?_⟩
  ·refine⟨_,rfl,_,rfl,_,rfl,ym (fun c=>?_) (fun c=>?_)⟩
   ·exact⟨_,rfl,ks,_,rfl,.inl (u4 af.1),_,_,rfl,rfl,b,_,_,rfl,B1,by omega,by omega,by omega,fun more H2 a0 a1 B2 S2=>⟨_,rfl,a0,by omega,by omega,S1.trans S2,B2.mono (by omega)⟩⟩
   ·exact⟨b,4,_,rfl,B1,by omega,by decide,by decide,fun more H2 a0 a1 B2 S2=>⟨_,rfl,a0,by omega,by omega,S1.trans S2,B2.mono (by omega)⟩⟩
  rintro σ' H2 ⟨more,rfl,az,b0,b5,S2,B2⟩;clear S1 B1 af;have a3:=Rk.draw S2 nk;refine⟨_,rfl,_,rfl,_,rfl,(by rw[aj];omega),(by rw[aj];omega),YN (fun j O H3=>Ex1 fun(L:List Str)=>An5 (O=L.map V.str) (L.length=j) ((∀x∈L,x∈t)) (SameB b H2 H3) (BoxAt H3 b (n+2+j))) ⟨[],rfl,rfl,(fun x h=>nomatch h),u7 _ _,B2.mono (by omega)⟩ ?_ ?_⟩
  ·rintro j O H3 hj ⟨L,rfl,el,ee,S3,B3⟩
   refine⟨rfl,⟨_,rfl,_,rfl,_,rfl,ks,_,rfl,.inl (u4 (a3.draw S3 nk).1),b,_,_,rfl,B3,by omega,by omega,by omega,fun q H4 q0 q1 B4 S4=>?_⟩⟩
   obtain⟨y,ey,my⟩:=zeh (ns:=t) q0 (by omega)
   refine⟨ks,_,_,_,rfl,rfl,u4 (a3.draw (S3.trans S4) nk).1,ey,by rw[zv,el];omega,L++[y],by rw[zQ];rfl,by rw[qz,el];rfl,fun x hx=>?_,S3.trans S4,B4.mono (by omega)⟩
   rcases ja.mp hx with pq | pq
   ·exact ee x pq
   ·rw[zW.mp pq];exact my
  rintro O H3 ⟨L,rfl,el,ee,S3,B3⟩;refine⟨by rw[zv,el];omega,fun D hD=>?_⟩
  have ah:=(S2.trans S3).new (o:=.lst (L.map V.str)) hD;have ag:=(a3.draw S3 nk).same (zd (o:=.lst (L.map V.str)) hD);refine⟨ks,D,_,_,rfl,rfl,ag.1,ze,by rw[ek,zv,el];omega,fun sm hs=>?_⟩
  have B4:=(B3.new (o:=.lst (L.map V.str)) hD).new (o:=.lst (t.map V.str++L.map V.str)) hs;have S4:=ah.new (o:=.lst (t.map V.str++L.map V.str)) hs;have ns:=(B3.new (o:=.lst (L.map V.str)) hD).nne hs;have M4:upd (upd H3 D (.lst (L.map V.str))) sm (.lst (t.map V.str++L.map V.str)) sm=some (.lst ((t++L).map V.str)):=by rw[ze,zQ]
  generalize upd (upd H3 D (.lst (L.map V.str))) sm (.lst (t.map V.str++L.map V.str))=H4 at B4 S4 M4;clear S2 S3 ah a3 ag B2 B3 hD hs;refine⟨le0,fun R hR=>?_⟩
  have nR:=B4.nne hR;have RH:H R=none:=S4.none hR nR;have a4:((t++L).map V.str).length<=20:=by rw[zv,qz,el];omega
  refine⟨_,rfl,_,rfl,b,sm,_,_,rfl,B4.new hR,by omega,ns,(zd hR) _ _ M4,by omega,fun l ys H5 S5 B5 nl lN hl pm=>?_⟩
  obtain⟨sh,aa,rfl⟩:=wy pm rfl;have an:=(S4.new (o:=.lst []) hR).trans S5;have R5:H5 R=some (.lst []):=S5 _ _ ze nR;have lR:l≠R:=fun z=>by rw[z,ze] at lN;cases lN
  have b9:sh.length<=20:=by rw[aa.length_eq];rw[zv] at a4;exact a4
  have av:∀x∈sh,Nm x:=fun x hx=>by
   rcases ja.mp (aa.mem_iff.mp hx) with q | q
   ·exact Rk.2 x q
   ·exact Rk.2 x (ee x q)
  clear pm M4 S4 S5 B4 hR;refine⟨l,rfl,⟨_,u4 hl⟩,wj (K:=K) (a:=l) (xs:=sh.map V.str) (fun i σ H6=>Ex6 fun(fs:List wJ) (xs:List V) (v6 v8 v9 ab:Option V)=>An8 (σ=[some (.ref b),some (.ref ks),some (.ref ps),some (.bl pl),some (.bl (decide (V.int r=V.int 0))),some (.int more),v6,some (.ref R),v8,v9,ab]) (SameB b H H6) (BoxAt H6 b (n+60+6*i)) (H6 l=some (.lst (sh.map V.str))) (H6 R=some (.lst xs)) (Reps K H6 (fs.map jS) xs) (fs.map (·.k)=sh.take i) (∀f∈fs,Nm f.k/\inP f.x f.y/\0<=f.m/\f.m<=400))
   ⟨[],[],_,_,_,_,rfl,an,B5.mono (by omega),hl,R5,rfl,rfl,(fun f h=>nomatch h)⟩ (fun i σ H6 _ ⟨_,_,_,_,_,_,_,_,_,h,_,_,_,_⟩=>u4 h) ?_ ?_⟩
  ·rintro i x σ H6 hx ⟨fs,xs,v6,v8,v9,ab,rfl,S6,B6,L6,R6,rp,fk,fa⟩
   rw[zY] at hx;obtain⟨kd,a8,rfl⟩:=qH.mp hx;have hi:=(zU.mp a8).1;have fl:fs.length=i:=by
    have:=congrArg List.length fk;rw[zv,jv] at this;omega
   have xl:xs.length=i:=by rw[rp.len,zv,fl]
   have aq:=Rep.keep (d:=.tup (M.map jR)) (ua B0 S6) (xH M) hp;obtain⟨_,al,ep,hq,ak⟩:=aq;cases ep;have b6:al.length=M.length:=by rw[ak.len,zv]
   refine⟨_,rfl,ps,rfl,⟨_,hq⟩,vQ (K:=K) (a:=ps) (xs:=al) (fun j O H7=>O.length<=j/\Same H6 H7) ⟨zD _,u6 _⟩ (fun j O H7 ⟨_,s7⟩=>s7.sqT hq) ?_ ?_⟩
   ·rintro j v O H7 hv ⟨zl,s7⟩
    have hj:=(zU.mp hv).1;obtain⟨d,hd,rd⟩:=ak.get hv;rw[zY] at hd;obtain⟨pt,_,rfl⟩:=qH.mp hd;obtain⟨c,ay,rfl,hc,u1,b8,e1,e2,e3⟩:=rd;subst e1;cases(show u1=.str pt.k from e2)
    refine⟨rfl,⟨_,rfl,c,_,_,.str pt.k,rfl,rfl,s7.sqT hc,jA (j:=0) rfl,_,rfl,rfl,_,rfl,ym (fun dd=>⟨_,rfl,by omega,by rw[qz];simp;omega,s7⟩) (fun dd=>⟨by omega,s7⟩)⟩⟩
   rintro O H7 ⟨zl,s7⟩;refine⟨by omega,fun D2 ao=>⟨D2,O,rfl,.inl (u4 ze),?_⟩⟩
   have s8:=s7.trans (zd (o:=.lst O) ao);have B8:=B6.same s8;generalize upd H7 D2 (.lst O)=H8 at s8 B8;refine⟨fun σ' H'=>Ex1 fun(J:Int)=>An5 (σ'=[some (.ref b),some (.ref ks),some (.ref ps),some (.bl pl),some (.bl (decide (V.int r=V.int 0))),some (.int more),v6,some (.ref R),some (.str kd),some (.int (O.length:Int)),some (.int J)]) (0<=J) (J<=400) (SameB b H8 H') (BoxAt H' b (n+60+6*i+2)),?_,?_⟩
   ·refine⟨_,rfl,_,rfl,ym (fun c=>?_) (fun c=>?_)⟩
    ·refine⟨_,rfl,_,rfl,_,rfl,b,9,_,rfl,B8,by omega,by decide,by decide,fun q9 H9 a0 a1 B9 S9=>⟨_,_,rfl,rfl,le3,fun l3 h3=>⟨_,rfl,b,3,_,rfl,B9.new h3,by omega,by decide,by decide,fun q3 ac c0 c1 a5 Y=>?_⟩⟩⟩
     have am:=Y l3 _ ze (B9.nne h3);obtain⟨z,ez,z0,z1⟩:=zkf (a:=(O.length:Int)) (c:=(O.length:Int)+q9) c0 c1 (by omega) (by omega) (by omega) (by omega)
     exact⟨l3,_,_,_,rfl,rfl,u4 am,ez,z,rfl,z0,z1,(S9.new h3).trans Y,a5.mono (by omega)⟩
    ·exact⟨_,rfl,b,4,_,rfl,B8,by omega,by decide,by decide,fun q9 H9 a0 a1 B9 S9=>⟨q9,rfl,a0,by omega,S9,B9.mono (by omega)⟩⟩
   rintro σ' H9 ⟨J,rfl,y0,y1,S9,B9⟩;have ai:=(SameB.of (b:=b) s8).trans S9;have R9:=ai _ _ R6 nR;refine⟨_,rfl,.inl ⟨rfl,_,u4 R9⟩,_,rfl,_,rfl,le0,fun e he=>⟨b,e,_,[],rfl,B9.new he,by omega,B9.nne he,ze,qB _,(fun a h=>nomatch h),fun pp ac Y a5 b7 pa _=>⟨_,rfl,le3,fun T hT=>?_⟩⟩⟩
   obtain⟨px,py,a2,b1,b2,b3,b4⟩:=pa;have a6:=Y _ _ ((zd he) _ _ R9) nR;have ae:=(zd (o:=.tup [.str kd,.ref pp,.int J]) hT) _ _ a6;refine⟨R,xs,.ref T,rfl,rfl,ae,by omega,?_⟩
   have a7:=(ai.new he).trans (Y.new (o:=.tup [.str kd,.ref pp,.int J]) hT);have st:SameT H6 (upd (upd ac T (.tup [.str kd,.ref pp,.int J])) R (.lst (xs++[.ref T]))):=(ua B6 a7).trans (.put ae);have TR:T≠R:=fun z=>by rw[z,a6] at hT;cases hT
   have as:pp≠R:=fun z=>by rw[z,a6] at a2;cases a2
   have au:pp≠T:=fun z=>by rw[z,hT] at a2;cases a2
   refine⟨fs++[⟨kd,px,py,J⟩],_,_,_,_,_,rfl,(S6.trans a7).put RH,((a5.new hT).other nR).mono (by omega),by rw[zq lR];exact a7 _ _ L6 nl,ze,?_,?_,fun g ap=>?_⟩
   ·rw[zQ]
    refine ub ?_ (Reps.keep st (wm fs) rp)
    refine⟨T,_,rfl,u5 (by rw[zq TR];exact ze),_,_,rfl,rfl,_,_,rfl,⟨pp,_,rfl,u5 (by rw[zq as,zq au];exact a2),_,_,rfl,rfl,_,_,rfl,rfl,rfl⟩,_,_,rfl,rfl,rfl⟩
   ·rw[zQ,fk]
    obtain⟨h1,h2⟩:=zU.mp a8;rw[<- ZX h1,h2];rfl
   ·rcases ja.mp ap with q | q
    ·exact fa g q
    ·rw[zW.mp q]
     exact⟨av kd (qw a8),⟨b1,b2,b3,b4⟩,y0,y1⟩
  ·rintro σ H6 ⟨fs,xs,v6,v8,v9,ab,rfl,S6,B6,L6,R6,rp,fk,fa⟩
   rw[zv,jX] at fk;have fl:fs.length<=20:=by
    have:=congrArg List.length fk;rw[zv] at this;omega
   refine⟨_,rfl,R,xs,rfl,.inl ⟨u4 R6,fun p a9=>?_⟩⟩
   refine k p fs L _ (S6.new a9) ((B6.new a9).mono (by rw[zv] at *;omega)) ⟨p,_,rfl,u5 ze,Reps.keep (SameT.of (zd a9)) (wm fs) rp⟩ (by rw[fk];exact aa) ee (by omega) fa
structure Job where
 gx:Int
 gy:Int
 hd:Int
 fs:List wJ
 ps:List wZ
 as:List (Nat×Nat)
def vR(J:Job):Dat:=.tup [.tup [.int J.gx,.int J.gy],.int J.hd,.tup (J.fs.map jS),.tup (J.ps.map jR),wI J.as]
theorem zfy(J:Job):(vR J).imm=true:=by
 show(true&&(true&&(Dat.imms (J.fs.map jS)&&(Dat.imms (J.ps.map jR)&&(Dat.imms (J.as.map vZ)&&true)))))=true;rw[wm,xH,x8];rfl
structure JobOk(J:Job)(ord:List Nat):Prop where
 gate:inP J.gx J.gy
 hd0:1<=J.hd
 hd1:J.hd<=4
 fl:J.fs.length<=20
 fa:∀f∈J.fs,Nm f.k/\inP f.x f.y/\0<=f.m/\f.m<=400
 pl:J.ps.length<=60
 pa:∀p∈J.ps,Nm p.k/\inP p.x p.y/\∃f∈J.fs,f.k=p.k
 op:ord.Perm (List.range J.ps.length)
 bo:ByOrd ord J.as
 al:J.as.length<=200
 f0:1<=J.fs.length
 pd:(J.ps.map fun p=>(p.x,p.y)).Nodup
 kc:∃ks:List Str,ks.length<=12/\∀p∈J.ps,p.k∈ks
theorem zgB{r:Int}(c:0<=r)(g:r<4):∃z:Int,atI [V.int 3,V.int 3,V.int 3,V.int 12] r=some (.int z)/\3<=z/\z<=12:=by
 have hc:r=0\/r=1\/r=2\/r=3:=by omega
 rcases hc with rfl | rfl | rfl | rfl
 ·exact⟨3,rfl,by decide,by decide⟩
 ·exact⟨3,rfl,by decide,by decide⟩
 ·exact⟨3,rfl,by decide,by decide⟩
 ·exact⟨12,rfl,by decide,by decide⟩
inductive zbN(K:W.Frag)(s:List V)(H:Hp)(Q:VK):Prop
 | mk (b:Addr) (g c n:Int) (t:Bool) (_:s=[.ref b,.int g,.int c,.bl t]) (_:BoxAt H b n) (_:n<500000) (_:0<=g) (_:g<=60) (_:0<=c) (_:c<=60) (_:∀(p:Addr) (J:Job) (o:List Nat) l,SameB b H l->BoxAt l b (n+3000)->Rep K l (vR J) (.ref p)->JobOk J o->Q (.ref p) l):zbN K s H Q
def zhE(K:W.Frag):Sp:=fun c H Q _=>zbN K c H Q
theorem zhU:zE ["_law_box_here","_law_few","_law_most","_law_plenty","_law_many","_law_kinds_here","_law_parts","_law_feeders_here"] ["_law_box_here","_law_few","_law_most","_law_plenty"] (zy (topL 56)):=u0
def zcR(b:_)(g:_)(c:_)(o:_)(H:_)(n:_):=fun(s:St) (l:Hp)=>(Ex1 fun(m:Int)=>An5 (s=[some (.ref b),some (.int g),some (.int c),some (.bl o),some (.int m),none,none,none]) (0<=m) (m<=60) (SameB b H l) (BoxAt l b (n+2)):Prop)
theorem zi6{f:Addr}{fd:FuncData}(F:Fun K "_law_job" "_law_job" (topL 56) f fd)(B:Blt I)(g:Dfn P w K I G "_law_take" 1 ["_law_box_here","_law_size"] yc)(Y:Dfn P w K I G "_law_names" 3 ["_law_box_here","_law_many"] zbJ)(a2:Dfn P w K I G "_law_place" 2 ["_law_box_here","_law_taken"] (ZF K))(N:Dfn P w K I G "_law_places" 3 ["_law_box_here","_law_many"] Yk)
  (L:Dfn P w K I G "_law_feeders" 3 ["_law_box_here","_law_kinds_here","_law_parts","_law_plenty"] (zer K)) (M:Dfn P w K I G "_law_aheads" 3 ["_law_box_here","_law_many"] (Yr K)):qA P w K I G CX0 4 f fd ["_law_box_here","_law_few","_law_most","_law_plenty"] (zhE K):=by
 have nd:=zhU.nd;refine F.ok zhU 0#d (fun bb A b5 s H vs Q E hr h=>?_)
 ·obtain⟨b,ag,a6,n,pl,rfl,_⟩:=h
  rfl
 ·obtain⟨b,ag,a6,n,pl,rfl,B0,hn,f0,f1,bc,bd,k⟩:=h
  have b9:=bG100000;refine⟨_,(zg (VX (zF (i:=4) nd rfl 0#a (zi g hr.m rfl (za (pv 0) (za (zK qx (yg (qC zh3 (zi g hr.m rfl 0#p) zj (z7 _)) (pv 1) (pv 2)) zj) zb)))))
   (zg (zF (i:=5) nd rfl 0#m (zi Y hr.m rfl (za (pv 0) (za (zK qx zj (zi g hr.m rfl (za (pv 0) (za (zS qo (qQ (za zj (za zj (za zj (za zj zb))))) (zi g hr.m rfl 0#p) 0#c) zb)))) zb))))
   (zg (zF (i:=6) nd rfl 0#a (qO xf rfl B.tuple qZ (za (jQ ["_law_kinds_here","_law_box_here"] [5,0] rfl rfl (by kernel_rfl) (jL (zi N hr.m rfl (za (pv 0) (za (pv 4) zb)))) 0#k (fun _ _ _ _=>(jB (za (zS (wb (K:=K) rfl) (pv 1) (zi g hr.m rfl (za (pv 2) (za (zw (vS (K:=K) rfl) rfl B.len boot_len 0#s) zb))) 0#c) 0#t)))) zb)))
   (zg (zF (i:=7) nd rfl 0#a (zi L hr.m rfl (za (pv 0) (za (pv 5) (za (pv 6) (za (pv 3) zb))))))
   (zp (zA (jB (pa5 (zi a2 hr.m rfl (za (pv 0) (za (qQ zb) zb))) (zK qx zj (zi g hr.m rfl 0#p)) (pv 7) (pv 6) (zi M hr.m rfl (za (pv 0) (za (pv 4) zb))))))))))),?_⟩
  refine⟨zcR b ag a6 pl H n,?_,?_⟩
  ·refine⟨_,rfl,_,rfl,b,8,n,rfl,B0,by omega,by decide,by decide,fun r H1 r0 r1 B1 S1=>⟨_,_,rfl,rfl,_,rfl,ym (fun c=>⟨_,rfl,_,_,rfl,rfl,?_⟩) (fun c=>⟨_,rfl,_,_,rfl,rfl,?_⟩)⟩⟩
   ·exact⟨b,_,_,rfl,B1,by omega,by omega,by omega,fun m H2 a0 a1 B2 S2=>⟨m,rfl,a0,by omega,S1.trans S2,B2.mono (by omega)⟩⟩
   ·exact⟨b,_,_,rfl,B1,by omega,by omega,by omega,fun m H2 a0 a1 B2 S2=>⟨m,rfl,a0,by omega,S1.trans S2,B2.mono (by omega)⟩⟩
  rintro σ' H2 ⟨m,rfl,m0,m1,S2,B2⟩;refine⟨_,rfl,_,rfl,le4,fun l1 h1=>⟨_,rfl,b,4,_,rfl,B2.new h1,by omega,by decide,by decide,fun r H3 r0 r1 B3 S3=>?_⟩⟩
  have L3:=S3 l1 _ ze (B2.nne h1);obtain⟨z,ez,z0,z1⟩:=zgB r0 r1;refine⟨l1,_,_,_,rfl,rfl,u4 L3,ez,b,z,_,rfl,B3,by omega,by omega,by omega,fun q H4 q0 q1 B4 S4=>⟨_,_,rfl,rfl,b,1+q,_,rfl,B4,by omega,by omega,by omega,fun ks u H5 S5 B5 nk kN Rk kl=>?_⟩⟩
  have af:=(((S2.new h1).trans S3).trans S4).trans S5;have ek:(u.map V.str).length=u.length:=zv ..;clear S2 S3 S4 S5 B2 B3 B4 L3 h1;refine⟨_,rfl,_,rfl,b,m,_,rfl,B5,by omega,m0,by omega,fun l as H6 S6 B6 nl lN hl pa al ⟨O,ak,b0⟩=>?_⟩
  have a5:=Rk.draw S6 nk;refine⟨l,rfl,⟨_,u4 hl⟩,xw (K:=K) (a:=l) (xs:=as.map V.ref) (fun j U H7=>Ex1 fun(J:List wZ)=>An6 (Reps K H7 (J.map jR) U) (J.length=j) ((∀q∈J,q.k∈u/\inP q.x q.y)) (SameB b H6 H7) (BoxAt H7 b (n+700+j)) ((J.map fun q=>(q.x,q.y))=O.take j)) ⟨[],rfl,rfl,(fun x h=>nomatch h),u7 _ _,B6.mono (by omega),rfl⟩ (fun j U H7 ⟨_,_,_,_,s7,_,_⟩=>u4 (s7 _ _ hl nl)) ?_ ?_⟩
  ·rintro j x U H7 hx ⟨J,rq,ql,qa,S7,B7,qd⟩
   rw[zY] at hx;obtain⟨a,ha,rfl⟩:=qH.mp hx;have hj:=(zU.mp ha).1;have zl:U.length=j:=by rw[rq.len,zv,ql]
   refine⟨rfl,⟨_,rfl,_,rfl,_,rfl,ks,_,rfl,.inl (u4 (a5.draw S7 nk).1),b,_,_,rfl,B7,by omega,by omega,by omega,fun q H8 c0 c1 B8 S8=>?_⟩⟩
   obtain⟨y,ey,my⟩:=zeh (ns:=u) c0 (by omega)
   obtain⟨px,py,ai,b1,b2,b3,b4⟩:=(pa a (qw ha)).draw B6 (S7.trans S8);have ah:j<O.length:=by rw[<- ak.1];exact hj
   obtain⟨a',e1,e2⟩:=ak.2 j _ (qg ah);rw[ha] at e1;cases e1;have e3:=(S7.trans S8) a _ e2 fun z=>by
    obtain⟨w0,w1,w2,e5,_⟩:=id B6;rw[z,e5] at e2;cases e2
   rw[ai] at e3;cases e3;refine⟨ks,_,_,_,rfl,rfl,u4 (a5.draw (S7.trans S8) nk).1,ey,_,rfl,le2,fun T hT=>⟨by omega,J++[⟨y,O[j].1,O[j].2⟩],?_,by rw[qz,ql];rfl,fun q hq=>?_,(S7.trans S8).new hT,(B8.new hT).mono (by omega),by rw[zQ,qd,<- ZX ah];rfl⟩⟩
   ·rw[zQ]
    have rT:Rep K (upd H8 T (.tup [.str y,.ref a])) (jR ⟨y,O[j].1,O[j].2⟩) (.ref T):=⟨T,_,rfl,u5 ze,_,_,rfl,rfl,_,_,rfl,⟨a,_,rfl,u5 ((zd hT) _ _ ai),_,_,rfl,rfl,_,_,rfl,rfl,rfl⟩,rfl⟩;exact ub rT (Reps.keep ((ua B7 S8).trans (.of (zd hT))) (xH J) rq)
   ·rcases ja.mp hq with w1 | w1
    ·exact qa q w1
    ·rw[zW.mp w1];exact⟨my,b1,b2,b3,b4⟩
  rintro U H7 ⟨J,rq,ql,qa,S7,B7,qd⟩;rw[zv] at ql qd;have b6:(J.map fun q=>(q.x,q.y)).Nodup:=by rw[qd];exact b0.sublist (zaV _ _)
  have B7:BoxAt H7 b (n+800):=B7.mono (by rw[zv];omega)
  have zl:U.length=as.length:=by rw[rq.len,zv,ql]
  refine⟨by omega,fun D hD=>⟨D,U,rfl,.inl ⟨u4 ze,fun ps aj=>?_⟩⟩⟩
  have sm:=(zd (o:=.lst U) hD).trans (zd (o:=.tup U) aj);have S8:=(af.trans S6).trans (S7.trans (SameB.of (b:=b) sm));have B8:=B7.same sm;have a9:=(a5.draw S7 nk).same sm;have P8:Rep K (upd (upd H7 D (.lst U)) ps (.tup U)) (.tup (J.map jR)) (.ref ps):=⟨ps,_,rfl,u5 ze,Reps.keep (.of sm) (xH J) rq⟩;generalize upd (upd H7 D (.lst U)) ps (.tup U)=H8 at sm S8 B8 a9 P8;clear af S6 S7 B5 B6 B7 Rk a5 rq hD aj pa hl;refine⟨_,rfl,_,rfl,_,rfl,_,rfl,b,ks,ps,pl,_,u,J,rfl,B8,by omega,nk,a9,by omega,by omega,P8,by omega,fun fp fs es H9 S9 B9 F9 a3 ee fl fa=>?_⟩
  have P9:=Rep.keep (d:=.tup (J.map jR)) (ua B8 S9) (xH J) P8;refine⟨_,rfl,le0,fun t ht=>⟨b,t,_,[],rfl,B9.new ht,by omega,B9.nne ht,ze,qB _,(fun a h=>nomatch h),fun gp av ae a7 gN ga _=>?_⟩⟩
  obtain⟨gx,gy,ay,g1,g2,g3,g4⟩:=ga;refine⟨_,rfl,b,4,_,rfl,a7,by omega,by decide,by decide,fun hd ba d0 d1 a8 aa=>⟨_,_,rfl,rfl,_,rfl,_,rfl,_,rfl,_,rfl,b,m,_,rfl,a8,by omega,m0,by omega,fun ap ac am a4 ab aq an op bo ax=>⟨leN (by show 5<=1000;decide),fun p hp=>?_⟩⟩⟩
  have t9:SameT H9 a4:=((SameT.of (zd ht)).trans (.draw (B9.new ht) ae)).trans ((ua a7 aa).trans (.draw a8 ab));have b8:SameT av a4:=(ua a7 aa).trans (.draw a8 ab);have up:Same a4 (upd a4 p (.tup [.ref gp,.int (1+hd),.ref fp,.ref ps,.ref ap])):=zd hp;have ar:=Rep.keep (d:=.tup (fs.map jS)) (t9.trans (.of up)) (wm fs) F9;have aw:=Rep.keep (d:=.tup (J.map jR)) (t9.trans (.of up)) (xH J) P9;have ao:=Rep.keep (d:=wI ac) (.of up) (x8 ac) an;have au:=(b8.trans (.of up)) gp _ ay (fun xs h=>nomatch h)
  have b7:J.length=m.toNat:=by omega
  have fk:∀kd∈u,∃f∈fs,f.k=kd:=fun kd az=>by
   have:=a3.mem_iff.mpr (vg es az);obtain⟨f,hf,e⟩:=qr.mp this;exact⟨f,hf,e⟩
  refine k p ⟨gx,gy,1+hd,fs,J,ac⟩ am _ (((S8.trans S9).trans ((SameB.of (zd ht)).trans ae)).trans ((aa.trans ab).new hp)) ((aq.new hp).mono (by omega)) ?_ ?_
  ·exact⟨p,_,rfl,u5 ze,_,_,rfl,⟨gp,_,rfl,u5 au,_,_,rfl,rfl,_,_,rfl,rfl,rfl⟩,_,_,rfl,rfl,_,_,rfl,ar,_,_,rfl,aw,_,_,rfl,ao,rfl⟩
  ·refine⟨⟨g1,g2,g3,g4⟩,by show 1<=1+hd;omega,by show 1+hd<=4;omega,fl,fa,by show J.length<=60;omega,fun q hq=>?_,by show am.Perm (List.range J.length);rw[b7];exact op,bo,ax,?_,b6,u,by omega,fun p hp=>(qa p hp).1⟩
   ·obtain⟨hk,hi⟩:=qa q hq
    exact⟨a9.2 q.k hk,hi,fk q.k hk⟩
   ·have:=a3.length_eq
    rw[zv,qz] at this;show 1<=fs.length;omega
theorem jc{α:Type}{l:List α}{i:Nat}{x:α}(h:l[i]? =some x):l.take (i+1)=l.take i++[x]:=by
 obtain⟨g,c⟩:=zU.mp h;rw[<- c,ZX]
theorem Same.none{H c:Hp}{t:Addr}(s:Same H c)(h:c t=Option.none):H t=Option.none:=s.free h
def dkC(c g:List Str):List (Key×V):=g.map fun k=>(Sum.inr k,V.int (c.count k))
theorem zcu(g c:List Str):(dkC g c).length=c.length:=zv _
theorem ZO(g:List Str)(k:Str):∀c:List Str,qD (dkC g c) (Sum.inr k)=if k∈c then some (.int (g.count k)) else none
 | []=>by rw[zk (by simp)];rfl
 | m::c=>by
  by_cases h:m=k
  ·subst h
   rw[zu (by simp)]
   exact jk rfl
  ·have e:qD (dkC g (m::c)) (Sum.inr k)=qD (dkC g c) (Sum.inr k):=jn (fun z=>h (Wt z))
   rw[e,ZO g k c];have:k∈m::c↔k∈c:=⟨fun z=>(zC.mp z).resolve_left fun y=>h y.symm,z9 _⟩
   by_cases l:k∈c
   ·rw[zu l,zu (this.mpr l)]
   ·rw[zk l,zk fun z=>l (this.mp z)]
theorem zcv{c l:List Str}{k:Str}(h:k∈c->k∈l):(qD (dkC c l) (Sum.inr k)).getD (.int 0)=.int (c.count k):=by
 rw[ZO];by_cases g:k∈l
 ·rw[zu g];rfl
 ·rw[zk g,zf8 fun z=>g (h z)];rfl
def WT(c:List Str)(k:Str):List Str:=if k∈c then c else c++[k]
theorem zga{c:List Str}{k j:Str}:j∈WT c k↔j∈c\/j=k:=by
 unfold WT;by_cases h:k∈c
 ·rw[zu h]
  exact⟨.inl,fun z=>z.elim id fun e=>e▸h⟩
 ·rw[zk h,ja,zW]
theorem zho{g:List Str}{k:Str}(h:g.Nodup):(WT g k).Nodup:=by
 unfold WT;by_cases c:k∈g
 ·rw[zu c];exact h
 ·rw[zk c]
  refine y6.mpr ⟨h,by simp,fun a l b hb e=>?_⟩
  rw[zW.mp hb] at e;exact c (e▸l)
theorem zgb(c:List Str)(k:Str):(WT c k).length<=c.length+1:=by
 unfold WT;split
 ·omega
 ·rw[qz];exact zD _
theorem zhe{c o:List Str}(k:Str):jN (dkC c o) (Sum.inr k) (.int ((c.count k:Int)+1))=dkC (c++[k]) (WT o k):=by
 unfold WT;have s:((c++[k]).count k:Int)=(c.count k:Int)+1:=by rw[zaR];simp
 have t:∀j,j≠k->(c++[k]).count j=c.count j:=fun j g=>by rw[zaR,zf8 (l:=[k]) (by simpa using g)];rfl
 by_cases h:k∈o
 ·rw[zu h]
  unfold jN;rw[zu (by rw[vW,ZO,zu h];rfl)]
  unfold dkC;rw[j9];refine Zx fun j _=>?_
  show(if(Sum.inr j:Key)=Sum.inr k then((Sum.inr j:Key),V.int ((c.count k:Int)+1)) else(Sum.inr j,V.int (c.count j)))=_
  by_cases e:j=k
  ·subst e
   rw[zu rfl,s]
  ·rw[zk fun z=>e (Wt z),t j e]
 ·rw[zk h,JH _ (by rw[ZO,zk h])]
  unfold dkC;rw[zQ];congr 1
  ·refine Zx fun j g=>?_
   rw[t j fun e=>h (e▸g)]
  ·show [((Sum.inr k:Key),V.int ((c.count k:Int)+1))]=[((Sum.inr k:Key),V.int ((c++[k]).count k))]
   rw[s]
theorem Vo(g:List Str):∀(l c:List Str),(c++l).Nodup->jM (dkC g c) (dkC g l)=dkC g (c++l)
 | [],c,_=>by rw[Qs];rfl
 | b::l,c,o=>by
  show jM (jN (dkC g c) (Sum.inr b) (.int (g.count b))) (dkC g l)=_;have hb:b∉c:=fun z=>(y6.mp o).2.2 b z b (by simp) rfl
  have e:jN (dkC g c) (Sum.inr b) (.int (g.count b))=dkC g (c++[b]):=by
   rw[JH _ (by rw[ZO,zk hb])]
   unfold dkC;rw[zQ];rfl
  rw[e,Vo g l (c++[b]) (by rw[WD];exact o),WD]
  rfl
def Wtd(H:Hp)(l c:List Str)(g:List V):Prop:=g.length=c.length/\∀(j:Nat) (k:Str),c[j]? =some k->∃T,g[j]? =some (.ref T)/\H T=some (.tup [.str k,.int (l.count k)])
theorem Wtd.same{H c:Hp}{g l:List Str}{o:List V}(h:Wtd H g l o)(s:Same H c):Wtd c g l o:=⟨h.1,fun j k e=>let ⟨T,a,b⟩:=h.2 j k e;⟨T,a,s _ _ b⟩⟩
theorem Wtd.prs{H:Hp}{g c:List Str}{o:List V}(h:Wtd H g c o):PrsL H o (dkC g c):=by
 refine⟨by rw[h.1,zcu],fun j x e=>?_⟩
 have s:=(zU.mp e).1;have l:c[j]? =some (c[j]'(by rw[<- h.1];exact s)):=qg _
 obtain⟨T,e1,e2⟩:=h.2 j _ l;rw[e] at e1;cases e1;refine⟨T,Sum.inr _,_,rfl,e2,?_⟩
 unfold dkC;rw[zY,l];rfl
def zJ(J:Job):List Str:=J.ps.map wZ.k
def zah(J:Job):Bool:=J.fs.all fun f=>decide (((zJ J).count f.k:Int)<=f.m)
theorem Qg{H:Hp}{p:wJ}{x:V}(h:Rep K H (jS p) x):∃a c,x=.ref a/\SqT K H a [.str p.k,.ref c,.int p.m]/\Rep K H (.tup [.int p.x,.int p.y]) (.ref c):=by
 obtain⟨a,Q,rfl,q,J,N,g,u,T,O,l,A,L,E,o,B,t⟩:=h;subst g l o;cases(show E=[] from t)
 cases(show J=_ from u)
 cases(show L=_ from B)
 obtain⟨c,M,rfl,D,s⟩:=A;exact⟨a,c,rfl,q,c,M,rfl,D,s⟩
theorem Qb{H:Hp}{p:wZ}{x:V}(h:Rep K H (jR p) x):∃a c,x=.ref a/\SqT K H a [.str p.k,.ref c]:=by
 obtain⟨a,J,rfl,q,B,E,g,t,L,A,l,u,o⟩:=h;subst g l;cases(show A=[] from o)
 cases(show B=_ from t)
 obtain⟨c,M,rfl,D,s⟩:=u;exact⟨a,c,rfl,q⟩
theorem xx{H:Hp}{J:Job}{u:Addr}(h:Rep K H (vR J) (.ref u)):∃(g fs l c:Addr) (t pv:List V),SqT K H u [.ref g,.int J.hd,.ref fs,.ref l,.ref c]/\Rep K H (.tup [.int J.gx,.int J.gy]) (.ref g)/\SqT K H fs t/\Reps K H (J.fs.map jS) t/\SqT K H l pv/\Reps K H (J.ps.map jR) pv/\Rep K H (wI J.as) (.ref c):=by
 obtain⟨a,xs,e,q,x0,r0,D,Y,x1,r1,e1,h1,x2,r2,e2,h2,x3,r3,E,h3,x4,r4,L,h4,M⟩:=h;cases e;subst D e1 e2 E L;have o:r4=[]:=M;subst o;have s:x1=.int J.hd:=h1;subst s;obtain⟨g,U,rfl,T⟩:=Y;obtain⟨fs,Q,rfl,N,O⟩:=h2;obtain⟨l,px,rfl,pq,pr⟩:=h3;obtain⟨c,B,rfl,A⟩:=h4;exact⟨g,fs,l,c,Q,px,q,⟨g,U,rfl,T⟩,N,O,pq,pr,⟨c,B,rfl,A⟩⟩
inductive Yc(K:W.Frag)(s:List V)(H:Hp)(Q:VK):Prop
 | mk (o:Addr) (J:Job) (_:s=[.ref o]) (_:Rep K H (vR J) (.ref o)) (_:J.ps.length<=60) (_:∀(l:Addr) (c:List Str) (t:List V) g,H l=none->Same H g->g l=some (.lst t)->(c.Pairwise fun a b=>ltS a b=true)->(∀j,j∈c↔j∈zJ J)->c.Nodup->c.length<=60->Wtd g (zJ J) c t->Q (.ref l) g):Yc K s H Q
def VJ(K:W.Frag):Sp:=fun c H Q _=>Yc K c H Q
theorem zeA:zE ["job","counts","part"] ["job"] (zy (topL 31)):=u0
theorem zc2{c g:List Str}{o:List (Str×Int)}(h:o.Perm (g.map fun k=>(k,(c.count k:Int)))):∃l:List Str,l.Perm g/\o=l.map fun k=>(k,(c.count k:Int)):=wy h rfl
def zcQ(l:_)(d:_)(H:_)(J:_):=fun(i:Nat) (σ:St) (g:Hp)=>(Ex2 fun(o:Option V) (c:List Str)=>An6 (σ=[some (.ref l),some (.ref d),o]) (Same H g) (g d=some (.dK (dkC ((zJ J).take i) c))) (c.Nodup) ((∀j,j∈c↔j∈(zJ J).take i)) (c.length<=i):Prop)
theorem zgI{f:Addr}{fd:FuncData}(F:Fun K "wanted_of" "wanted_of" (topL 31) f fd)(B:Blt I):qA P w K I G CX0 1 f fd ["job"] (VJ K):=by
 have nd:=zeA.nd;refine F.ok zeA 0#d (fun a4 A a0 s H vs Q E hr h=>?_)
 ·obtain⟨jp,J,rfl,_⟩:=h
  rfl
 ·obtain⟨jp,J,rfl,rj,pl,k⟩:=h
  have L:=yn hr;have a3:=bG100000;obtain⟨g,fs,ps,as,fv,a2,qj,_,qf,rf,qp,rp,_⟩:=xx rj;have lp:=rp.len;rw[zv] at lp;refine⟨_,(zg (zF (i:=1) nd rfl 0#a ZJ)
   (zg (qM ju rfl (xm (zS qF (pv 0) zj 0#c)) (zB (i:=2) nd rfl 0#a)
   (zp (Ji L (pv 1) (zS qF (pv 2) zj 0#c) (zK qx (yh L (pv 1) (zS qF (pv 2) zj 0#c) zj ⟨rfl,rfl,rfl,rfl⟩) zj) rfl)))
   (zp (zA (zw (XQ hr.hd) rfl B.sorted yp (za (ziS XD QE WP zfl (pv 1)) zb)))))),?_⟩
  refine fun d hd=>⟨_,rfl,jp,_,_,_,rfl,rfl,(zd hd).sqT qj,rfl,ps,rfl,⟨_,(zd hd).sqT qp⟩,ZN (K:=K) (a:=ps) (xs:=a2) (zcQ jp d H J)
   ⟨_,[],rfl,zd hd,ze,by simp,fun j=>by simp,qB _⟩ (fun i σ N _ ⟨_,_,_,s1,_,_,_,_⟩=>s1.sqT qp) ?_ ?_⟩
  ·rintro i x σ N hx ⟨v2,U,rfl,s1,t,O,M,ml⟩
   obtain⟨dd,e1,r1⟩:=(rp.same s1).get hx;rw[zY] at e1;obtain⟨Y,D,rfl⟩:=qH.mp e1;have hi:=(zU.mp D).1;obtain⟨a,c,rfl,qa⟩:=Qb r1;have ek:(zJ J)[i]? =some Y.k:=by unfold zJ;rw[zY,D];rfl
   refine⟨_,rfl,d,rfl,.inl ⟨_,.inl t⟩,_,rfl,a,_,_,_,rfl,rfl,qa,rfl,_,DGet.k (k:=Sum.inr Y.k) t,?_⟩
   rw[zcv fun z=>(M _).mpr z]
   refine⟨_,_,rfl,rfl,_,rfl,_,rfl,a,_,_,_,rfl,rfl,qa,rfl,d,_,rfl,DPut.k (k:=Sum.inr Y.k) t (by rw[zcu];omega),?_⟩
   rw[zhe];refine⟨_,WT U Y.k,rfl,fun c o z=>by rw[zq (zo z hd)];exact s1 _ _ z,by rw[ze,jc ek],zho O,fun j=>?_,xa (zgb _ _) (by omega)⟩
   rw[zga,M j,jc ek,ja,zW]
  ·rintro σ N ⟨v2,U,rfl,s1,t,O,M,ml⟩
   have lk:(zJ J).length=J.ps.length:=zv _;rw[lp,<- lk,jX] at t M;refine⟨_,rfl,.inr (.inr (.inl ⟨rfl,.inl ⟨_,t⟩⟩)),d,_,rfl,rfl,t,fun p hp=>?_⟩
   have D2:=(zd (o:=xu p d) hp) _ _ t;have V2:upd N p (xu p d) p=some (xu p d):=ze;have s2:=s1.trans (zd (o:=xu p d) hp);generalize upd N p (xu p d)=H2 at D2 V2 s2;refine⟨p,d,U.map fun k=>(k,((zJ J).count k:Int)),rfl,V2,by rw[j9];exact D2,by rw[j9];show(U.map id).Nodup;rw[List.map_id];exact O,by rw[zv];omega,fun l qs zs H3 s3 hl L3 pm pw zl zt=>?_⟩
   obtain⟨u,np,rfl⟩:=zc2 pm;rw[j9] at pw;have a1:u.Pairwise fun a b=>ltS a b=true:=by
    have e:u.map ((fun x:Str×Int=>x.1)∘fun k=>(k,((zJ J).count k:Int)))=u:=by
     show u.map id=u;rw[List.map_id]
    rwa[e] at pw
   refine k l u zs H3 (s2.none hl) (s2.trans s3) L3 a1 (fun j=>(np.mem_iff).trans (M j)) (np.nodup_iff.mpr O) (by have:=np.length_eq;omega) ⟨by rw[zl,zv],fun j kk e=>?_⟩
   obtain⟨T,e1,e2,e3⟩:=zt j (kk,((zJ J).count kk:Int)) (by rw[zY,e];rfl)
   exact⟨T,e1,e3⟩
def vw(c l g o:Int):Int:=if ZA (l-o)>ZA (c-g) then ZA (l-o) else ZA (c-g)
theorem zgc(a:Int):0<=ZA a:=by unfold ZA;split<;>omega
theorem zd5(c l g o:Int):0<=vw c l g o:=by
 unfold vw;have:=zgc (l-o);have:=zgc (c-g);split<;>assumption
theorem zih(c l g o t:Int):vw c l g o<=t↔ZA (c-g)<=t/\ZA (l-o)<=t:=by
 unfold vw;split<;>omega
theorem zd6{g o l s:Int}(a:0<=g)(b:g<=1000)(c:0<=o)(d:o<=1000)(t:0<=l)(u:l<=1000)(A:0<=s)(B:s<=1000):vw g o l s<=1000:=by
 rw[zih];unfold ZA;constructor<;>split<;>omega
def inB(p:Int×Int):Prop:=0<=p.1/\p.1<=1000/\0<=p.2/\p.2<=1000
def yY:List (Int×Int)->List Int
 | p::q::r=>vw p.1 p.2 q.1 q.2::yY (q::r)
 | _=>[]
theorem ZB:∀c:List (Int×Int),(yY c).length=c.length-1
 | []=>rfl
 | [_]=>rfl
 | p::q::r=>by
  have:=ZB (q::r);show(yY (q::r)).length+1=_;rw[this];simp
theorem WW:∀{ps:List (Int×Int)} {i:Nat} {p q:Int×Int},ps[i]? =some p->ps[i+1]? =some q->(yY ps)[i]? =some (vw p.1 p.2 q.1 q.2)
 | [],_,_,_,h,_=>by simp at h
 | [_],i,_,_,_,h=>by simp at h
 | a::b::r,0,p,q,c,g=>by simp at c g;subst c;subst g;rfl
 | a::b::r,i+1,p,q,c,g=>WW (ps:=b::r) (i:=i) (by simpa using c) (by simpa using g)
theorem zbm:∀{ps:List (Int×Int)},(∀p∈ps,inB p)->∀z∈yY ps,0<=z/\z<=1000
 | [],_,z,h=>by cases h
 | [_],_,z,h=>by cases h
 | a::b::r,hb,z,h=>by
  rcases zC.mp h with e | h
  ·have c:=hb a (by simp)
   have g:=hb b (by simp)
   rw[e];exact⟨zd5 _ _ _ _,zd6 c.1 c.2.1 c.2.2.1 c.2.2.2 g.1 g.2.1 g.2.2.1 g.2.2.2⟩
  ·exact zbm (ps:=b::r) (fun p l=>hb p (z9 _ l)) z h
def plD(p:Int×Int):Dat:=.tup [.int p.1,.int p.2]
theorem zef:∀{l:List Int} {m:Int},(∀z∈l,0<=z/\z<=m)->0<=l.sum/\l.sum<=m*(l.length:Int)
 | [],m,_=>by simp
 | a::l,m,h=>by
  have g:=h a (by simp)
  have o:=zef (l:=l) (m:=m) fun z c=>h z (z9 _ c)
  rw[Wv,jJ];have:m*((l.length+1:Nat):Int)=m*(l.length:Int)+m:=by rw[Int.natCast_add,Int.mul_add];simp
  omega
theorem vz{H:Hp}{p:Int×Int}{x:V}(h:Rep K H (plD p) x):∃a,x=.ref a/\SqT K H a [.int p.1,.int p.2]:=by
 obtain⟨A,J,rfl,c,B,E,l,t,D,g,o,u,s⟩:=h;subst l o;cases(show g=[] from s)
 cases(show B=_ from t)
 cases(show D=_ from u)
 exact⟨A,rfl,c⟩
theorem ziG{H:Hp}{a:Addr}{x y:Int}(h:SqT K H a [.int x,.int y]):Rep K H (plD (x,y)) (.ref a):=⟨a,_,rfl,h,_,_,rfl,rfl,_,_,rfl,rfl,rfl⟩
inductive zbs(K:W.Frag)(c:List V)(H:Hp)(Q:VK):Prop
 | mk (u v:V) (p q:Int×Int) (_:c=[u,v]) (_:Rep K H (plD p) u) (_:Rep K H (plD q) v) (_:Q (.int (vw p.1 p.2 q.1 q.2)) H):zbs K c H Q
def zbt(K:W.Frag):Sp:=fun c H Q _=>zbs K c H Q
theorem zjU:zE ["one","other"] ["one","other"] (zy (topL 8)):=u0
theorem ziX{f:Addr}{o:FuncData}(F:Fun K "way_between" "way_between" (topL 8) f o)(B:Blt I):qA P w K I G CX0 1 f o ["one","other"] (zbt K):=by
 refine F.ok zjU (fun J H Q E h=>?_) (fun D A l s H J Q E L h=>?_)
 ·obtain⟨u,v,p,q,rfl,_⟩:=h
  rfl
 ·obtain⟨u,v,p,q,rfl,c,g,k⟩:=h
  fail"a"
  refine⟨_,rfl,a,_,_,_,rfl,rfl,t,rfl,_,rfl,b,_,_,_,rfl,rfl,hb,rfl,_,_,rfl,rfl,_,rfl,_,rfl,a,_,_,_,rfl,rfl,t,rfl,_,rfl,b,_,_,_,rfl,rfl,hb,rfl,_,_,rfl,rfl,_,rfl,_,_,rfl,k⟩
theorem ziu:zE ["_law_one","_law_other"] ["_law_one","_law_other"] (zy (topL 57)):=u0
theorem zgN{f:Addr}{o:FuncData}(F:Fun K "_law_way" "_law_way" (topL 57) f o)(B:Blt I):qA P w K I G CX0 1 f o ["_law_one","_law_other"] (zbt K):=by
 refine F.ok ziu (fun J H Q E h=>?_) (fun D A l s H J Q E L h=>?_)
 ·obtain⟨u,v,p,q,rfl,_⟩:=h
  rfl
 ·obtain⟨u,v,p,q,rfl,c,g,k⟩:=h
  fail"a"
  refine⟨_,rfl,a,_,_,_,rfl,rfl,t,rfl,_,rfl,b,_,_,_,rfl,rfl,hb,rfl,_,_,rfl,rfl,_,rfl,_,rfl,a,_,_,_,rfl,rfl,t,rfl,_,rfl,b,_,_,_,rfl,rfl,hb,rfl,_,_,rfl,rfl,_,rfl,_,_,rfl,k⟩
theorem zdP(c:List V):jF c (some 1) none=c.drop 1:=by
 unfold jF;rw[show(some (1:Int))=some ((1:Nat):Int) from rfl,HT.sIx_nat,HT.sIx_none]
 cases c with
 | nil=>rfl
 | cons x r=>
  have:min 1 (x::r).length=1:=by simp only[jJ];omega
  rw[this];simp
inductive zbL(K:W.Frag)(l:List V)(H:Hp)(Q:VK):Prop
 | mk (a:Addr) (o:List V) (c:List 0#o) (_:l=[.ref a]) (_:SqL K H a o) (_:Reps K H (c.map plD) o) (_:(∀p∈c,inB p)) (_:c.length<=1000) (_:∀g,Same H g->Q (.int (yY c).sum) g):zbL K l H Q
def zhD(K:W.Frag):Sp:=fun c H Q _=>zbL K c H Q
theorem zhS:zE ["places"] ["places"] (zy (topL 9)):=u0
theorem zi4{f:Addr}{fd:FuncData}(F:Fun K "length_of" "length_of" (topL 9) f fd)(B:Blt I)(c:Dfn P w K I G "way_between" 1 ["one","other"] (zbt K)):qA P w K I G CX0 2 f fd ["places"] (zhD K):=by
 have nd:=zhS.nd;refine F.ok zhS 0#d (fun a2 A a0 s H vs Q E hr h=>?_)
 ·obtain⟨a,g,M,rfl,_⟩:=h
  rfl
 ·obtain⟨a,g,M,rfl,hx,hp,hb,hl,k⟩:=h
  have a1:=bG100000;have Y:=hp.len;rw[zv] at Y;refine⟨_,(zp (zA (zw (yW rfl) rfl B.sum boot_sum (za (vM [] [] rfl rfl (by kernel_rfl) (V0 rfl B.zip (za (pv 0) (za (xP Jg (pv 0) (xL zj) wx) zb))) 0#k (fun _ _ _ _=>(zi c hr.m rfl (za (pv 0) 0#s)))) zb)))),?_⟩
  refine⟨_,rfl,_,rfl,1,rfl,a,g,rfl,hx,fun t ht=>?_⟩
  have s1:Same H (upd H t (.lst (jF g (some 1) none))):=zd ht;have u:upd H t (.lst (jF g (some 1) none)) t=some (.lst (g.drop 1)):=by rw[ze,zdP]
  have J:=s1.seq hx;have l:=hp.same s1;generalize upd H t (.lst (jF g (some 1) none))=H1 at s1 u J l;refine⟨true,true,a,t,rfl,⟨g,J⟩,⟨_,u4 u⟩,?_⟩
  refine JZ (K:=K) (k1:=true) (k2:=true) (xs:=g) (ys:=g.drop 1) (fun i O N=>O=((yY M).take i).map V.int/\Same H1 N) ⟨rfl,u6 _⟩ (fun i O N ⟨_,L⟩=>⟨L.seq J,L.seq (u4 u)⟩) ?_ ?_
  ·rintro i x y O N T e1 e2 ⟨rfl,L⟩ hT
   have U:g[i+1]? =some y:=by rw[Xw] at e2;rw[Nat.add_comm];exact e2
   have s4:=L.trans (zd (o:=.tup [x,y]) hT);obtain⟨d1,q1,r1⟩:=(l.same s4).get e1;obtain⟨d2,q2,r2⟩:=(l.same s4).get U;rw[zY] at q1 q2;obtain⟨p,w1,rfl⟩:=qH.mp q1;obtain⟨q,w2,rfl⟩:=qH.mp q2;refine⟨T,_,rfl,u5 ze,rfl,_,_,rfl,_,_,rfl,rfl,rfl,?_⟩
   refine⟨_,rfl,_,rfl,x,y,p,q,rfl,r1,r2,?_,?_,s4⟩
   ·have:=ZB M
    rw[zv,jv];omega
   ·rw[jc (WW w1 w2),zQ];rfl
  ·rintro O N ⟨rfl,L⟩
   have hm:min g.length (g.drop 1).length=(yY M).length:=by rw[ZB,Zv];omega
   refine⟨by rw[zv,jv];omega,fun D hD=>⟨D,yY M,rfl,?_,fun z hz=>?_,by rw[ZB];omega,k _ ((s1.trans L).trans (zd hD))⟩⟩
   ·refine u4 ?_
    rw[ze,hm,jX]
   ·have:=zbm hb z hz
    omega
def W6(g p q:Int×Int):Int:=vw g.1 g.2 p.1 p.2+vw p.1 p.2 q.1 q.2+vw q.1 q.2 g.1 g.2
def j8(J:Job):Int×Int:=(J.gx,J.gy)
def wM(g p:Int×Int)(c:Str)(l:List wZ):List Int:=(l.filter fun q=>decide (q.k=c)).map fun q=>W6 g p (q.x,q.y)
def wN(J:Job)(c:Str)(p:Int×Int):Int:=(wM (j8 J) p c J.ps).sum
theorem Vq{g p:Int×Int}{c:Str}{l:List wZ}{q:wZ}(h:q.k=c):wM g p c (l++[q])=wM g p c l++[W6 g p (q.x,q.y)]:=by
 unfold wM;rw[WH,List.filter_cons_of_pos (by exact zT h),zQ]
 rfl
theorem Vr{g p:Int×Int}{c:Str}{l:List wZ}{q:wZ}(h:q.k≠c):wM g p c (l++[q])=wM g p c l:=by
 unfold wM;rw[WH,List.filter_cons_of_neg (by simpa using h),List.filter_nil,Qs]
theorem Qh(g p:Int×Int)(l:Str)(c:List wZ):(wM g p l c).length<=c.length:=by
 unfold wM;rw[zv];exact WM _ _
theorem zgk(g p q:Int×Int):(yY [g,p,q,g]).sum=W6 g p q:=by
 show vw g.1 g.2 p.1 p.2+(vw p.1 p.2 q.1 q.2+(vw q.1 q.2 g.1 g.2+0))=_;unfold W6;omega
theorem VF{p q:Int×Int}(c:inB p)(hq:inB q):0<=vw p.1 p.2 q.1 q.2/\vw p.1 p.2 q.1 q.2<=1000:=⟨zd5 _ _ _ _,zd6 c.1 c.2.1 c.2.2.1 c.2.2.2 hq.1 hq.2.1 hq.2.2.1 hq.2.2.2⟩
theorem zij{g p q:Int×Int}(hg:inB g)(l:inB p)(hq:inB q):0<=W6 g p q/\W6 g p q<=3000:=by
 have a:=VF hg l;have b:=VF l hq;have c:=VF hq hg;unfold W6;omega
theorem Y2{J:Job}{c:List Nat}(g:JobOk J c){p:Int×Int}(o:inB p){kd:Str}{l:List wZ}(s:∀q∈l,q∈J.ps):∀z∈wM (j8 J) p kd l,0<=z/\z<=3000:=fun z t=>by
 obtain⟨q,hq,rfl⟩:=qr.mp t;exact zij g.gate o (g.pa q (s q (yy.mp hq).1)).2.1
def Rows(l H:Hp)(c:List (List Int))(g:List V):Prop:=g.length=c.length/\∀(j:Nat) (r:List Int),c[j]? =some r->∃a,g[j]? =some (.ref a)/\l a=none/\H a=some (.lst (r.map V.int))
theorem Rows.nil{c H:Hp}:Rows c H [] []:=⟨rfl,fun j k e=>by simp at e⟩
theorem Rows.same{l H g:Hp}{o:List (List Int)}{t:List V}(h:Rows l H o t)(s:Same H g):Rows l g o t:=⟨h.1,fun j k e=>let ⟨T,a,b,c⟩:=h.2 j k e;⟨T,a,b,s _ _ c⟩⟩
theorem Rows.snoc{g H:Hp}{c:List (List Int)}{s:List V}{r:List Int}{T:Addr}(h:Rows g H c s)(n:g T=none)(e:H T=some (.lst (r.map V.int))):Rows g H (c++[r]) (s++[.ref T]):=by
 refine⟨by rw[qz,qz,h.1];rfl,fun j q hq=>?_⟩
 by_cases l:j<c.length
 ·rw[wv l] at hq
  obtain⟨U,e1,e2⟩:=h.2 j q hq;exact⟨U,by rw[wv (by rw[h.1];exact l)];exact e1,e2⟩
 ·have o:=(zU.mp hq).1
  rw[qz] at o;have t:j=c.length:=by simp at o;omega
  subst t;rw[vh (zD _),Zl] at hq;have:r=q:=by simpa using hq
  subst this;exact⟨T,by rw[<- h.1,vh (zD _),Zl];rfl,n,e⟩
theorem Jk{H:Hp}{p:wZ}{x:V}(h:Rep K H (jR p) x):∃a c,x=.ref a/\SqT K H a [.str p.k,.ref c]/\Rep K H (plD (p.x,p.y)) (.ref c):=by
 obtain⟨a,L,rfl,q,D,J,g,t,M,B,l,u,o⟩:=h;subst g l;cases(show B=[] from o)
 cases(show D=_ from t)
 obtain⟨c,E,rfl,A,s⟩:=u;exact⟨a,c,rfl,q,c,E,rfl,A,s⟩
inductive Yq(K:W.Frag)(s:List V)(H:Hp)(Q:VK):Prop
 | mk (l:Addr) (J:Job) (c:List Nat) (o:Str) (u:V) (p:Int×Int) (_:s=[.ref l,.str o,u]) (_:Rep K H (vR J) (.ref l)) (_:JobOk J c) (_:Rep K H (plD p) u) (_:inB p) (_:∀g,Same H g->Q (.int (wN J o p)) g):Yq K s H Q
def VO(K:W.Frag):Sp:=fun c H Q _=>Yq K c H Q
theorem zeI:zE ["job","kind","slot"] ["job","kind","slot"] (zy (topL 40)):=u0
theorem zgQ{f:Addr}{fd:FuncData}(F:Fun K "slot_cost" "slot_cost" (topL 40) f fd)(B:Blt I)(t:Dfn P w K I G "length_of" 2 ["places"] (zhD K)):qA P w K I G CX0 3 f fd ["job","kind","slot"] (VO K):=by
 have nd:=zeI.nd;refine F.ok zeI 0#d (fun a6 A a2 s H vs Q E hr h=>?_)
 ·obtain⟨Y,J,a1,kd,u,p,rfl,_⟩:=h
  rfl
 ·obtain⟨Y,J,a1,kd,u,p,rfl,rj,U,a4,bp,k⟩:=h
  have a5:=bG100000;have pl:=U.pl;obtain⟨g,fs,ps,as,fv,a3,qj,rg,qf,rf,qp,rp,_⟩:=xx rj;have lp:=rp.len;rw[zv] at lp;refine⟨_,(zp (zA (zw (yW rfl) rfl B.sum boot_sum (za (vM ["slot","job","kind"] [2,0,1] rfl rfl (by kernel_rfl) (xm (zS qF (pv 0) zj 0#c)) (fun _ _ _ _=>(JL (qC xQ (pv 0) (pv 4) (z7 _)))) (fun _ _ _ _=>(zi t hr.m rfl (za (qQ (za (zS (vC (K:=K) rfl) (pv 3) zj 0#c) (za (pv 2) (za (pv 1) (za (zS (vC (K:=K) rfl) (pv 3) zj 0#c) zb))))) zb)))) zb)))),?_⟩
  refine⟨_,rfl,Y,_,_,_,rfl,rfl,qj,rfl,ps,rfl,⟨_,qp⟩,vQ (K:=K) (a:=ps) (xs:=a3) (fun i zs N=>zs=(wM (j8 J) p kd (J.ps.take i)).map V.int/\Same H N) ⟨rfl,u6 _⟩ (fun i zs N ⟨_,M⟩=>M.sqT qp) ?_ ?_⟩
  ·rintro i x zs N hx ⟨rfl,M⟩
   obtain⟨dd,e1,r1⟩:=(rp.same M).get hx;rw[zY] at e1;obtain⟨O,L,rfl⟩:=qH.mp e1;have hi:=(zU.mp L).1;obtain⟨a,c,rfl,qa,rc⟩:=Jk r1;have cl:=Qh (j8 J) p kd (J.ps.take i);rw[jv] at cl;refine⟨a,_,rfl,qa,rfl,_,_,rfl,_,_,rfl,rfl,rfl,?_⟩
   refine⟨_,rfl,_,rfl,rfl,_,rfl,ym (fun z=>?_) (fun z=>⟨?_,M⟩)⟩
   ·refine⟨_,rfl,Y,_,_,_,rfl,rfl,M.sqT qj,rfl,_,rfl,_,rfl,_,rfl,Y,_,_,_,rfl,rfl,M.sqT qj,rfl,le4,fun l hl=>?_⟩
    have s4:=M.trans (zd (o:=.lst [.ref g,u,.ref c,.ref g]) hl);have T:Rep K (upd N l (.lst [.ref g,u,.ref c,.ref g])) (plD (j8 J)) (.ref g):=rg.same s4;refine⟨l,_,[j8 J,p,(O.x,O.y),j8 J],rfl,u4 ze,⟨_,_,rfl,T,_,_,rfl,a4.same s4,_,_,rfl,rc.same (zd hl),_,_,rfl,T,rfl⟩,fun q hq=>?_,(by show 4<=1000;decide),fun H5 s5=>⟨?_,?_,s4.trans s5⟩⟩
    ·have hg:inB (j8 J):=U.gate
     have a0:inB (O.x,O.y):=(U.pa O (qw L)).2.1;rcases zC.mp hq with rfl | hq
     ·exact hg
     rcases zC.mp hq with rfl | hq
     ·exact bp
     rcases zC.mp hq with rfl | hq
     ·exact a0
     rcases zC.mp hq with rfl | hq
     ·exact hg
     cases hq
    ·rw[zv];omega
    ·rw[jc L,Vq (V.str.inj (jy z)),zQ,zgk]
     rfl
   ·rw[jc L,Vr fun e=>z (zT (by rw[e]))]
  ·rintro zs N ⟨rfl,M⟩
   rw[lp,jX];have cl:=Qh (j8 J) p kd J.ps;refine⟨by rw[zv];omega,fun D hD=>⟨D,_,rfl,u4 ze,fun z hz=>?_,by omega,k _ (M.trans (zd hD))⟩⟩
   have:=Y2 U bp (fun q hq=>hq) z hz
   omega
def zeL(J:Job)(g:List (Int×Int))(c:Str):List Int:=g.map (wN J c)
inductive Va(K:W.Frag)(B:List V)(H:Hp)(Q:VK):Prop
 | mk (t u:Addr) (J:Job) (s:List Nat) (o:List 0#o) (A:List V) (_:B=[.ref t,.ref u]) (_:Rep K H (vR J) (.ref t)) (_:JobOk J s) (_:H u=some (.lst A)) (_:Reps K H (o.map plD) A) (_:(∀q∈o,inB q)) (_:o.length<=100) (_:∀(l:Addr) (g:List Str) (D:List V) c,H l=none->Same H c->c l=some (.lst D)->(g.Pairwise fun a b=>ltS a b=true)->(∀j,j∈g↔j∈zJ J)->g.length<=60->Rows H c (g.map (zeL J o)) D->Q (.ref l) c):Va K B H Q
def VN(K:W.Frag):Sp:=fun c H Q _=>Va K c H Q
theorem zb2:zE ["job","slots"] ["job","slots"] (zy (topL 41)):=u0
theorem zff{f:Addr}{fd:FuncData}(F:Fun K "slot_costs" "slot_costs" (topL 41) f fd)(B:Blt I)(c:Dfn P w K I G "slot_cost" 3 ["job","kind","slot"] (VO K))(g:Dfn P w K I G "wanted_of" 1 ["job"] (VJ K)):qA P w K I G CX0 4 f fd ["job","slots"] (VN K):=by
 have nd:=zb2.nd;refine F.ok zb2 0#d (fun a2 A a0 s H vs Q E hr h=>?_)
 ·obtain⟨jp,sl,J,N,qs,sv,rfl,_⟩:=h
  rfl
 ·obtain⟨jp,sl,J,N,qs,sv,rfl,rj,jo,hs,rs,hb,ql,k⟩:=h
  have a1:=bG100000;have lv:=rs.len;rw[zv] at lv;refine⟨_,(zp (zA (zgE ["job","slots"] [0,1] rfl rfl (by kernel_rfl) (by kernel_rfl) (jL (zi g hr.m rfl 0#t)) 0#k (fun _ _ _ _=>(jQ ["job","kind"] [2,0] rfl rfl (by kernel_rfl) (Yz (K:=K) rfl (pv 3)) 0#k (fun _ _ _ _=>(zi c hr.m rfl (za (pv 1) (za (pv 2) 0#t))))))))),?_⟩
  refine⟨_,rfl,jp,J,rfl,rj,jo.pl,fun l M wz H1 hl s1 L1 up mm mn ml wt=>?_⟩
  refine⟨l,rfl,⟨_,u4 L1⟩,xw (K:=K) (a:=l) (xs:=wz) (fun i O L=>Rows H L ((M.take i).map (zeL J qs)) O/\Same H1 L) ⟨Rows.nil,u6 _⟩ (fun i O L ⟨_,s2⟩=>u4 (s2 _ _ L1)) ?_ ?_⟩
  ·rintro i x O L hx ⟨o,s2⟩
   have hi:i<M.length:=by rw[<- wt.1];exact(zU.mp hx).1
   have em:M[i]? =some M[i]:=qg _;generalize M[i]=kd at em;obtain⟨T,e1,e2⟩:=(wt.same s2).2 i kd em;rw[hx] at e1;cases e1;have Y:=s1.trans s2;refine⟨T,_,rfl,u5 e2,rfl,_,_,rfl,_,_,rfl,rfl,rfl,?_⟩
   refine⟨_,rfl,sl,rfl,⟨_,u4 (Y _ _ hs)⟩,xw (K:=K) (a:=sl) (xs:=sv) (fun j ys U=>ys=((qs.take j).map (wN J kd)).map V.int/\Same L U) ⟨rfl,u6 _⟩ (fun j ys U ⟨_,t⟩=>u4 (t _ _ (Y _ _ hs))) ?_ ?_⟩
   ·rintro j y ys U hy ⟨rfl,t⟩
    have t3:=Y.trans t;obtain⟨dd,q1,r1⟩:=(rs.same t3).get hy;rw[zY] at q1;obtain⟨q,eq,rfl⟩:=qH.mp q1;have hj:=(zU.mp eq).1;refine⟨rfl,_,rfl,_,rfl,_,rfl,jp,J,N,kd,y,q,rfl,rj.same t3,jo,r1,hb q (qw eq),fun H4 s4=>⟨?_,?_,t.trans s4⟩⟩
    ·rw[zv,zv,jv];omega
    ·rw[jc eq,zQ,zQ]
     rfl
   ·rintro ys U ⟨rfl,t⟩
    rw[lv,jX];refine⟨by rw[zv,zv];omega,fun D u=>⟨?_,?_,s2.trans (t.trans (zd u))⟩⟩
    ·rw[o.1,zv,jv];omega
    ·rw[jc em,zQ]
     exact(o.same (t.trans (zd u))).snoc (Y.none (t.none u)) ze
  ·rintro O L ⟨o,s2⟩
   rw[wt.1,jX] at o;refine⟨by rw[o.1,zv];omega,fun D u=>k D M O _ ((s1.trans s2).none u) ((s1.trans s2).trans (zd u)) ze up mm ml (o.same (zd u))⟩
inductive X9(K:W.Frag)(s:List V)(H:Hp)(Q:VK):Prop
 | mk (o:Addr) (J:Job) (_:s=[.ref o]) (_:Rep K H (vR J) (.ref o)) (_:J.ps.length<=60) (_:∀(l:Addr) (c:List Str) g,H l=none->Same H g->g l=some (.lst (c.map V.str))->(c.Pairwise fun a b=>ltS a b=true)->(∀j,j∈c↔j∈zJ J)->c.length<=60->Q (.ref l) g):X9 K s H Q
def VM(K:W.Frag):Sp:=fun c H Q _=>X9 K c H Q
theorem V9:∀{xs ys:List Str},xs.Nodup->(∀x∈xs,x∈ys)->xs.length<=ys.length
 | [],_,_,_=>qB _
 | x::xs,ys,l,h=>by
  obtain⟨c,g⟩:=xA.mp l;have hx:=h x (by simp)
  have:=V9 (xs:=xs) (ys:=ys.erase x) g fun y hy=>(Xy (fun z:y=x=>c (z▸hy))).mpr (h y (z9 _ hy))
  rw[XE hx] at this;have p:=XA hx;rw[jJ];omega
theorem zb1:zE ["_law_job_here"] ["_law_job_here"] (zy (topL 59)):=u0
theorem zfe{f:Addr}{Y:FuncData}(F:Fun K "_law_kinds" "_law_kinds" (topL 59) f Y)(B:Blt I):qA P w K I G CX0 1 f Y ["_law_job_here"] (VM K):=by
 have nd:=zb1.nd;refine F.ok zb1 0#d (fun a1 A O s H vs Q E hr h=>?_)
 ·obtain⟨jp,J,rfl,_⟩:=h
  rfl
 ·obtain⟨jp,J,rfl,rj,pl,k⟩:=h
  have a0:=bG100000;obtain⟨g,fs,ps,as,fv,T,qj,rg,qf,rf,qp,rp,ra⟩:=xx rj;have lp:=rp.len;rw[zv] at lp;have lk:(zJ J).length=J.ps.length:=zv _;refine⟨_,(zp (zA (zw (XO hr.hd) rfl B.sorted yp (za (qO (zdU hr.hd) rfl B.set zfQ (za (jQ [] [] rfl rfl (by kernel_rfl) (xm (zS qF (pv 0) zj 0#c)) 0#k (fun _ _ _ _=>(zS (vC (K:=K) rfl) (pv 0) zj 0#c))) zb)) zb)))),?_⟩
  refine⟨_,rfl,jp,_,_,_,rfl,rfl,qj,rfl,ps,rfl,⟨_,qp⟩,vQ (K:=K) (a:=ps) (xs:=T) (fun i L l=>L=((zJ J).take i).map V.str/\Same H l) ⟨rfl,u6 _⟩ (fun i L l ⟨_,s1⟩=>s1.sqT qp) ?_ ?_⟩
  ·rintro i x L l hx ⟨rfl,s1⟩
   obtain⟨dd,e1,r1⟩:=(rp.same s1).get hx;rw[zY] at e1;obtain⟨pa,t,rfl⟩:=qH.mp e1;have hi:=(zU.mp t).1;obtain⟨a,c,rfl,qa⟩:=Qb r1;have ek:(zJ J)[i]? =some pa.k:=by unfold zJ;rw[zY,t];rfl
   refine⟨rfl,_,rfl,a,_,_,_,rfl,rfl,qa,rfl,?_,?_,s1⟩
   ·rw[zv,jv];omega
   ·rw[jc ek,zQ]
    rfl
  rintro L l ⟨rfl,s1⟩;rw[lp,<- lk,jX];refine⟨by rw[zv];omega,fun N M=>?_⟩
  have K1:upd l N (.lst ((zJ J).map V.str)) N=some (.lst (((zJ J).map Sum.inr:List Key).map kV)):=by
   rw[ze,j9];rfl
  refine⟨N,_,rfl,K1,by rw[zv];omega,fun sp D=>⟨sp,zJ J,rfl,ze,by omega,fun so ms u U mn mm=>?_⟩⟩
  have s2:=s1.trans (zd (o:=.lst ((zJ J).map V.str)) M);have s3:=s2.trans ((zd D).trans (zd (o:=.lst (ms.map V.str)) u));exact k so ms _ (s2.none ((zd D).none u)) s3 ze (zaj U mn) mm (by have:=V9 mn fun x hx=>(mm x).mp hx;omega)
theorem zb0:zE ["_law_job_here","_law_kind","_law_slot","_law_total","_law_part"] ["_law_job_here","_law_kind","_law_slot"] (zy (topL 61)):=u0
def zcP(l:_)(c:_)(u:_)(J:_)(p:_)(H:_):=fun(i:Nat) (σ:St) (g:Hp)=>(Ex1 fun(o:Option V)=>An2 (σ=[some (.ref l),some (.str c),some u,some (.int (wM (j8 J) p c (J.ps.take i)).sum),o]) (g=H):Prop)
theorem zfd{f:Addr}{fd:FuncData}(F:Fun K "_law_cost" "_law_cost" (topL 61) f fd)(B:Blt I)(l:Dfn P w K I G "_law_way" 1 ["_law_one","_law_other"] (zbt K)):qA P w K I G CX0 2 f fd ["_law_job_here","_law_kind","_law_slot"] (VO K):=by
 have O:=zb0.nd;refine F.ok zb0 0#d (fun a0 A U s H vs Q E N h=>?_)
 ·obtain⟨L,J,T,kd,u,p,rfl,_⟩:=h
  rfl
 ·obtain⟨L,J,T,kd,u,p,rfl,rj,jo,M,bp,k⟩:=h
  obtain⟨g,fs,ps,as,fv,Y,qj,rg,qf,rf,qp,rp,_⟩:=xx rj;have lp:=rp.len;rw[zv] at lp;refine⟨_,(zg (zF (i:=3) O rfl 0#a zj)
   (zg (qM ju rfl (xm (zS qF (pv 0) zj 0#c)) (zB (i:=4) O rfl 0#a)
   (zp (je (qC xQ (zS qF (pv 4) zj 0#c) (pv 1) (z7 _))
    (zp (zF (i:=3) O rfl 0#a (zK qx (zK qx (zK qx (pv 3) (zi l N.m rfl (za (zS qF (pv 0) zj 0#c) (za (pv 2) zb)))) (zi l N.m rfl (za (pv 2) (za (zS qF (pv 4) zj 0#c) zb)))) (zi l N.m rfl (za (zS qF (pv 4) zj 0#c) (za (zS qF (pv 0) zj 0#c) zb))))))
    qe)))
   (zp (zA (pv 3))))),?_⟩
  refine⟨_,rfl,L,_,_,_,rfl,rfl,qj,rfl,ps,rfl,⟨_,qp⟩,ZN (K:=K) (a:=ps) (xs:=Y) (zcP L kd u J p H) ⟨_,rfl,rfl⟩ (fun i σ H3 _ ⟨_,_,e⟩=>e▸qp) ?_ ?_⟩
  ·rintro i x σ H3 hx ⟨v4,rfl,rfl⟩
   obtain⟨dd,e1,r1⟩:=rp.get hx;rw[zY] at e1;obtain⟨o,D,rfl⟩:=qH.mp e1;obtain⟨a,c,rfl,qa,rc⟩:=Jk r1;refine⟨_,rfl,a,_,_,_,rfl,rfl,qa,rfl,_,rfl,rfl,_,rfl,ym (fun z=>?_) (fun z=>?_)⟩
   ·refine⟨_,rfl,_,rfl,L,_,_,_,rfl,rfl,qj,rfl,_,rfl,.ref g,u,j8 J,p,rfl,rg,M,_,_,rfl,rfl,_,rfl,_,rfl,a,_,_,_,rfl,rfl,qa,rfl,u,.ref c,p,(o.x,o.y),rfl,M,rc,_,_,rfl,rfl,_,rfl,a,_,_,_,rfl,rfl,qa,rfl,_,rfl,L,_,_,_,rfl,rfl,qj,rfl,.ref c,.ref g,(o.x,o.y),j8 J,rfl,rc,rg,_,_,rfl,rfl,?_⟩
    refine⟨some (.ref a),?_,rfl⟩
    rw[jc D,Vq (V.str.inj (jy z)),Wy];have e:∀t:Int,t+vw (j8 J).1 (j8 J).2 p.1 p.2+vw p.1 p.2 o.x o.y+vw o.x o.y (j8 J).1 (j8 J).2=t+[W6 (j8 J) p (o.x,o.y)].sum:=fun t=>by
     show _=t+(vw (j8 J).1 (j8 J).2 p.1 p.2+vw p.1 p.2 o.x o.y+vw o.x o.y (j8 J).1 (j8 J).2+0);omega
    rw[<- e];rfl
   ·refine⟨some (.ref a),?_,rfl⟩
    rw[jc D,Vr fun e=>z (zT (by rw[e]))]
    rfl
  ·rintro σ H3 ⟨v4,rfl,rfl⟩
   rw[lp,jX];exact⟨_,rfl,k _ (u6 _)⟩
theorem YR(i:Nat):ixN (i+1) (-1)=some i:=by
 unfold ixN;simp;omega
inductive X5(o:List V)(H:Hp)(Q:VK):Prop
 | mk (b:Addr) (m n:Int) (_:o=[.ref b,.int m]) (_:BoxAt H b n) (_:n<1000000) (_:0<=m) (_:m<=100) (_:∀(l:Addr) (g:List Addr) c,SameB b H c->BoxAt c b (n+100)->l≠b->H l=none->c l=some (.lst (g.map V.ref))->g.length<=12->(m<=12->m<=g.length)->(∀a∈g,PlA c a)->Q (.ref l) c):X5  o H Q
def zbC:Sp:=fun c H Q _=>X5  c H Q
theorem zbW:zE ["_law_box_here","_law_many","_law_found","_law_k"] ["_law_box_here","_law_many"] (zy (topL 60)):=u0
def zcO(b:_)(m:_)(l:_)(H:_)(n:_):=fun(i:Nat) (σ:St) (c:Hp)=>(Ex2 fun(g:List Addr) (o:Option V)=>An6 (σ=[some (.ref b),some (.int m),some (.ref l),o]) (SameB b H c) (BoxAt c b (n+1+5*i)) (c l=some (.lst (g.map V.ref))) (g.length=i) (∀a∈g,PlA c a):Prop)
theorem zfa{f:Addr}{fd:FuncData}(F:Fun K "_law_slots" "_law_slots" (topL 60) f fd)(B:Blt I)(g:Dfn P w K I G "_law_take" 1 ["_law_box_here","_law_size"] yc)(u:Dfn P w K I G "_law_place" 2 ["_law_box_here","_law_taken"] (ZF K)):qA P w K I G CX0 3 f fd ["_law_box_here","_law_many"] zbC:=by
 have nd:=zbW.nd;refine F.ok zbW 0#d (fun a6 A a3 s H vs Q E hr h=>?_)
 ·obtain⟨b,m,n,rfl,_⟩:=h
  rfl
 ·obtain⟨b,m,n,rfl,B0,hn,m0,m1,k⟩:=h
  have a5:=bG100000;have Y:=bGe;refine⟨_,(zg (zF (i:=2) nd rfl 0#a (qQ zb))
   (zg (qM ju rfl (qX rfl B.range (za (zw (Vu rfl) rfl B.min yq (za zj (za (zK qx (pv 1) (zi g hr.m rfl 0#p)) zb))) zb)) (zB (i:=3) nd rfl 0#a)
   (zg (xK (yi wS ZW ZV j3 (pv 2) (za (zi u hr.m rfl (za (pv 0) (za (qQ zb) zb))) zb)))
    (zp (je (qC xQ (zi g hr.m rfl 0#p) zj (z7 _))
    (zp (vc (zS qo (pv 2) (zi g hr.m rfl (za (pv 0) (za (zw zR rfl B.len boot_len (za (pv 2) zb)) zb))) 0#c) (JK (pv 2) (zeV zac zj) ye)))
    qe))))
   (zp (zA (pv 2))))),?_⟩
  refine⟨le0,fun l T=>?_⟩
  have S1:=(u7 b H).new (o:=.lst []) T;have B1:=B0.new (o:=.lst []) T;have nl:=B0.nne T;have L1:upd H l (.lst []) l=some (.lst []):=ze;generalize upd H l (.lst [])=H1 at S1 B1 L1;refine⟨_,rfl,_,rfl,b,4,n,rfl,B1,by omega,by decide,by decide,fun r H2 r0 r1 B2 S2=>⟨_,_,rfl,rfl,_,_,rfl,_,rfl,?_,?_,?_⟩⟩
  ·rw[Y];split<;>omega
  ·rw[Y];split<;>omega
  have hN:(if(12:Int)>m+r then m+r else 12).toNat<=12:=by split<;>omega
  refine jC (zcO b m l H n)
   ⟨[],_,rfl,S1.trans S2,B2.mono (by omega),S2 _ _ L1 nl,rfl,fun a h=>nomatch h⟩ ?_ ?_
  ·rintro i σ H3 hi ⟨t,v3,rfl,S3,U,L3,al,pa⟩
   refine⟨_,rfl,.inl ⟨rfl,_,u4 L3⟩,_,rfl,le0,fun e he=>?_⟩
   have ne:=U.nne he;refine⟨b,e,_,[],rfl,U.new he,by omega,ne,ze,qB _,(fun a h=>nomatch h),fun p M S4 B4 pN pP _=>?_⟩
   have N:=((u7 b H3).new (o:=.lst (([]:List Addr).map V.ref)) he).trans S4;have L4:=N _ _ L3 nl;have pl:p≠l:=fun z=>by
    obtain⟨x,y,e1,_⟩:=pP;rw[z,L4] at e1;cases e1
   have a4:∀a∈t,PlA M a:=fun a L=>(pa a L).draw U N
   refine⟨l,_,_,rfl,rfl,L4,by rw[zv];omega,?_⟩
   have a2:∀a,PlA M a->a≠l:=fun a h z=>by
    obtain⟨x,y,e1,_⟩:=h;rw[z,L4] at e1;cases e1
   have S5:SameB b H (upd M l (.lst (t.map V.ref++[.ref p]))):=(S3.trans N).put T;have B5:=B4.other (o:=.lst (t.map V.ref++[.ref p])) nl;have L5:upd M l (.lst (t.map V.ref++[.ref p])) l=some (.lst ((t++[p]).map V.ref)):=by rw[ze,zQ];rfl
   have pa5:∀a∈t++[p],PlA (upd M l (.lst (t.map V.ref++[.ref p]))) a:=fun a L=>by
    have h4:PlA M a:=by
     rcases ja.mp L with z | z
     ·exact a4 a z
     ·rw[zW.mp z];exact pP
    exact h4.imp fun o ho=>by rw[zq (a2 a h4)];exact ho
   generalize upd M l (.lst (t.map V.ref++[.ref p]))=H5 at S5 B5 L5 pa5;have D:(t++[p]).length=i+1:=by rw[qz,al];rfl
   generalize t++[p]=J at L5 pa5 D;refine⟨_,rfl,b,5,_,rfl,B5,by omega,by decide,by decide,fun r5 H6 a7 a8 B6 O=>⟨rfl,_,rfl,ym (fun c=>?_) (fun c=>?_)⟩⟩
   ·have L6:=O _ _ L5 nl
    refine⟨_,rfl,_,rfl,_,rfl,l,_,rfl,.inl (u4 L6),b,_,_,rfl,B6,by omega,by rw[zv];omega,by rw[zv];omega,fun q H7 q0 q1 B7 S7=>?_⟩
    have L7:=S7 _ _ L6 nl;obtain⟨v,ev,hv⟩:=Wo (xs:=J.map V.ref) q0 q1;rw[zY] at hv;obtain⟨a,L,rfl⟩:=qH.mp hv;refine⟨l,_,_,_,rfl,rfl,u4 L7,ev,_,rfl,1,rfl,l,_,_,i,rfl,rfl,L7,by rw[zv,D];exact YR i,?_⟩
    have pa7:∀a∈J,PlA H7 a:=fun a L=>((pa5 a L).draw B5 O).draw B6 S7
    have a1:∀a,PlA H7 a->a≠l:=fun a h z=>by
     obtain⟨x,y,e1,_⟩:=h;rw[z,L7] at e1;cases e1
    refine⟨J.set i a,_,rfl,((S5.trans O).trans S7).put T,(B7.other nl).mono (by omega),by rw[ze,List.map_set],by rw[yI];exact D,fun c hc=>?_⟩
    have a0:PlA H7 c:=by
     rcases List.mem_or_eq_of_mem_set hc with z | z
     ·exact pa7 c z
     ·rw[z];exact pa7 a (qw L)
    exact a0.imp fun o ho=>by rw[zq (a1 c a0)];exact ho
   ·exact⟨J,_,rfl,S5.trans O,B6.mono (by omega),O _ _ L5 nl,D,fun a L=>(pa5 a L).draw B5 O⟩
  ·rintro σ H3 ⟨t,v3,rfl,S3,U,L3,al,pa⟩
   exact⟨_,rfl,k l t H3 S3 (U.mono (by omega)) nl T L3 (by omega) (fun z=>by rw[al];split at al<;>split<;>omega) pa⟩
def hsV(c:List (Nat×Nat)):List (Key×V):=c.map fun h=>(Sum.inl (h.1:Int),.int (h.2:Int))
def enW(q:Int×List Nat):Int×List Int:=(q.1,q.2.map fun(n:Nat)=>(n:Int))
def CsAt(H:Hp)(a:Addr)(c:Nat->Nat->Int)(n m:Nat):Prop:=∃g,H a=some (.lst g)/\g.length=n/\∀x,x<n->∃A,g[x]? =some (.ref A)/\H A=some (.lst ((List.range m).map fun j=>V.int (c x j)))
theorem CsAt.same{H g:Hp}{a:Addr}{c:Nat->Nat->Int}{n m:Nat}(h:CsAt H a c n m)(s:Same H g):CsAt g a c n m:=by
 obtain⟨u,e1,e2,t⟩:=h;exact⟨u,s _ _ e1,e2,fun x hx=>let ⟨A,l,o⟩:=t x hx;⟨A,l,s _ _ o⟩⟩
theorem zht{H:Hp}{g:List V}{c:List 0#n}(h:WkR H g (c.map enW)){k:Nat}(hk:k<c.length):∃T U,g[k]? =some (.ref T)/\H T=some (.tup [.int (tot c k),.ref U])/\H U=some (.tup ((way c k).map fun(n:Nat)=>V.int (n:Int))):=by
 have e:c[k]? =some (c[k]'hk):=qg _;obtain⟨T,U,e1,e2,l⟩:=h.2 k (enW (c[k]'hk)) (by rw[zY,e];rfl)
 have d:c.getD k (0,[])=c[k]'hk:=by rw[qI,e];rfl
 refine⟨T,U,e1,?_,?_⟩
 ·unfold tot;rw[d];exact e2
 ·unfold way;rw[d,l]
  show some (HO.tup (((c[k]'hk).2.map fun(n:Nat)=>(n:Int)).map V.int))=_
  rw[j9];rfl
theorem zgh{c:Nat->Nat->Int}{r m:Nat}{f:Nat->Nat}{t:Nat->Int}{l:List 0#n}(g:WgA c r m f t l){k:Nat}(hk:k<m):way l k≠[]/\(way l k).length<=m:=by
 have w:=g.2 k hk;obtain⟨o,s⟩:=w.rng;refine⟨zaX s,?_⟩
 have:=wA (k:=List.range m) w.nodup fun x hx=>qt.mpr (o x hx)
 rwa[zV] at this
theorem WkR.tups{H g:Hp}{t:List V}{l:List (Int×List Int)}(h:WkR H t l)(s:∀b o,H b=some (.tup o)->g b=some (.tup o)):WkR g t l:=⟨h.1,fun j k e=>let ⟨T,U,a,b,c⟩:=h.2 j k e;⟨T,U,a,s _ _ b,s _ _ c⟩⟩
inductive zbD(D:List V)(H:Hp)(Q:VK):Prop
 | mk (a d E:Addr) (o:Obj) (J:List V) (c:Nat->Nat->Int) (n m r:Nat) (f:Nat->Nat) (u v B:Nat->Int) (t:List (Nat×Nat)) (s:List 0#n) (_:D=[.ref a,.ref d,.ref E]) (_:CsAt H a c n m) (_:H d=some (.frz o (.dK (hsV t)))) (_:H E=some (.lst J)) (_:WkR H J (s.map enW)) (_:Pot c r m f u v) (_:r<=n) (_:Hold t r f) (_:(∀j,j<m->v j<=B j)) (_:WgA c r m f B s) (_:m<=64) (_:∀A p g l,Settle c m t s A->Same H l->H p=none->l p=some (.lst g)->WkR l g (A.map enW)->Q (.ref p) l):zbD  D H Q
def zhy:Sp:=fun c H Q _=>zbD  c H Q
theorem zhL:zE ["costs","holders","walks","best","changing","column","row","other","cost","total"] ["costs","holders","walks"] (zy (topL 34)):=u0
def zcN(a:_)(d:_)(E:_)(p:_)(c:_)(m:_)(o:List (Nat×Nat))(l:_)(H:_):=fun(i:Nat) (σ:St) (g:Hp)=>(Ex6 fun(s:List V) (t u A B D:Option V)=>An4 (σ=[some (.ref a),some (.ref d),some (.ref E),some (.ref p),some (.bl (jx c m (o.take i) (l,false)).2),t,u,A,B,D]) (Same H g) (g p=some (.lst s)) (WkR g s ((jx c m (o.take i) (l,false)).1.map enW)):Prop)
def zcM(a:_)(d:_)(A:_)(p:_)(c:_)(l:Nat)(x:Nat)(st:_)(H:_):=fun(j:Nat) (σ:St) (g:Hp)=>(Ex4 fun(o:List V) (s t u:Option V)=>An4 (σ=[some (.ref a),some (.ref d),some (.ref A),some (.ref p),some (.bl (xG c l x j st).2),some (.int (l:Int)),some (.int (x:Int)),s,t,u]) (Same H g) (g p=some (.lst o)) (WkR g o ((xG c l x j st).1.map enW)):Prop)
theorem ziZ{f:Addr}{fd:FuncData}(F:Fun K "settled" "settled" (topL 34) f fd)(B:Blt I):qA P w K I G CX0 1 f fd ["costs","holders","walks"] zhy:=by
 have nd:=zhL.nd;refine F.ok zhL 0#d (fun bd A ba s H vs Q E hr h=>?_)
 ·obtain⟨a,d,wa,o,zs,c,n,m,r,f,u,v,t0,D,bs,rfl,_⟩:=h
  rfl
 ·obtain⟨a,d,wa,o,zs,c,n,m,r,f,u,v,t0,D,bs,rfl,ak,hd,b5,wk,a5,bf,am,af,wg,hm,k⟩:=h
  have bg:=yn hr;refine⟨_,(zg (zF (i:=3) nd rfl 0#a (qO wD rfl B.list j5 (za (pv 2) zb)))
   (zg (zF (i:=4) nd rfl 0#a j6)
   (zg (JI ju (qL (pv 4))
   (zg (zF (i:=4) nd rfl 0#a j6)
    (zp (qM ju rfl (V1 (V5 QE WP Qd (pv 1))) (jP rfl (zI (zB (i:=5) nd rfl 0#a) (zI (zB (i:=6) nd rfl 0#a) jd)))
    (zp (qM ju rfl (yQ rfl B.enumerate (za (zS qo (pv 0) (pv 6) 0#c) zb)) (jP rfl (zI (zB (i:=7) nd rfl 0#a) (zI (zB (i:=8) nd rfl 0#a) jd)))
     (zg (zF (i:=9) nd rfl 0#a (zK vd (zK qx (zS qF (zS qo (pv 3) (pv 5) 0#c) zj 0#c) (pv 8)) (zS qo (zS qo (pv 0) (pv 6) 0#c) (pv 5) 0#c)))
      (zp (je (qC zcf (pv 9) (zS qF (zS qo (pv 3) (pv 7) 0#c) zj 0#c) (z7 _))
      (zg (vc (jB (za (pv 9) (za (zK V7 (zS qF (zS qo (pv 3) (pv 5) 0#c) zj 0#c) (jB (za (pv 7) zb))) zb))) (JK (pv 3) (pv 7) ye))
       (zp (zF (i:=4) nd rfl 0#a j6)))
      qe)))))))))
   (zp (zA (pv 3)))))),?_⟩
  refine⟨_,rfl,wa,_,rfl,.inl (u4 b5),fun p hp=>?_⟩
  have W0:WkR (upd H p (.lst zs)) zs (bs.map enW):=wk.same (zd hp);obtain⟨aa,be⟩:=am.mem;refine⟨fun z σ H2=>∃(b:Bool) (L:List 0#n) (ys:List V) (v5 v6 v7 v8 v9:Option V),z=2*mea m v L+(if b=true then 1 else 0)/\σ=[some (.ref a),some (.ref d),some (.ref wa),some (.ref p),some (.bl b),v5,v6,v7,v8,v9]/\Same H H2/\H2 p=some (.lst ys)/\WkR H2 ys (L.map enW)/\WgA c r m f t0 L /\
   (b=true->∀es,Settle c m D L es->Settle c m D bs es)/\(b=false->Settle c m D bs L),⟨_,true,bs,zs,_,_,_,_,_,rfl,rfl,zd hp,ze,W0,wg,fun _ _ s=>s,fun z=>nomatch z⟩,?_⟩
  rintro z σ H2 ⟨b,L,ys,v5,v6,v7,v8,v9,rfl,rfl,sm,ab,au,ah,ht,hf⟩;refine⟨_,rfl,_,rfl,?_⟩
  cases b with
  | false=>exact Eq.mpr (zk qU) ⟨_,rfl,k L p ys H2 (hf rfl) sm hp ab au⟩
  | true=>
   refine Eq.mpr (zu rfl) ⟨_,fun _ _ q=>q,?_⟩
   refine⟨_,rfl,d,rfl,.inl ⟨_,.inr ⟨o,sm _ _ hd⟩⟩,d,o,hsV D,rfl,rfl,sm _ _ hd,fun q hq=>⟨q,d,o,hsV D,rfl,ze,?_,?_⟩⟩
   ·rw[zq (zo (sm _ _ hd) hq)];exact sm _ _ hd
   have bc:=ak.same sm;have bb:Same H (upd H2 q (xu q d)):=sm.trans (zd hq);have b9:p≠q:=zo ab hq;refine YW (d:=d) (o:=o) (kvs:=hsV D) (zcN a d wa p c m D L H)
    ⟨ys,_,_,_,_,_,rfl,bb,by rw[zq b9];exact ab,au.same (zd hq)⟩ (fun i σ H3 _ ⟨_,_,_,_,_,_,_,s3,_,_⟩=>s3 _ _ hd) ?_ ?_
   ·rintro i b7 ar σ H3 T hx ⟨a6,v5,v6,v7,v8,v9,rfl,s3,N,M⟩ hT
    obtain⟨⟨g,x⟩,hh,e⟩:∃h,D[i]? =some h/\(Sum.inl (h.1:Int),V.int (h.2:Int))=(b7,ar):=by
     unfold hsV at hx;rw[zY] at hx;obtain⟨h,a1,a2⟩:=qH.mp hx;exact⟨h,a1,a2⟩
    cases e;obtain⟨a4,a3⟩:=aa _ (qw hh);have a4:x<r:=a4;have a3:g=f x:=a3;have as:=ZK a5 af (hs:=D.take i) (st:=(L,false)) (fun h hh=>aa h (za6 hh)) ah
    generalize ae:jx c m (D.take i) (L,false)=st at M as;obtain⟨zc,ap,bh,b6⟩:=ak;obtain⟨A,aq,hA⟩:=b6 x (by omega)
    have lm:((List.range m).map fun j=>V.int (c x j)).length=m:=by rw[zv,zV]
    have aj:∀b,b<m->((List.range m).map fun j=>V.int (c x j))[b]? =some (.int (c x b)):=fun b hb=>by
     rw[zY,vH hb];rfl
    have al:g<m:=by rw[a3];exact a5.rng x a4
    have ag:=s3.trans (zd (o:=.tup [kV (Sum.inl (g:Int)),V.int (x:Int)]) hT);have b8:p≠T:=zo N hT;refine⟨T,_,rfl,u5 ze,rfl,_,_,rfl,_,_,rfl,rfl,?_⟩
    refine⟨_,rfl,_,rfl,a,_,_,.ref A,rfl,rfl,u4 (ag _ _ ap),jA aq,A,rfl,⟨_,u4 (ag _ _ hA)⟩,?_⟩
    refine J8 (K:=K) (a:=A) (xs:=(List.range m).map fun j=>V.int (c x j)) (zcM a d wa p c g x st H)
     ⟨a6,_,_,_,by rw[<- ae];rfl,ag,by rw[zq b8];exact N,M.same (zd hT)⟩ (fun j σ H4 _ ⟨_,_,_,_,_,s4,_,_⟩=>u4 (s4 _ _ hA)) ?_ ?_
    ·rintro j ar σ H4 T4 hj ⟨a0,v7,v8,v9,rfl,s4,ac,J⟩ ay
     have a9:j<m:=by have:=(zU.mp hj).1;rw[lm] at this;exact this
     rw[aj j a9] at hj;cases hj;have ai:WgA c r m f t0 (xG c g x j st).1:=by rw[a3];exact(VT a5 af as.1 a4 (vp a9)).1
     have er:xG c g x (j+1) st=jU c g x (xG c g x j st) j:=vY c g x j st;generalize xG c g x j st=t at J ai er;have ll:=ai.1;obtain⟨U,U',b1,b2,b3⟩:=zht J (k:=g) (by omega)
     obtain⟨O,O',c1,c2,c3⟩:=zht J (k:=j) (by omega)
     obtain⟨w1,w2⟩:=zgh ai al;have l:Same H4 (upd H4 T4 (.tup [.int (j:Int),.int (c x j)])):=zd ay;generalize aw:upd H4 T4 (.tup [.int (j:Int),.int (c x j)])=H5 at l;have az:H5 T4=some (.tup [.int (j:Int),.int (c x j)]):=by rw[<- aw];exact ze
     have Y:=l _ _ ac;have sz:sizeLine=16777216:=sizeLine_eq;refine⟨T4,_,rfl,u5 az,rfl,_,_,rfl,_,_,rfl,rfl,?_⟩
     refine⟨_,rfl,_,rfl,p,_,_,.ref U,rfl,rfl,u4 Y,jA b1,U,_,_,_,rfl,rfl,u5 (l _ _ b2),rfl,_,rfl,_,_,rfl,rfl,_,rfl,_,rfl,a,_,_,.ref A,rfl,rfl,u4 (l _ _ (s4 _ _ ap)),jA aq,_,rfl,A,_,_,.int (c x g),rfl,rfl,u4 (l _ _ (s4 _ _ hA)),jA (aj g al),_,_,rfl,rfl,?_⟩
     refine⟨_,rfl,_,rfl,_,rfl,p,_,_,.ref O,rfl,rfl,u4 Y,jA c1,O,_,_,_,rfl,rfl,u5 (l _ _ c2),rfl,_,_,rfl,rfl,_,rfl,?_⟩
     refine ym (fun cc=>?_) (fun cc=>?_)
     ·have cc:tot t.1 g+c x j-c x g<tot t.1 j:=jy cc
      refine⟨_,rfl,_,rfl,_,rfl,p,_,_,.ref U,rfl,rfl,u4 Y,jA b1,U,_,_,.ref U',rfl,rfl,u5 (l _ _ b2),rfl,_,rfl,(by show 1<=_;omega),fun q1 b0=>?_⟩
      have s5:Same H5 (upd H5 q1 (.tup [.int (j:Int)])):=zd b0;refine⟨U',q1,_,_,rfl,rfl,u5 (s5 _ _ (l _ _ b3)),u5 ze,by simpa using w1,(by rw[zv];show _+1<=_;omega),(fun z=>nomatch z),fun _ q2 b4=>?_⟩
      have s6:=s5.trans (zd (o:=.tup (((way t.1 g).map fun(n:Nat)=>V.int (n:Int))++[.int (j:Int)])) b4)
      generalize ax:upd (upd H5 q1 (.tup [.int (j:Int)])) q2 (.tup (((way t.1 g).map fun(n:Nat)=>V.int (n:Int))++[.int (j:Int)]))=H6 at s6
      have av:H6 q2=some (.tup (((way t.1 g).map fun(n:Nat)=>V.int (n:Int))++[.int (j:Int)])):=by rw[<- ax];exact ze
      refine⟨(by show 2<=_;omega),fun q3 ao=>?_⟩
      have s7:=s6.trans (zd (o:=.tup [.int (tot t.1 g+c x j-c x g),.ref q2]) ao);have a7:upd H6 q3 (.tup [.int (tot t.1 g+c x j-c x g),.ref q2]) q2=some (.tup (((way t.1 g).map fun(n:Nat)=>V.int (n:Int))++[.int (j:Int)])):=zd ao _ _ av
      have a8:upd H6 q3 (.tup [.int (tot t.1 g+c x j-c x g),.ref q2]) q3=some (.tup [.int (tot t.1 g+c x j-c x g),.ref q2]):=ze;generalize upd H6 q3 (.tup [.int (tot t.1 g+c x j-c x g),.ref q2])=H7 at s7 a7 a8;have an:=s7 _ _ Y;have yl:a0.length=m:=by rw[J.1,zv];exact ll
      refine⟨_,rfl,_,rfl,p,_,_,j,rfl,rfl,an,(by rw[yl];exact zcq a9),?_⟩
      have e1:jU c g x t j=(t.1.set j (tot t.1 g+c x j-c x g,way t.1 g++[j]),true):=zu cc;have np:∀b ys,H7 b=some (.tup ys)->b≠p:=fun b ys e z=>by rw[z,an] at e;cases e
      refine⟨a0.set j (.ref q3),some (.int (j:Int)),some (.int (c x j)),some (.int (tot t.1 g+c x j-c x g)),by rw[er,e1];rfl,fun b u e=>?_,ze,?_⟩
      ·rw[zq (zo e hp)]
       exact s7 _ _ (l _ _ (s4 _ _ e))
      ·rw[er,e1]
       show WkR _ _ ((t.1.set j (tot t.1 g+c x j-c x g,way t.1 g++[j])).map enW);rw[List.map_set];refine WkR.set (T:=q3) (U:=q2) (J.tups fun b ys e=>?_) ?_ ?_
       ·have e7:=s7 _ _ (l _ _ e)
        rw[zq (np b ys e7)];exact e7
       ·rw[zq (np _ _ a8)];exact a8
       ·rw[zq (np _ _ a7),a7]
        show _=some (HO.tup (((way t.1 g++[j]).map fun(n:Nat)=>(n:Int)).map V.int))
        rw[j9,zQ];rfl
     ·have cc:¬tot t.1 g+c x j-c x g<tot t.1 j:=fun z=>cc (zT z)
      have e1:jU c g x t j=t:=zk cc;exact⟨a0,some (.int (j:Int)),some (.int (c x j)),some (.int (tot t.1 g+c x j-c x g)),by rw[er,e1];rfl,s4.trans l,Y,by rw[er,e1];exact J.same l⟩
    ·rintro σ H4 ⟨a0,v7,v8,v9,rfl,s4,ac,J⟩
     rw[lm] at J ⊢;refine⟨a0,some (.int (g:Int)),some (.int (x:Int)),v7,v8,v9,?_,s4,ac,?_⟩
     ·rw[JM c m D (L,false) hh,ae]
     ·rw[JM c m D (L,false) hh,ae];exact J
   ·rintro σ H3 ⟨a6,v5,v6,v7,v8,v9,rfl,s3,N,M⟩
    rw[show(hsV D).length=D.length from zv _,jX] at M ⊢
    obtain⟨g1,g2,g3⟩:=ZK a5 af (hs:=D) (st:=(L,false)) aa ah;cases e:(jx c m D (L,false)).2 with
    | true=>
     have lt:mea m v (jx c m D (L,false)).1<mea m v L:=(g3 e).elim (fun z=>nomatch z) id
     exact⟨_,by rw[zu rfl];omega,true,_,a6,_,_,_,_,_,rfl,rfl,s3,N,M,g1,fun _ es s=>ht rfl es (.go e s),fun z=>nomatch z⟩
    | false=>
     have ep:=(QI e).1;exact⟨2*mea m v L,by rw[zu rfl];omega,false,L,a6,_,_,_,_,_,by rw[zk qU];rfl,rfl,s3,N,by rw[ep] at M;exact M,ah,(fun z=>nomatch z),fun _=>by
      have:=Settle.stop e;rw[ep] at this;exact ht rfl _ this⟩
def frees(c:List (Nat×Nat))(m:Nat):List Nat:=(List.range m).filter fun j=>(look c j).isNone
def Zd(g:List (Int×List Nat))(c:List (Nat×Nat))(m:Nat):Nat:=(frees c m).getD (JU ((frees c m).map fun j=>enW (g.getD j (0,[])))) 0
def wB(c:Nat->Nat->Int)(r m:Nat):List 0#n:=(List.range m).map fun j=>(c r j,[j])
def HW(c:Nat->Nat->Int)(m r:Nat)(l o:List (Nat×Nat)):Prop:=∃g,Settle c m l (wB c r m) g/\o=mdN l r (way g (Zd g l m)) (way g (Zd g l m)).length
theorem HW.uniq{c:Nat->Nat->Int}{m r:Nat}{o g l:List (Nat×Nat)}(a:HW c m r o g)(b:HW c m r o l):g=l:=by
 obtain⟨e1,s1,rfl⟩:=a;obtain⟨e2,s2,rfl⟩:=b;rw[s1.uniq s2]
theorem yR{c:List (Nat×Nat)}{m j:Nat}:j∈frees c m↔j<m/\look c j=none:=by
 unfold frees;rw[yy,qt,zfS]
theorem zcb{es:List (Int×List Nat)}{c:List (Nat×Nat)}{m:Nat}(ne:frees c m≠[]):(Zd es c m<m/\look c (Zd es c m)=none)/\∀b,b<m->look c b=none->tot es (Zd es c m)<=tot es b:=by
 have s:((frees c m).map fun j=>enW (es.getD j (0,[])))≠[]:=fun z=>ne (za2.mp z)
 have o:=Wa s;rw[zv] at o;have t:Zd es c m=(frees c m)[JU ((frees c m).map fun j=>enW (es.getD j (0,[])))]'o:=by
  unfold Zd;rw[qI,qg o];rfl
 have l:∀i (g:i<(frees c m).length),(((frees c m).map fun j=>enW (es.getD j (0,[]))).getD i (0,[])).1=tot es ((frees c m)[i]'g):=fun i g=>by
  rw[qI,zY,qg g];rfl
 refine⟨by rw[t];exact yR.mp (xB o),fun b hb u=>?_⟩
 obtain⟨i,g,e⟩:=Qz (yR.mpr ⟨hb,u⟩);have:=zgT (ps:=(frees c m).map fun j=>enW (es.getD j (0,[]))) (j:=i) (by rw[zv];exact g)
 rw[l _ o,l i g,e,<- t] at this;exact this
theorem HW.more{c:Nat->Nat->Int}{m r:Nat}{o g:List (Nat×Nat)}{f:Nat->Nat}{u v:Nat->Int}(w:HW c m r o g)(P:Pot c r m f u v)(h:Hold o r f)(hc:∀j,j<m->0<=c r j)(D:r<m):∃l t A,Pot c (r+1) m l t A/\Hold g (r+1) l:=by
 obtain⟨B,s,rfl⟩:=w;obtain⟨j,H,E⟩:=YT f D;have ne:frees o m≠[]:=zaX (yR.mpr ⟨H,h.free.mpr E⟩);obtain⟨⟨J,L⟩,M⟩:=zcb (es:=B) ne;obtain⟨l,t,A,a,b,_⟩:=P.more hc h s J L M;exact⟨l,t,A,a,b⟩
theorem zbq(c:List (Nat×Nat))(k:Nat):qD (hsV c) (Sum.inl (k:Int))=(look c k).map fun(x:Nat)=>V.int (x:Int):=by
 induction c with
 | nil=>rfl
 | cons h c g=>
  have s:look (h::c) k=if h.1=k then some h.2 else look c k:=by
   by_cases e:h.1=k<;>simp[look,e]
  by_cases e:h.1=k
  ·rw[s,zu e]
   exact jk (r:=hsV c) (show(Sum.inl (h.1:Int):Key)=Sum.inl (k:Int) by rw[e])
  ·rw[s,zk e,<- g]
   exact jn (r:=hsV c) fun z=>e (by have:=xU z;omega)
theorem YX(c:Nat->Nat->Int)(r i:Nat):wB c r (i+1)=wB c r i++[(c r i,[i])]:=by
 unfold wB;rw[vD,zQ];rfl
theorem zaG(c:List (Nat×Nat))(i:Nat):frees c (i+1)=frees c i++if look c i=none then [i] else []:=by
 unfold frees;rw[vD,WH];by_cases e:look c i=none
 ·rw[zu e];simp[e]
 ·rw[zk e]
  obtain⟨x,hx⟩:=Option.ne_none_iff_exists'.mp e;simp[hx]
theorem zgz(c:List (Nat×Nat))(k x:Nat):jN (hsV c) (Sum.inl (k:Int)) (.int (x:Int))=hsV (Q4 c k x):=by
 have g:((hsV c).any fun l=>decide (l.1=Sum.inl (k:Int)))=c.any fun h=>decide (h.1=k):=by
  unfold hsV;rw[List.any_map];congr 1
  funext h
  show decide ((Sum.inl (h.1:Int):Key)=Sum.inl (k:Int))=decide (h.1=k);exact Qu.mpr ⟨fun z=>by have:=xU z;omega,fun z=>by rw[z]⟩
 unfold jN Q4;rw[g];by_cases e:(c.any fun h=>decide (h.1=k))=true
 ·rw[zu e,zu e]
  unfold hsV;rw[j9,j9];refine Zx fun h _=>?_
  show(if(Sum.inl (h.1:Int):Key)=Sum.inl (k:Int) then((Sum.inl (h.1:Int):Key),V.int (x:Int)) else(Sum.inl (h.1:Int),V.int (h.2:Int)))=(Sum.inl (((if h.1=k then(h.1,x) else h).1:Nat):Int),V.int (((if h.1=k then(h.1,x) else h).2:Nat):Int))
  by_cases z:h.1=k
  ·rw[zu (by rw[z]),zu z]
  ·rw[zk fun y=>z (by have:=xU y;omega),zk z]
 ·rw[zk e,zk e]
  unfold hsV;rw[zQ];rfl
theorem zg0(c:List (Nat×Nat))(k x:Nat):(Q4 c k x).length<=c.length+1:=by
 unfold Q4;by_cases e:(c.any fun h=>decide (h.1=k))=true
 ·rw[zu e,zv];omega
 ·rw[zk e,qz];exact zD _
theorem zft(c:List (Nat×Nat))(r:Nat)(p:List Nat):∀i,(mdN c r p i).length<=c.length+i
 | 0=>zD _
 | i+1=>by
  have:=zft c r p i;have:=zg0 (mdN c r p i) (p.getD i 0) (cmN c r p i);show(Q4 _ _ _).length<=_;omega
theorem Hold.len{c:List (Nat×Nat)}{r m:Nat}{f:Nat->Nat}(h:Hold c r f)(l:∀x,x<r->f x<m):c.length<=m:=by
 obtain⟨a,b⟩:=h.mem;have:=wA (k:=List.range m) h.1 fun k hk=>by
  obtain⟨g,hg,rfl⟩:=qr.mp hk;obtain⟨o,s⟩:=a g hg;exact qt.mpr (by rw[s];exact l _ o)
 rwa[zv,zV] at this
inductive zep(t:List V)(H:Hp)(Q:VK):Prop
 | mk (a d:Addr) (o:Obj) (c:Nat->Nat->Int) (n m r:Nat) (f:Nat->Nat) (u v:Nat->Int) (s:List (Nat×Nat)) (_:t=[.ref a,.ref d,.int (r:Int)]) (_:CsAt H a c n m) (_:H d=some (.frz o (.dK (hsV s)))) (_:Pot c r m f u v) (_:r<n) (_:n<=m) (_:m<=63) (_:Hold s r f) (_:(∀x,x<n->∀j,j<m->0<=c x j)) (_:∀g p A l,HW c m r s g->Same H l->H p=none->l p=some (.frz A (.dK (hsV g)))->Q (.ref p) l):zep  t H Q
def zjN:Sp:=fun c H Q _=>zep  c H Q
theorem zj1:zE ["costs","holders","row","walks","total","columns","moved","comer","column"] ["costs","holders","row"] (zy (topL 35)):=u0
def zcL(a:_)(d:_)(r:Nat)(p:_)(t:List (Int×List Nat))(l:List (Nat×Nat))(m:_)(o:_)(u:_)(H:_)(c:_):=fun(i:Nat) (σ:St) (g:Hp)=>(Ex2 fun(s:V) (A:Option V)=>An5 (σ=[some (.ref a),some (.ref d),some (.int (r:Int)),some (.ref p),some (.int (enW (t.getD (Zd t l m) (0,[]))).1),some (.ref o),some (.ref u),some s,A]) (Same H g) (g o=some (.tup (c.map fun(n:Nat)=>V.int (n:Int)))) (g u=some (.dK (hsV (mdN l r c i)))) ((i<c.length->s=.int (cmN l r c i:Int))):Prop)
theorem zks{f:Addr}{fd:FuncData}(F:Fun K "holders_with" "holders_with" (topL 35) f fd)(B:Blt I)(M:Dfn P w K I G "settled" 1 ["costs","holders","walks"] zhy):qA P w K I G CX0 2 f fd ["costs","holders","row"] zjN:=by
 have nd:=zj1.nd;refine F.ok zj1 0#d (fun bc A b8 s H vs Q E hr h=>?_)
 ·obtain⟨a,d,o,c,n,m,r,f,u,v,t,rfl,_⟩:=h
  rfl
 ·obtain⟨a,d,o,c,n,m,r,f,u,v,t,rfl,ac,hd,Y,a4,bd,hm,J,ab,k⟩:=h
  have a5:=yn hr;have ai:=hr.units;refine⟨_,(zg (zF (i:=3) nd rfl 0#a (zi M hr.m rfl (za (pv 0) (za (pv 1) (za (vM [] [] rfl rfl (by kernel_rfl) (yQ rfl B.enumerate (za (zS qo (pv 0) (pv 2) 0#c) zb)) 0#k (fun _ _ _ _=>(jB (za (pv 1) (za (jB 0#t) zb))))) zb)))))
   (zg (vc (zw (zdV rfl ai) rfl B.min yq (za (vM ["holders"] [1] rfl rfl (by kernel_rfl) (yQ rfl B.enumerate (za (pv 3) zb)) (fun _ _ _ _=>(JL (zap (Vf a5 (pv 0) (pv 2))))) (fun _ _ _ _=>(pv 1))) zb)) (jP rfl (zI (zB (i:=4) nd rfl 0#a) (zI (zB (i:=5) nd rfl 0#a) jd))))
   (zg (zF (i:=6) nd rfl 0#a (qO zaK rfl B.dict Vy 0#s))
   (zg (zF (i:=7) nd rfl 0#a (pv 2))
   (zg (qM ju rfl (xm (pv 5)) (zB (i:=8) nd rfl 0#a)
   (zg (Ji a5 (pv 6) (pv 8) (pv 7) rfl)
    (zp (zF (i:=7) nd rfl 0#a (zeY a5 (pv 1) (pv 8) ⟨rfl,rfl,rfl,rfl⟩)))))
   (zp (zA (zas (pv 6))))))))),?_⟩
  obtain⟨zc,az,bf,b0⟩:=id ac;obtain⟨A,b4,hA⟩:=b0 r a4;have lm:((List.range m).map fun j=>V.int (c r j)).length=m:=by rw[zv,zV]
  have sz:sizeLine=16777216:=sizeLine_eq;refine⟨_,rfl,_,rfl,_,rfl,_,rfl,a,_,_,.ref A,rfl,rfl,u4 az,jA b4,A,rfl,⟨_,u4 hA⟩,J2 (K:=K) (a:=A) (xs:=(List.range m).map fun j=>V.int (c r j)) (fun i L H1=>Same H H1/\WkR H1 L ((wB c r i).map enW)) ⟨u6 _,WkR.nil⟩ (fun i L H1 ⟨s1,_⟩=>u4 (s1 _ _ hA)) ?_ ?_⟩
  ·rintro i x L H1 T hx ⟨s1,w1⟩ hT
   have af:i<m:=by have:=(zU.mp hx).1;rw[lm] at this;exact this
   rw[zY,vH af] at hx;cases hx;have sT:=s1.trans (zd (o:=.tup [.int (i:Int),.int (c r i)]) hT);have wT:=w1.same (zd (o:=.tup [.int (i:Int),.int (c r i)]) hT);refine⟨T,_,rfl,u5 ze,rfl,_,_,rfl,_,_,rfl,rfl,rfl,?_⟩
   generalize upd H1 T (.tup [.int (i:Int),.int (c r i)])=H2 at sT wT;refine⟨_,rfl,_,rfl,(by show 1<=_;omega),fun q1 ah=>⟨(by show 2<=_;omega),fun q2 a3=>⟨?_,?_,?_⟩⟩⟩
   ·have:=wT.1;rw[zv] at this;unfold wB at this;rw[zv,zV] at this;omega
   ·exact sT.trans ((zd ah).trans (zd a3))
   ·rw[YX,zQ]
    refine WkR.snoc (U:=q1) ((wT.same (zd ah)).same (zd a3)) ze ?_
    exact zd a3 _ _ ze
  ·rintro L H1 ⟨s1,w1⟩
   rw[lm] at w1;have zl:=w1.1;rw[zv] at zl;have fl:(wB c r m).length=m:=by unfold wB;rw[zv,zV]
   refine⟨by omega,fun wl am=>?_⟩
   have s2:=s1.trans (zd (o:=.lst L) am);have w2:=w1.same (zd (o:=.lst L) am);have al:upd H1 wl (.lst L) wl=some (.lst L):=ze;generalize upd H1 wl (.lst L)=H2 at s2 w2 al;have aj:∀j,j<m->v j<=c r j:=fun j hj=>vo (Y.neg j hj) (ab r a4 j hj)
   refine⟨a,d,wl,o,L,c,n,m,r,f,u,v,c r,t,wB c r m,rfl,ac.same s2,s2 _ _ hd,al,w2,Y,by omega,J,aj,WgA.first c r m f (c r),by omega,fun D p ys H3 st s3 hp ag ao=>?_⟩
   have s3:=s2.trans s3;obtain⟨aw,ax⟩:=J.mem;obtain⟨g,b9⟩:=st.ok Y aj aw ax (WgA.first c r m f (c r));have el:=g.1;have yl:=ao.1;rw[zv,el] at yl;refine⟨_,rfl,p,rfl,⟨_,u4 ag⟩,J2 (K:=K) (a:=p) (xs:=ys) (fun i L H4=>Same H3 H4/\WkR H4 L ((frees t i).map fun j=>enW (D.getD j (0,[])))) ⟨u6 _,WkR.nil⟩ (fun i L H4 ⟨s4,_⟩=>u4 (s4 _ _ ag)) ?_ ?_⟩
   ·rintro i x L H4 T hx ⟨s4,w4⟩ hT
    have af:i<m:=by have:=(zU.mp hx).1;omega
    obtain⟨U,U',b1,b2,b3⟩:=ao.2 i (enW (D.getD i (0,[]))) (by
     rw[zY,qI,qg (by omega)];rfl)
    rw[b1] at hx;cases hx;have sT:=s4.trans (zd (o:=.tup [.int (i:Int),.ref U]) hT);have wT:=w4.same (zd (o:=.tup [.int (i:Int),.ref U]) hT);have ar:(frees t i).length<=i:=by
     have:=WM (fun j=>(look t j).isNone) (List.range i)
     rw[zV] at this;exact this
    refine⟨T,_,rfl,u5 ze,rfl,_,_,rfl,_,_,rfl,rfl,rfl,?_⟩
    generalize upd H4 T (.tup [.int (i:Int),.ref U])=H5 at sT wT;refine⟨_,rfl,_,rfl,d,_,rfl,.inl ⟨hsV t,Sum.inl (i:Int),.inr ⟨o,sT _ _ (s3 _ _ hd)⟩,rfl,rfl⟩,_,rfl,?_⟩
    rw[zbq,zaG];refine ym (fun z=>⟨_,rfl,?_,sT,?_⟩) (fun z=>⟨sT,?_⟩)
    ·have:=wT.1;rw[zv] at this;omega
    ·have:look t i=none:=by
      cases q:look t i with
      | none=>rfl
      | some y=>rw[q] at z;cases z
     rw[zu this,zQ];exact WkR.snoc (U:=U') wT (sT _ _ b2) (sT _ _ b3)
    ·have:¬look t i=none:=fun q=>z (by rw[q];rfl)
     rw[zk this,Qs];exact wT
   ·rintro N H4 ⟨s4,w4⟩
    rw[yl] at w4;have z4:=w4.1;rw[zv] at z4;have ar:(frees t m).length<=m:=by
     have:=WM (fun j=>(look t j).isNone) (List.range m)
     rw[zV] at this;exact this
    obtain⟨j0,b6,b5⟩:=YT f (show r<m by omega)
    have ne:frees t m≠[]:=zaX (yR.mpr ⟨b6,J.free.mpr b5⟩);obtain⟨⟨p1,p2⟩,p3⟩:=zcb (es:=D) ne;obtain⟨f',u',v',bb,ay,ch⟩:=Y.more (fun j hj=>ab r a4 j hj) J st p1 p2 p3
    have an:((frees t m).map fun j=>enW (D.getD j (0,[])))≠[]:=fun z=>ne (za2.mp z)
    have lt:=Wa an;rw[zv] at lt;have aq:((frees t m).map fun j=>enW (D.getD j (0,[])))[JU ((frees t m).map fun j=>enW (D.getD j (0,[])))]? =some (enW (D.getD (Zd D t m) (0,[]))):=by
     unfold Zd;rw[zY,qI (l:=frees t m),qg lt];rfl
    obtain⟨TT,UU,t1,t2,t3⟩:=w4.2 _ _ aq;have ap:HW c m r t (mdN t r (way D (Zd D t m)) (way D (Zd D t m)).length):=⟨D,st,rfl⟩;have ba:H4 UU=some (.tup ((way D (Zd D t m)).map fun(n:Nat)=>V.int (n:Int))):=by
     rw[t3];show some (HO.tup (((way D (Zd D t m)).map fun(n:Nat)=>(n:Int)).map V.int))=_
     rw[j9];rfl
    refine⟨by omega,fun l hl=>?_⟩
    have s5:=s4.trans (zd (o:=.lst N) hl);have u2:=zd (o:=.lst N) hl _ _ t2;have u3:=zd (o:=.lst N) hl _ _ ba;have w5:=w4.same (zd (o:=.lst N) hl);refine⟨l,N,_,rfl,u4 ze,w5,an,fun vv ak=>?_⟩
    rw[t1] at ak;cases ak;generalize upd H4 l (.lst N)=H5 at s5 u2 u3;refine⟨TT,_,rfl,u5 u2,rfl,_,_,rfl,_,_,rfl,rfl,?_⟩
    have s6:=s3.trans s5;refine⟨_,rfl,d,hsV t,rfl,.inr ⟨o,s6 _ _ hd⟩,fun mp O=>?_⟩
    have be:=J.len Y.rng;have cr:=ch.rng;have cn:=ch.nodup;have a9:=ch.next
    generalize way D (Zd D t m)=pp at ap u3 cr cn a9;have bg:pp.length<=m:=by
     have:=wA (k:=List.range m) cn fun x hx=>qt.mpr (cr.1 x hx)
     rwa[zV] at this
    have a7:H mp=none:=Same.free s6 O;have s7:=s6.trans (zd (o:=.dK (hsV t)) O);have b7:UU≠mp:=zo u3 O;refine⟨_,rfl,_,rfl,UU,rfl,⟨_,u5 (zd O _ _ u3)⟩,?_⟩
    refine ZN (K:=K) (a:=UU) (xs:=pp.map fun(n:Nat)=>V.int (n:Int)) (zcL a d r p D t m UU mp H pp)
     ⟨_,_,rfl,s7,zd O _ _ u3,ze,fun _=>rfl⟩ (fun i σ H7 _ ⟨_,_,_,_,h,_,_⟩=>u5 h) ?_ ?_
    ·rintro i x σ H7 hx ⟨cm,v8,rfl,a8,aa,a0,as⟩
     rw[zY] at hx;obtain⟨y,hy,rfl⟩:=qH.mp hx;have hi:=(zU.mp hy).1;have ae:pp.getD i 0=y:=by rw[qI,hy];rfl
     cases as hi;have ml:=zft t r pp i;have av:(hsV (mdN t r pp i)).length<sizeLine:=by unfold hsV;rw[zv];omega
     refine⟨_,rfl,_,rfl,_,rfl,mp,_,rfl,DPut.k (k:=Sum.inl (y:Int)) a0 av,?_⟩
     have a6:∀b u,H b=some u->upd H7 mp (.dK (jN (hsV (mdN t r pp i)) (Sum.inl (y:Int)) (.int (cmN t r pp i:Int)))) b=some u:=fun b u e=>by
      rw[zq (zo e a7)];exact a8 _ _ e
     refine⟨_,rfl,d,rfl,.inl ⟨_,.inr ⟨o,a6 _ _ hd⟩⟩,_,rfl,_,.inl ⟨hsV t,Sum.inl (y:Int),.inr ⟨o,a6 _ _ hd⟩,rfl,rfl⟩,?_⟩
     rw[zbq];refine⟨_,_,rfl,a6,by rw[zq b7];exact aa,?_,fun au=>?_⟩
     ·rw[ze,zgz]
      show _=some (HO.dK (hsV (Q4 (mdN t r pp i) (pp.getD i 0) (cmN t r pp i))));rw[ae]
     ·obtain⟨x',a1,a2,_,_⟩:=a9 i y _ hy (qg au)
      have lk:look t y=some x':=(J.2 y x').mpr ⟨a1,a2⟩;unfold cmN;rw[zk (Nat.succ_ne_zero i),Nat.add_sub_cancel,ae,lk];rfl
    ·rintro σ H7 ⟨cm,v8,rfl,a8,aa,a0,_⟩
     rw[zv] at a0;exact⟨_,rfl,mp,_,rfl,a0,fun o'=>k _ mp o' _ ap (fun b u e=>by rw[zq (zo e a7)];exact a8 _ _ e) a7 ze⟩
inductive AH(c:Nat->Nat->Int)(m:Nat):Nat->List (Nat×Nat)->Prop
 | zero:AH c m 0 []
 | succ {r:Nat} {l g:List (Nat×Nat)}:AH c m r l->HW c m r l g->AH c m (r+1) g
theorem AH.uniq{c:Nat->Nat->Int}{m:Nat}:∀{r:Nat} {g l:List (Nat×Nat)},AH c m r g->AH c m r l->g=l
 | 0,_,_,.zero,.zero=>rfl
 | r+1,_,_,.succ a x,.succ b y=>by
  have:=a.uniq b;subst this;exact x.uniq y
theorem AH.ok{c:Nat->Nat->Int}{m n:Nat}(l:n<=m)(hc:∀x,x<n->∀j,j<m->0<=c x j):∀{r:Nat} {g:List (Nat×Nat)},AH c m r g->r<=n->∃f u v,Pot c r m f u v/\Hold g r f
 | 0,_,.zero,_=>⟨fun _=>0,_,_,Pot.zero c m _,Hold.nil _⟩
 | r+1,_,.succ a w,h=>by
  obtain⟨f,u,v,P,H⟩:=AH.ok l hc a (by omega)
  exact w.more P H (hc r (by omega)) (by omega)
inductive zev(o:List V)(H:Hp)(Q:VK):Prop
 | mk (a:Addr) (c:Nat->Nat->Int) (n m:Nat) (_:o=[.ref a]) (_:CsAt H a c n m) (_:n<=m) (_:m<=63) (_:(∀x,x<n->∀j,j<m->0<=c x j)) (_:∀l p s g,AH c m n l->Same H g->H p=none->g p=some (.frz s (.dK (hsV l)))->Q (.ref p) g):zev  o H Q
def zjR:Sp:=fun c H Q _=>zev  c H Q
theorem zj5:zE ["costs","holders","row"] ["costs"] (zy (topL 36)):=u0
def zcK(a:_)(c:_)(m:_)(H:_):=fun(i:Nat) (σ:St) (g:Hp)=>(Ex4 fun(l:List (Nat×Nat)) (q:Addr) (o:Obj) (s:Option V)=>An5 (σ=[some (.ref a),some (.ref q),s]) (AH c m i l) (Same H g) (H q=none) (g q=some (.frz o (.dK (hsV l)))):Prop)
theorem zkw{f:Addr}{fd:FuncData}(F:Fun K "all_holders" "all_holders" (topL 36) f fd)(B:Blt I)(g:Dfn P w K I G "holders_with" 2 ["costs","holders","row"] zjN):qA P w K I G CX0 3 f fd ["costs"] zjR:=by
 have nd:=zj5.nd;refine F.ok zj5 0#d (fun a5 A a3 s H vs Q E hr h=>?_)
 ·obtain⟨a,c,n,m,rfl,_⟩:=h
  rfl
 ·obtain⟨a,c,n,m,rfl,J,L,hm,D,k⟩:=h
  refine⟨_,(zg (zF (i:=1) nd rfl 0#a (zas ZJ))
   (zg (qM ju rfl (qX rfl B.range (za (zw zR rfl B.len boot_len 0#t) zb)) (zB (i:=2) nd rfl 0#a)
   (zp (zF (i:=1) nd rfl 0#a (zi g hr.m rfl (za (pv 0) (za (pv 1) (za (pv 2) zb)))))))
   (zp (zA (pv 1))))),?_⟩
  obtain⟨zc,a2,N,a6⟩:=id J;have t:(2^62:Int)=4611686018427387904:=by decide
  refine fun p U=>⟨p,_,rfl,ze,fun o=>?_⟩
  have s1:Same H (upd (upd H p (.dK [])) p (.frz o (.dK []))):=fun b u e=>by rw[zq (zo e U),zq (zo e U)];exact e
  have h1:upd (upd H p (.dK [])) p (.frz o (.dK [])) p=some (.frz o (.dK (hsV []))):=ze;generalize upd (upd H p (.dK [])) p (.frz o (.dK []))=H1 at s1 h1;refine⟨_,rfl,a,_,rfl,.inl (u4 (s1 _ _ a2)),_,rfl,by rw[t,N];omega,by rw[t,N];omega,?_⟩
  rw[show((zc.length:Nat):Int).toNat=n by omega]
  refine jC (n:=n) (zcK a c m H) ⟨[],p,o,_,rfl,.zero,s1,U,h1⟩ ?_ ?_
  ·rintro i σ H2 T ⟨hs,q,o2,v2,rfl,O,s2,hq,l⟩
   have T:i<n:=by omega
   obtain⟨f,u,v,a4,M⟩:=O.ok L D (vp T);refine⟨_,rfl,_,rfl,_,rfl,a,q,o2,c,n,m,i,f,u,v,hs,(by rw[Int.zero_add];rfl),J.same s2,l,a4,T,L,hm,M,D,fun a1 p' o' H3 hw s3 Y a0=>?_⟩
   exact⟨a1,p',o',_,rfl,.succ O hw,s2.trans s3,s2.free Y,a0⟩
  ·rintro σ H2 ⟨hs,q,o2,v2,rfl,O,s2,hq,l⟩
   exact⟨_,rfl,k hs q o2 H2 O s2 hq l⟩
theorem zce:∀{l k:List 0#o},l.Pairwise (fun a b=>ltP a b=true)->k.Pairwise (fun a b=>ltP a b=true)->(∀x,x∈l↔x∈k)->l=k
 | [],[],_,_,_=>rfl
 | [],b::k,_,_,h=>absurd ((h b).mpr (by simp)) (by simp)
 | a::l,[],_,_,h=>absurd ((h a).mp (by simp)) (by simp)
 | a::l,b::k,p,q,h=>by
  rw[Qy] at p q;have c:∀{x y:Int×Int},ltP x y=true->ltP y x=true->False:=fun g o=>by
   have:=zfo g o;rw[yT] at this;cases this
  have e:a=b:=by
   rcases zC.mp ((h a).mp (by simp)) with z | z
   ·exact z
   ·rcases zC.mp ((h b).mpr (by simp)) with y | y
    ·exact y.symm
    ·exact(c (q.1 a z) (p.1 b y)).elim
  subst e;have:l=k:=zce p.2 q.2 fun x=>⟨fun hx=>?_,fun hx=>?_⟩
  ·rw[this]
  ·rcases zC.mp ((h x).mp (z9 _ hx)) with z | z
   ·subst z
    have:=p.1 x hx;rw[yT] at this;cases this
   ·exact z
  ·rcases zC.mp ((h x).mpr (z9 _ hx)) with z | z
   ·subst z
    have:=q.1 x hx;rw[yT] at this;cases this
   ·exact z
def swp(h:Nat×Nat):Int×Int:=((h.2:Int),(h.1:Int))
theorem zgv{l:List (Nat×Nat)}{r:Nat}{f:Nat->Nat}(h:Hold l r f){c:List 0#o}(u:c.Perm (l.map swp))(A:c.Pairwise fun a b=>ltP a b=true):c=(List.range r).map fun(x:Nat)=>((x:Int),(f x:Int)):=by
 obtain⟨o,s⟩:=h.mem;refine zce A ?_ fun q=>?_
 ·rw[wO]
  refine zba.imp fun {x y} t=>zT (.inl ?_)
  show(x:Int)<(y:Int);omega
 ·rw[u.mem_iff,qr,qr]
  constructor
  ·rintro⟨g,hg,rfl⟩
   obtain⟨a,b⟩:=o g hg;refine⟨g.2,qt.mpr a,?_⟩
   unfold swp;rw[b]
  ·rintro⟨x,hx,rfl⟩
   exact⟨(f x,x),s x (qt.mp hx),rfl⟩
theorem zda{c:List (Nat×Nat)}{r:Nat}{f:Nat->Nat}(h:Hold c r f):(c.map swp).Nodup:=by
 have g:=h.1;rw[List.Nodup,wO] at g ⊢;refine g.imp fun {a b} ne e=>ne ?_
 have:=congrArg Prod.snd e;show a.1=b.1;have l:(a.1:Int)=(b.1:Int):=this;omega
inductive zet(l:List V)(H:Hp)(Q:VK):Prop
 | mk (d:Addr) (o:Obj) (r m:Nat) (f:Nat->Nat) (g:List (Nat×Nat)) (_:l=[.ref d]) (_:H d=some (.frz o (.dK (hsV g)))) (_:Hold g r f) (_:(∀x,x<r->f x<m)) (_:m<=63) (_:∀p c,Same H c->H p=none->c p=some (.lst ((List.range r).map fun(x:Nat)=>V.int (f x:Int)))->Q (.ref p) c):zet  l H Q
def zjP:Sp:=fun c H Q _=>zet  c H Q
theorem zj3:zE ["holders"] ["holders"] (zy (topL 37)):=u0
theorem zku{f:Addr}{fd:FuncData}(F:Fun K "columns_by" "columns_by" (topL 37) f fd)(B:Blt I):qA P w K I G CX0 1 f fd ["holders"] zjP:=by
 have nd:=zj3.nd;refine F.ok zj3 0#d (fun a5 A a3 s H vs Q E hr h=>?_)
 ·obtain⟨d,o,r,m,f,t,rfl,_⟩:=h
  rfl
 ·obtain⟨d,o,r,m,f,t,rfl,hd,c,M,hm,k⟩:=h
  have sz:sizeLine=16777216:=sizeLine_eq;have a7:=c.len M;refine⟨_,(zp (zA (vM [] [] rfl rfl (by kernel_rfl) (jL (zw Wm rfl B.sorted yp (za (vM [] [] rfl rfl (by kernel_rfl) (V1 (V5 QE WP Qd (pv 0))) 0#k (fun _ _ _ _=>(jB (za (pv 1) 0#t)))) zb))) 0#k (fun _ _ _ _=>(pv 1))))),?_⟩
  refine⟨_,rfl,d,rfl,.inl ⟨_,.inr ⟨o,hd⟩⟩,d,o,hsV t,rfl,rfl,hd,fun pv N=>⟨pv,d,o,hsV t,rfl,ze,by rw[zq (zo hd N)];exact hd,zg2 (d:=d) (o:=o) (kvs:=hsV t) (fun i g J=>Same H J/\PrR J g ((t.take i).map swp)) ⟨zd N,PrR.nil⟩ (fun i g J ⟨s1,_⟩=>s1 _ _ hd) ?_ ?_⟩⟩
  ·rintro i a0 a4 g J T hx ⟨s1,w1⟩ hT
   obtain⟨⟨kk,x⟩,hh,e⟩:∃h,t[i]? =some h/\(Sum.inl (h.1:Int),V.int (h.2:Int))=(a0,a4):=by
    unfold hsV at hx;rw[zY] at hx;obtain⟨h,a1,Y⟩:=qH.mp hx;exact⟨h,a1,Y⟩
   cases e;have hi:=(zU.mp hh).1;refine⟨T,_,rfl,u5 ze,rfl,_,_,rfl,_,_,rfl,rfl,rfl,?_⟩
   refine⟨_,rfl,_,rfl,(by show 2<=_;omega),fun q hq=>⟨?_,s1.trans ((zd hT).trans (zd hq)),?_⟩⟩
   ·have:=w1.1;rw[zv,jv] at this;omega
   ·rw[zaS,hh,zaZ,zQ]
    exact PrR.snoc (q:=swp (kk,x)) ((w1.same (zd hT)).same (zd hq)) ze
  ·rintro g J ⟨s1,w1⟩
   rw[show(hsV t).length=t.length from zv _,jX] at w1
   have zl:=w1.1;rw[zv] at zl;refine⟨by omega,fun l hl=>⟨l,g,t.map swp,rfl,u4 ze,w1.same (zd hl),zda c,by rw[zv];omega,fun O qs L u pm pw pr=>?_⟩⟩
   have s2:=s1.trans (zd (o:=.lst g) hl);generalize upd J l (.lst g)=H2 at u pr s2;have eq:=zgv c pm pw;subst eq;have s3:=s2.trans (zd (o:=.lst L) u);have D:=pr.same (zd (o:=.lst L) u);have h3:upd H2 O (.lst L) O=some (.lst L):=ze;generalize upd H2 O (.lst L)=H3 at s3 D h3;have yl:=D.1;rw[zv,zV] at yl;have a6:r<=m:=by
    have:=wA (l:=(List.range r).map f) (k:=List.range m) (by
     rw[List.Nodup,wO];refine(Zt (n:=r)).imp_of_mem fun {x y} hx hy ne e=>ne ?_
     have a1:=(c.2 (f x) x).mpr ⟨qt.mp hx,rfl⟩;have Y:=(c.2 (f x) y).mpr ⟨qt.mp hy,e.symm⟩;rw[a1] at Y;exact qT Y) fun j hj=>by
      obtain⟨x,hx,rfl⟩:=qr.mp hj;exact qt.mpr (M x (qt.mp hx))
    rwa[zv,zV,zV] at this
   refine⟨O,rfl,⟨_,u4 h3⟩,xw (K:=K) (a:=O) (xs:=L) (fun i g U=>U=H3/\g=(List.range i).map fun(x:Nat)=>V.int (f x:Int)) ⟨rfl,rfl⟩ (fun i g U ⟨e,_⟩=>by rw[e];exact u4 h3) ?_ ?_⟩
   ·rintro i x g U hx ⟨rfl,rfl⟩
    have hi:=(zU.mp hx).1;obtain⟨T,e1,e2⟩:=D.2 i ((i:Int),(f i:Int)) (by rw[zY,vH (by omega)];rfl)
    rw[e1] at hx;cases hx;refine⟨T,_,rfl,u5 e2,rfl,_,_,rfl,_,_,rfl,rfl,rfl,_,rfl,?_,rfl,?_⟩
    ·rw[zv,zV];omega
    ·rw[vD,zQ];rfl
   ·rintro g U ⟨rfl,rfl⟩
    rw[yl];exact⟨by rw[zv,zV];omega,fun q hq=>k q _ (s3.trans (zd hq)) (s3.free hq) ze⟩
inductive zby(K:W.Frag)(o:List V)(H:Hp)(Q:VK):Prop
 | mk (a l:Addr) (c:Nat->Nat->Int) (n m:Nat) (f:Nat->Nat) (_:o=[.ref a,.ref l]) (_:CsAt H a c n m) (_:SqL K H l ((List.range n).map fun(x:Nat)=>V.int (f x:Int))) (_:(∀x,x<n->f x<m)) (_:n<=63) (_:(∀x,x<n->∀j,j<m->0<=c x j/\c x j<=1000000)) (_:∀g,Same H g->Q (.int (qW n fun x=>c x (f x))) g):zby K o H Q
def zhx(K:W.Frag):Sp:=fun c H Q _=>zby K c H Q
theorem zhK:zE ["costs","columns"] ["costs","columns"] (zy (topL 38)):=u0
theorem ziY{f:Addr}{Y:FuncData}(F:Fun K "sum_at" "sum_at" (topL 38) f Y)(B:Blt I):qA P w K I G CX0 1 f Y ["costs","columns"] (zhx K):=by
 have nd:=zhK.nd;refine F.ok zhK 0#d (fun a0 A U s H vs Q E hr h=>?_)
 ·obtain⟨a,l,c,n,m,f,rfl,_⟩:=h
  rfl
 ·obtain⟨a,l,c,n,m,f,rfl,J,hl,t,hn,hc,k⟩:=h
  have sz:sizeLine=16777216:=sizeLine_eq;refine⟨_,(zp (zA (zw (yW rfl) rfl B.sum boot_sum (za (vM ["costs"] [0] rfl rfl (by kernel_rfl) (yQ rfl B.enumerate 0#s) 0#k (fun _ _ _ _=>(zS (wb (K:=K) rfl) (zS (wb (K:=K) rfl) (pv 2) (pv 0) 0#c) (pv 1) 0#c))) zb)))),?_⟩
  obtain⟨zc,M,a1,N⟩:=id J;refine⟨_,rfl,l,rfl,⟨_,hl⟩,J2 (K:=K) (a:=l) (xs:=(List.range n).map fun(x:Nat)=>V.int (f x:Int)) (fun i D g=>Same H g/\D=((List.range i).map fun x=>c x (f x)).map V.int) ⟨u6 _,rfl⟩ (fun i D g ⟨s1,_⟩=>s1.seq hl) ?_ ?_⟩
  ·rintro i x D g T hx ⟨s1,rfl⟩ hT
   have L:i<n:=by have:=(zU.mp hx).1;rw[zv,zV] at this;exact this
   rw[zY,vH L] at hx;cases hx;obtain⟨A,O,hA⟩:=N i L;have u:=s1.trans (zd (o:=.tup [.int (i:Int),.int (f i:Int)]) hT);refine⟨T,_,rfl,u5 ze,rfl,_,_,rfl,_,_,rfl,rfl,rfl,?_⟩
   generalize upd g T (.tup [.int (i:Int),.int (f i:Int)])=H2 at u;refine⟨_,rfl,_,rfl,a,_,_,.ref A,rfl,rfl,u4 (u _ _ M),jA O,_,rfl,A,_,_,.int (c i (f i)),rfl,rfl,u4 (u _ _ hA),jA (by rw[zY,vH (t i L)];rfl),?_,u,?_⟩
   ·rw[zv,zv,zV];omega
   ·rw[vD,zQ,zQ];rfl
  ·rintro D g ⟨s1,rfl⟩
   have ln:((List.range n).map fun(x:Nat)=>V.int (f x:Int)).length=n:=by rw[zv,zV]
   rw[ln];refine⟨by rw[zv,zv,zV];omega,fun q hq=>⟨q,_,rfl,u4 ze,fun z hz=>?_,by rw[zv,zV];omega,k _ (s1.trans (zd hq))⟩⟩
   obtain⟨x,hx,rfl⟩:=qr.mp hz;have hx:=qt.mp hx;exact hc x hx _ (t x hx)
def zlr(H:Hp)(p l:Addr)(c:Nat->Nat->Int)(n:Nat)(f:Nat->Nat):Prop:=H p=some (.tup [.int (qW n fun x=>c x (f x)),.ref l])/\H l=some (.lst ((List.range n).map fun(x:Nat)=>V.int (f x:Int)))
inductive zen(s:List V)(H:Hp)(Q:VK):Prop
 | mk (a:Addr) (c:Nat->Nat->Int) (n m:Nat) (_:s=[.ref a]) (_:CsAt H a c n m) (_:n<=m) (_:m<=63) (_:(∀x,x<n->∀j,j<m->0<=c x j/\c x j<=1000000)) (_:∀o f u v p l g,AH c m n o->Hold o n f->Pot c n m f u v->Same H g->H p=none->H l=none->zlr g p l c n f->Q (.ref p) g):zen  s H Q
def zis:Sp:=fun c H Q _=>zen  c H Q
theorem zjZ:zE ["costs","columns"] ["costs"] (zy (topL 39)):=u0
theorem zkq{f:Addr}{fd:FuncData}(F:Fun K "matched_slots" "matched_slots" (topL 39) f fd)(B:Blt I)(g:Dfn P w K I G "all_holders" 3 ["costs"] zjR)(t:Dfn P w K I G "columns_by" 1 ["holders"] zjP)
  (D:Dfn P w K I G "sum_at" 1 ["costs","columns"] (zhx K)):qA P w K I G CX0 4 f fd ["costs"] zis:=by
 have nd:=zjZ.nd;refine F.ok zjZ 0#d (fun a1 A a0 s H vs Q E hr h=>?_)
 ·obtain⟨a,c,n,m,rfl,_⟩:=h
  rfl
 ·obtain⟨a,c,n,m,rfl,T,U,hm,hc,k⟩:=h
  have sz:sizeLine=16777216:=sizeLine_eq;refine⟨_,(zg (zF (i:=1) nd rfl 0#a (zi t hr.m rfl (za (zi g hr.m rfl 0#t) zb)))
   (zp (zA (jB (za (zi D hr.m rfl (za (pv 0) 0#s)) 0#s))))),?_⟩
  have O:∀x,x<n->∀j,j<m->0<=c x j:=fun x hx j hj=>(hc x hx j hj).1
  refine⟨_,rfl,a,c,n,m,rfl,T,U,hm,O,fun hs d o H1 ah s1 hd Y=>?_⟩
  obtain⟨f,u,v,M,J⟩:=ah.ok U O (zD _);refine⟨d,o,n,m,f,hs,rfl,Y,J,M.rng,hm,fun l H2 s2 hl L=>?_⟩
  have s2:=s1.trans s2;refine⟨_,rfl,_,rfl,a,l,c,n,m,f,rfl,T.same s2,u4 L,M.rng,by omega,hc,fun H3 s3=>?_⟩
  refine⟨_,rfl,(by show 2<=_;omega),fun p hp=>?_⟩
  have N:=s2.trans s3;exact k hs f u v p l _ ah J M (fun b x e=>by rw[zq (zo (N _ _ e) hp)];exact N _ _ e) (Same.free N hp) (Same.free s1 hl) ⟨ze,by rw[zq (zo (s3 _ _ L) hp)];exact s3 _ _ L⟩
def jT(M:Nat):Key:=Sum.inl (M:Int)
def Cov(c:List (Key×V))(M:Nat)(g:Int):Prop:=∃t,qD c (jT M)=some (.int t)/\t<=g
theorem ZM{a b:Nat}(h:jT a=jT b):a=b:=by have:=xU h;omega
theorem Cov.put{c:List (Key×V)}{M N:Nat}{g t:Int}(h:Cov c M g)(o:N=M->t<=g):Cov (jN c (jT N) (.int t)) M g:=by
 obtain⟨s,e,l⟩:=h;by_cases z:N=M
 ·exact⟨t,by rw[vV,zu (by rw[z])],o z⟩
 ·exact⟨s,by rw[vV,zk fun y=>z (ZM y).symm];exact e,l⟩
theorem zgV{c:List (Key×V)}{k:Key}{v:V}{q:Key×V}(h:q∈jN c k v):q∈c\/q=(k,v):=by
 unfold jN at h;by_cases e:(c.any fun l=>decide (l.1=k))=true
 ·rw[zu e] at h
  obtain⟨p,g,rfl⟩:=qr.mp h;by_cases z:p.1=k
  ·rw[zu z,z];exact .inr rfl
  ·rw[zk z];exact .inl g
 ·rw[zk e] at h
  exact(ja.mp h).imp id fun z=>zW.mp z
theorem zdC{c:List (Key×V)}{k:Key}{v:V}(l:(c.map (·.1)).Nodup):((jN c k v).map (·.1)).Nodup:=by
 unfold jN;by_cases h:(c.any fun s=>decide (s.1=k))=true
 ·rw[zu h,j9]
  have:((fun h:Key×V=>h.1)∘fun h:Key×V=>if h.1=k then(h.1,v) else h)=fun h=>h.1:=by
   funext g
   show(if g.1=k then(g.1,v) else g).1=g.1
   by_cases e:g.1=k
   ·rw[zu e]
   ·rw[zk e]
  rw[this];exact l
 ·rw[zk h,zQ,y6]
  refine⟨l,by simp,fun a o b hb e=>h ?_⟩
  obtain⟨g,hg,rfl⟩:=qr.mp o;have:b=k:=by simpa using hb
  exact Qv.mpr ⟨g,hg,zT (e.trans this)⟩
theorem ya{c:List (Key×V)}{k:Key}{v:V}(h:qD c k=some v):∃i:Nat,c[i]? =some (k,v):=by
 unfold qD at h;obtain⟨p,g,rfl⟩:=qH.mp h;have l:=List.find?_some g
 have e:p.1=k:=jy l;obtain⟨i,o⟩:=Xz.mp (zfT g);exact⟨i,by rw[o,<- e]⟩
theorem zgW{g:Nat->Nat}{n m:Nat}(l:∀x,x<n->g x<m)(c:∀x,x<n->∀y,y<n->g x=g y->x=y):yj g n<2^m:=by
 refine Nat.lt_pow_two_of_testBit _ fun i o=>?_
 rw[Nat.testBit_eq_decide_div_mod_eq];have:=(ZL c i).2 fun x hx e=>by have:=l x hx;omega
 exact jb (by omega)
structure Dp(c:Nat->Nat->Int)(m i:Nat)(kvs:List (Key×V)):Prop where
 nd:(kvs.map (·.1)).Nodup
 snd:∀q∈kvs,∃M t,q=(jT M,V.int t)/\SndM c m i M t
 cov:∀f:Nat->Nat,(∀x,x<i->f x<m)->(∀x,x<i->∀y,y<i->f x=f y->x=y)->Cov kvs (yj f i) (qW i fun x=>c x (f x))
theorem Dp.zero(c:Nat->Nat->Int)(m:Nat):Dp c m 0 [(jT 0,V.int 0)]:=
 ⟨by simp,fun q hq=>⟨0,0,zW.mp hq,SndM.zero c m⟩,fun f _ _=>⟨0,rfl,xT _⟩⟩
theorem zgr{c:Nat->Nat->Int}{m i:Nat}{l:List (Key×V)}(u:m<=13)(A:(l.map (·.1)).Nodup)(sn:∀q∈l,∃M t,q=(jT M,V.int t)/\SndM c m i M t):l.length<=8192:=by
 have:=wA (k:=(List.range 8192).map jT) A fun k hk=>by
  obtain⟨q,hq,rfl⟩:=qr.mp hk;obtain⟨M,t,rfl,g,o,s,rfl,_⟩:=sn q hq;have B:=zgW o s;have:2^m<=2^13:=za5 (by decide) u
  exact qr.mpr ⟨_,qt.mpr (by omega),rfl⟩
 rwa[zv,zv,zV] at this
structure Dq(c:Nat->Nat->Int)(m i:Nat)(kvs more:List (Key×V))(e k:Nat):Prop where
 nd:(more.map (·.1)).Nodup
 snd:∀q∈more,∃M t,q=(jT M,V.int t)/\SndM c m (i+1) M t
 cov:∀(e' M k':Nat) (t:Int),kvs[e']? =some (jT M,.int t)->k'<m->(e'<e\/e'=e/\k'<k)->M/2^k' % 2=0->Cov more (M+2^k') (t+c i k')
theorem Dq.zero(c:Nat->Nat->Int)(m i:Nat)(g:List (Key×V)):Dq c m i g [] 0 0:=⟨vq,(fun q hq=>nomatch hq),fun l M o t _ _ h _=>by omega⟩
theorem Dq.turn{c:Nat->Nat->Int}{m i:Nat}{g more:List (Key×V)}{e:Nat}(d:Dq c m i g more e m):Dq c m i g more (e+1) 0:=
 ⟨d.nd,d.snd,fun l M A t o s B u=>d.cov l M A t o s (by omega) u⟩
theorem Dq.skip{c:Nat->Nat->Int}{m i:Nat}{g more:List (Key×V)}{e k M:Nat}{t:Int}(d:Dq c m i g more e k)(D:g[e]? =some (jT M,.int t))(hb:¬M/2^k % 2=0):Dq c m i g more e (k+1):=by
 refine⟨d.nd,d.snd,fun o A u E l B H s=>?_⟩
 by_cases z:o=e/\u=k
 ·obtain⟨rfl,rfl⟩:=z
  rw[D] at l;have:=ZM (congrArg Prod.fst (qT l));subst this;exact absurd s hb
 ·exact d.cov o A u E l B (by omega) s
theorem Dq.put{c:Nat->Nat->Int}{m i:Nat}{g more:List (Key×V)}{e k M:Nat}{t s:Int}(d:Dq c m i g more e k)(O:g[e]? =some (jT M,.int t))(sn:SndM c m i M t)(hk:k<m)(hb:M/2^k % 2=0)
  (U:s<=t+c i k) (T:∀x,qD more (jT (M+2^k))=some (.int x)->s<=x) (hv:s=t+c i k\/qD more (jT (M+2^k))=some (.int s)):Dq c m i g (jN more (jT (M+2^k)) (.int s)) e (k+1):=by
 refine⟨zdC d.nd,fun q hq=>?_,fun B J D E l L h3 N=>?_⟩
 ·rcases zgV hq with z | z
  ·exact d.snd q z
  ·refine⟨M+2^k,s,z,?_⟩
   rcases hv with y | y
   ·rw[y];exact sn.next hk hb
   ·obtain⟨j,Q⟩:=ya y
    obtain⟨M2,Y,e2,s2⟩:=d.snd _ (qw Q);have o:=ZM (congrArg Prod.fst e2);have u:V.int s=V.int Y:=congrArg Prod.snd e2;cases u;rw[o];exact s2
 ·by_cases z:B=e/\D=k
  ·obtain⟨rfl,rfl⟩:=z
   rw[O] at l;have l:=qT l;have o:=ZM (congrArg Prod.fst l);have u:V.int t=V.int E:=congrArg Prod.snd l;cases u;subst o;exact⟨s,by rw[vV,zu rfl],U⟩
  ·have A:=d.cov B J D E l L (by omega) N
   refine A.put fun y=>?_
   obtain⟨x,H,x2⟩:=A;rw[<- y] at H;exact vo (T x H) x2
theorem Dq.done{c:Nat->Nat->Int}{m i:Nat}{g more:List (Key×V)}(p:Dp c m i g)(d:Dq c m i g more g.length 0):Dp c m (i+1) more:=by
 refine⟨d.nd,d.snd,fun f o s=>?_⟩
 obtain⟨t,e,l⟩:=p.cov f (fun x hx=>o x (by omega)) fun x hx y hy=>s x (by omega) y (by omega)
 obtain⟨B,u⟩:=ya e;have D:=(zU.mp u).1;obtain⟨E,A,H⟩:=d.cov B _ (f i) t u (o i (by omega)) (.inl D) (ze1 s)
 rw[Zf,qV];exact⟨E,A,by omega⟩
theorem zfR{c:List V}{v:V}(h:c.getLast? =some v):atI c (-1)=some v:=by
 rw[zbd] at h;have l:=(zU.mp h).1;obtain⟨i,g⟩:∃i,c.length=i+1:=⟨c.length-1,by omega⟩
 unfold atI;rw[g,YR];rw[g] at h;exact h
def vf(n:Nat):List V:=(List.range n).map fun k=>V.int ((2^k:Nat):Int)
theorem JX(n:Nat):vf (n+1)=vf n++[V.int ((2^n:Nat):Int)]:=by
 unfold vf;rw[vD,zQ];rfl
theorem zfn{n k:Nat}(h:k<n):(vf n)[k]? =some (.int ((2^k:Nat):Int)):=by
 unfold vf;rw[zY,vH h];rfl
theorem zdA(n:Nat):(vf n).length=n:=by unfold vf;rw[zv,zV]
inductive zeo(o:List V)(H:Hp)(Q:VK):Prop
 | mk (a:Addr) (c:Nat->Nat->Int) (n m:Nat) (_:o=[.ref a]) (_:CsAt H a c n m) (_:n<=m) (_:m<=13) (_:∀(L:Int) l,Same H l->(∃g:Nat->Nat,(∀x,x<n->g x<m)/\(∀x,x<n->∀y,y<n->g x=g y->x=y)/\L=qW n fun x=>c x (g x))->(∀g:Nat->Nat,(∀x,x<n->g x<m)->(∀x,x<n->∀y,y<n->g x=g y->x=y)->L<=qW n fun x=>c x (g x))->Q (.int L) l):zeo  o H Q
def zjM:Sp:=fun c H Q _=>zeo  c H Q
theorem zj0:zE ["_law_costs","_law_marks","_law_sums","_law_k","_law_row","_law_more","_law_used","_law_total","_law_one","_law_key"] ["_law_costs"] (zy (topL 58)):=u0
def zcJ(a:_)(g:_)(l:_)(H:_):=fun(i:Nat) (σ:St) (c:Hp)=>(Ex1 fun(o:Option V)=>An4 (σ=[some (.ref a),some (.ref g),some (.ref l),o,none,none,none,none,none,none]) (Same H c) (c g=some (.lst (vf (i+1)))) (c l=some (.dK [(jT 0,.int 0)])):Prop)
def zcI(a:_)(o:_)(H:_)(c:_)(m:_):=fun(i:Nat) (σ:St) (l:Hp)=>(Ex9 fun(q:Addr) (g:List (Key×V)) (s t u A B D E:Option V)=>An6 (σ=[some (.ref a),some (.ref o),some (.ref q),s,t,u,A,B,D,E]) (Same H l) (l o=some (.lst (vf 13))) (H q=none) (l q=some (.dK g)) (Dp c m i g):Prop)
def zcH(a:_)(t:_)(q:_)(A:_)(s:_)(H:_)(o:_)(g:_)(c:_)(m:_)(i:_):=fun(e:Nat) (σ:St) (l:Hp)=>(Ex6 fun(more:List (Key×V)) (u B D E J:Option V)=>An6 (σ=[some (.ref a),some (.ref t),some (.ref q),u,some (.ref A),some (.ref s),B,D,E,J]) (Same H l) (l t=some (.lst (vf 13))) (l q=some (.frz o (.dK g))) (l s=some (.dK more)) (Dq c m i g more e 0):Prop)
def zcG(a:_)(u:_)(q:_)(A:_)(s:_)(M:Nat)(t:_)(H:_)(o:_)(g:_)(c:_)(m:_)(i:_)(e:_):=fun(k:Nat) (σ:St) (l:Hp)=>(Ex4 fun(more:List (Key×V)) (B D E:Option V)=>An6 (σ=[some (.ref a),some (.ref u),some (.ref q),B,some (.ref A),some (.ref s),some (.int (M:Int)),some (.int t),D,E]) (Same H l) (l u=some (.lst (vf 13))) (l q=some (.frz o (.dK g))) (l s=some (.dK more)) (Dq c m i g more e k):Prop)
theorem zkr{f:Addr}{fd:FuncData}(F:Fun K "_law_least_sum" "_law_least_sum" (topL 58) f fd)(B:Blt I):qA P w K I G CX0 1 f fd ["_law_costs"] zjM:=by
 have nd:=zj0.nd;refine F.ok zj0 0#d (fun au A ar s H vs Q E hr h=>?_)
 ·obtain⟨a,c,n,m,rfl,_⟩:=h
  rfl
 ·obtain⟨a,c,n,m,rfl,al,av,hm,k⟩:=h
  have sz:sizeLine=16777216:=sizeLine_eq;have af:=yn hr;refine⟨_,(@zg _ _ _ _ _ (@JJ _ _ 1 2 _ _ _ _ _ _ _ _ _ _ _ rfl nd rfl rfl (by decide) rfl rfl (@za _ _ _ _ _ (@qQ _ _ _ _ (@za _ _ _ _ _ zj zb (by rfl))) (@za _ _ _ _ _ (@zcd _ _ _ _ _ (@Yy _ _ _ _ _ _ _ _ _ zj zj zca) rfl rfl (by intro z;cases z) (by show 1<=15;decide)) zb (by rfl)) (by rfl)) (by rfl) (by rfl)) (@zg _ _ _ _ _ (@qM _ _ _ _ _ _ _ _ ju rfl (@qX _ _ _ _ _ _ rfl B.range (@za _ _ _ _ _ zj zb (by rfl)) (by rfl)) (@zB _ _ 3 _ nd rfl 0#a (by first| exact .inl rfl | exact .inr rfl | assumption)) (@zp _ _ _ (@xK _ _ _ _ (@yi _ _ _ _ _ _ _ _ _ _ _ _ wS ZW ZV j3 0#v (@za _ _ _ _ _ (@zK _ _ _ _ _ _ _ _ xW zj (@zS _ _ _ _ _ _ _ qo 0#v (@zeV _ _ _ _ _ _ zac zj) 0#c)) zb (by rfl)) (by rfl) (by rfl) (by rfl) (by rfl) (by rfl)) (by rfl))) (by intro _ ;rfl)) (@zg _ _ _ _ _ (@qM _ _ _ _ _ _ _ _ ju rfl (@jL _ _ _ _ 0#w) (@zB _ _ 4 _ nd rfl 0#a (by first| exact .inl rfl | exact .inr rfl | assumption)) (@zg _ _ _ _ _ (@zF _ _ 5 _ _ _ _ nd rfl 0#a ZJ (by rfl) (by first| exact .inl rfl | exact .inr rfl | assumption)) (@zg _ _ _ _ _ (@qM _ _ _ _ _ _ _ _ ju rfl (@V1 _ _ _ _ _ _ (@V5 _ _ _ _ _ _ _ _ QE WP Qd (@zas _ _ _ 0#z) (by rfl) (by rfl))) (@jP _ _ _ _ _ _ rfl (@zI _ _ _ _ _ (@zB _ _ 6 _ nd rfl 0#a (by first| exact .inl rfl | exact .inr rfl | assumption)) (@zI _ _ _ _ _ (@zB _ _ 7 _ nd rfl 0#a (by first| exact .inl rfl | exact .inr rfl | assumption)) jd (by rfl)) (by rfl)) (by rfl) (by rfl)) (@zp _ _ _ (@qM _ _ _ _ _ _ _ _ ju rfl (@yQ _ _ _ _ _ _ _ _ rfl B.enumerate (@za _ _ _ _ _ (@pv _ 4 _ _ (by rfl) (by first| exact Or.inl rfl | exact Or.inr 0#a | exact Or.inr 0#m) (by decide) (by decide)) zb (by rfl)) (by rfl)) (@jP _ _ _ _ _ _ rfl (@zI _ _ _ _ _ (@zB _ _ 3 _ nd rfl 0#a (by first| exact .inl rfl | exact .inr rfl | assumption)) (@zI _ _ _ _ _ (@zB _ _ 8 _ nd rfl 0#a (by first| exact .inl rfl | exact .inr rfl | assumption)) jd (by rfl)) (by rfl)) (by rfl) (by rfl)) (@zp _ _ _ (@je _ _ _ _ _ _ _ _ (@qC _ _ _ _ _ _ _ _ xQ (@zK _ _ _ _ _ _ _ _ xI (@zK _ _ _ _ _ _ _ _ V6 (@pv _ 6 _ _ (by rfl) (by first| exact Or.inl rfl | exact Or.inr 0#a | exact Or.inr 0#m) (by decide) (by decide)) (@zS _ _ _ _ _ _ _ qo 0#v 0#y 0#c)) zj) zj (z7 _)) (@zg _ _ _ _ _ (@zF _ _ 9 _ _ _ _ nd rfl 0#a (@zK _ _ _ _ _ _ _ _ qx (@pv _ 6 _ _ (by rfl) (by first| exact Or.inl rfl | exact Or.inr 0#a | exact Or.inr 0#m) (by decide) (by decide)) (@zS _ _ _ _ _ _ _ qo 0#v 0#y 0#c)) (by rfl) (by first| exact .inl rfl | exact .inr rfl | assumption)) (@zp _ _ _ (@Ji _ _ _ _ _ _ _ _ _ af 0#x (@pv _ 9 _ _ (by rfl) (by first| exact Or.inl rfl | exact Or.inr 0#a | exact Or.inr 0#m) (by decide) (by decide)) (@zw _ _ _ _ _ _ _ _ _ (Vu rfl) rfl B.min yq (@za _ _ _ _ _ (@yh _ _ _ _ _ _ _ _ _ af 0#x (@pv _ 9 _ _ (by rfl) (by first| exact Or.inl rfl | exact Or.inr 0#a | exact Or.inr 0#m) (by decide) (by decide)) 0#A ⟨rfl,rfl,rfl,rfl⟩) (@za _ _ _ _ _ 0#A zb (by rfl)) (by rfl)) (by decide) (by decide) (by rfl) (by rfl)) rfl))) qe)) (by intro _ ;rfl))) (by intro _ ;rfl)) (@zp _ _ _ (@zF _ _ 2 _ _ _ _ nd rfl 0#a 0#x (by rfl) (by first| exact .inl rfl | exact .inr rfl | assumption))))) (by intro _ ;rfl)) (@zp _ _ _ (@zA _ _ _ _ (@zw _ _ _ _ _ _ _ _ _ (zdW rfl) rfl B.min yq (@za _ _ _ _ _ (@qO _ _ _ _ _ _ _ _ _ (zaI hr.hd) rfl B.list j5 (@za _ _ _ _ _ (@V5 _ _ _ _ _ _ _ _ PySem.F.slot_dict_values PySem.F.type_dict_values zdx 0#z (by rfl) (by rfl)) zb (by rfl)) (by decide) (by decide) (by rfl) (by rfl)) zb (by rfl)) (by decide) (by decide) (by rfl) (by rfl))))))),?_⟩
  have a9:(2^62:Int)=4611686018427387904:=by decide
  obtain⟨zc,ag,an,ao⟩:=id al;refine⟨(by show 1<=_;omega),fun U a3 sp ae=>⟨ze,[(jT 0,.int 0)],rfl,(by decide),_,_,rfl,?_⟩⟩
  have a8:H sp=none:=(zd a3).free ae;have a7:U≠sp:=zo ze ae;have s1:Same H (upd (upd (upd H U (.lst [V.int 1])) sp (.dK [])) sp (.dK (jM [] [(jT 0,.int 0)]))):=fun b u e=>by
   rw[zq (zo e a8),zq (zo e a8),zq (zo e a3)];exact e
  have m1:upd (upd (upd H U (.lst [V.int 1])) sp (.dK [])) sp (.dK (jM [] [(jT 0,.int 0)])) U=some (.lst (vf 1)):=by rw[zq a7,zq a7,ze];rfl
  have d1:upd (upd (upd H U (.lst [V.int 1])) sp (.dK [])) sp (.dK (jM [] [(jT 0,.int 0)])) sp=some (.dK [(jT 0,.int 0)]):=ze;generalize upd (upd (upd H U (.lst [V.int 1])) sp (.dK [])) sp (.dK (jM [] [(jT 0,.int 0)]))=H1 at s1 m1 d1;refine⟨_,rfl,(by rw[a9];decide),(by rw[a9];decide),?_⟩
  refine jC (n:=12) (zcJ a U sp H) ⟨_,rfl,s1,m1,d1⟩ ?_ ?_
  ·rintro i σ H2 hi ⟨v3,rfl,s2,m2,d2⟩
   have p2:2^i<=2^12:=za5 (by decide) (by omega)
   refine⟨_,rfl,.inl ⟨rfl,_,u4 m2⟩,_,rfl,_,rfl,U,_,_,.int ((2^i:Nat):Int),rfl,rfl,u4 m2,zfR (by rw[JX,List.getLast?_concat]),_,_,rfl,rfl,ZQ (by decide) (by decide),U,_,_,rfl,rfl,m2,by rw[zdA];omega,?_⟩
   refine⟨_,rfl,fun b u e=>by rw[zq (zo e a3)];exact s2 _ _ e,?_,by rw[zq (zG a7)];exact d2⟩
   rw[ze,JX (i+1)];have:(2:Int)*((2^i:Nat):Int)=((2^(i+1):Nat):Int):=by rw[Nat.pow_succ];push_cast;omega
   show some (HO.lst (vf (i+1)++[V.int ((2:Int)*((2^i:Nat):Int))]))=_;rw[this]
  ·rintro σ H2 ⟨v3,rfl,s2,m2,d2⟩
   refine⟨_,rfl,a,rfl,⟨_,u4 (s2 _ _ ag)⟩,?_⟩
   refine wj (K:=K) (a:=a) (xs:=zc) (zcI a U H c m)
    ⟨sp,_,_,_,_,_,_,_,_,rfl,s2,m2,a8,d2,Dp.zero c m⟩ (fun i σ H3 _ ⟨_,_,_,_,_,_,_,_,_,_,s3,_,_,_,_⟩=>u4 (s3 _ _ ag)) ?_ ?_
   ·rintro i x σ H3 hx ⟨q,D,v3,v4,v5,v6,v7,v8,v9,rfl,s3,m3,nq,q3,dp⟩
    have hi:i<n:=by have:=(zU.mp hx).1;omega
    obtain⟨A,ap,hA⟩:=ao i hi;rw[ap] at hx;cases hx;refine fun Y a2=>⟨_,rfl,q,D,rfl,by rw[zq (zo q3 a2)];exact q3,fun o=>⟨q,rfl,.inl ⟨_,.inr ⟨o,ze⟩⟩,q,o,D,rfl,rfl,ze,fun pv O=>⟨pv,q,o,D,rfl,ze,?_,?_⟩⟩⟩
    ·rw[zq (zo ze O)];exact ze
    have a6:H Y=none:=s3.free a2;have ak:q≠Y:=zo q3 a2;have ai:U≠Y:=zo m3 a2;have aq:U≠q:=fun z=>by rw[z,q3] at m3;cases m3
    have q4:upd (upd (upd H3 Y (.dK [])) q (.frz o (.dK D))) pv (xu pv q) q=some (.frz o (.dK D)):=by rw[zq (zo ze O)];exact ze
    have e4:upd (upd H3 Y (.dK [])) q (.frz o (.dK D)) Y=some (.dK []):=by rw[zq (zG ak)];exact ze
    have f4:upd (upd H3 Y (.dK [])) q (.frz o (.dK D)) U=some (.lst (vf 13)):=by rw[zq aq,zq ai];exact m3
    have s4:Same H (upd (upd H3 Y (.dK [])) q (.frz o (.dK D))):=fun b u e=>by rw[zq (zo e nq),zq (zo e a6)];exact s3 _ _ e
    have s5:=s4.trans (zd (o:=xu pv q) O);have e5:=zd (o:=xu pv q) O _ _ e4;have f5:=zd (o:=xu pv q) O _ _ f4;generalize upd (upd (upd H3 Y (.dK [])) q (.frz o (.dK D))) pv (xu pv q)=H5 at q4 s5 e5 f5;refine YW (d:=q) (o:=o) (kvs:=D) (zcH a U q A Y H o D c m i)
     ⟨[],_,_,_,_,_,rfl,s5,f5,q4,e5,Dq.zero c m i D⟩ (fun e σ H6 _ ⟨_,_,_,_,_,_,_,_,_,h,_,_⟩=>h) ?_ ?_
    ·rintro e aw as σ H6 T hx ⟨more,v3,v6,v7,v8,v9,rfl,s6,m6,q6,a4,dq⟩ hT
     obtain⟨M,t,ee,sn⟩:=dp.snd _ (qw hx);cases ee;have s7:=s6.trans (zd (o:=.tup [kV (jT M),V.int t]) hT);have m7:=zd (o:=.tup [kV (jT M),V.int t]) hT _ _ m6;have q7:=zd (o:=.tup [kV (jT M),V.int t]) hT _ _ q6;have ah:=zd (o:=.tup [kV (jT M),V.int t]) hT _ _ a4;refine⟨T,_,rfl,u5 ze,rfl,_,_,rfl,_,_,rfl,rfl,?_⟩
     generalize upd H6 T (.tup [kV (jT M),V.int t])=H7 at s7 m7 q7 ah;refine⟨_,rfl,A,rfl,⟨_,u4 (s7 _ _ hA)⟩,?_⟩
     have lm:((List.range m).map fun j=>V.int (c i j)).length=m:=by rw[zv,zV]
     refine J8 (K:=K) (a:=A) (xs:=(List.range m).map fun j=>V.int (c i j)) (zcG a U q A Y M t H o D c m i e)
      ⟨more,_,_,_,rfl,s7,m7,q7,ah,dq⟩ (fun k σ H8 _ ⟨_,_,_,_,_,s8,_,_,_,_⟩=>u4 (s8 _ _ hA)) ?_ ?_
     ·rintro k as σ H8 T8 hk ⟨J,w3,w8,w9,rfl,s8,m8,q8,a5,N⟩ a1
      have ab:k<m:=by have:=(zU.mp hk).1;rw[lm] at this;exact this
      rw[zY,vH ab] at hk;cases hk;have s9:=s8.trans (zd (o:=.tup [.int (k:Int),.int (c i k)]) a1);have m9:=zd (o:=.tup [.int (k:Int),.int (c i k)]) a1 _ _ m8;have q9:=zd (o:=.tup [.int (k:Int),.int (c i k)]) a1 _ _ q8;have a0:=zd (o:=.tup [.int (k:Int),.int (c i k)]) a1 _ _ a5;refine⟨T8,_,rfl,u5 ze,rfl,_,_,rfl,_,_,rfl,rfl,?_⟩
      generalize upd H8 T8 (.tup [.int (k:Int),.int (c i k)])=H9 at s9 m9 q9 a0;have pk:(0:Int)<((2^k:Nat):Int):=by have:=zaP k;omega
      have pb:((2^k:Nat):Int)<1073741824:=by have:2^k<=2^12:=za5 (by decide) (by omega);omega
      have am:atI (vf 13) (k:Int)=some (.int ((2^k:Nat):Int)):=jA (zfn (by omega))
      refine⟨_,rfl,_,rfl,_,rfl,U,_,_,.int ((2^k:Nat):Int),rfl,rfl,u4 m9,am,_,_,rfl,rfl,⟨pk,pb⟩,_,_,rfl,rfl,(by show(0:Int)<2;decide),rfl,_,rfl,?_⟩
      have eb:(M:Int)/((2^k:Nat):Int) % 2=((M/2^k % 2:Nat):Int):=by rw[Int.natCast_emod,Int.natCast_ediv];rfl
      refine ym (fun cc=>?_) (fun cc=>?_)
      ·have hb:M/2^k % 2=0:=by
        have z:(M:Int)/((2^k:Nat):Int) % 2=0:=V.int.inj (jy cc);rw[eb] at z;omega
       have ek:(M:Int)+((2^k:Nat):Int)=((M+2^k:Nat):Int):=(Int.natCast_add _ _).symm;have lk:∃x:Int,(qD J (jT (M+2^k))).getD (.int (t+c i k))=.int x/\(qD J (jT (M+2^k))=some (.int x)\/qD J (jT (M+2^k))=none/\x=t+c i k):=by
        cases z:qD J (jT (M+2^k)) with
        | none=>exact⟨_,rfl,.inr ⟨rfl,rfl⟩⟩
        | some y=>
         obtain⟨j,hj⟩:=ya z;obtain⟨M2,t2,e2,_⟩:=N.snd _ (qw hj);have:y=.int t2:=congrArg Prod.snd e2;subst this;exact⟨t2,rfl,.inl rfl⟩
       obtain⟨x,lx,lo⟩:=lk;have ml:=zgr hm N.nd N.snd;refine⟨_,rfl,_,rfl,_,rfl,U,_,_,.int ((2^k:Nat):Int),rfl,rfl,u4 m9,am,_,_,rfl,rfl,?_⟩
       have eV:V.int ((M:Int)+((2^k:Nat):Int))=kV (jT (M+2^k)):=congrArg V.int ek;refine⟨_,rfl,Y,rfl,.inl ⟨_,.inl a0⟩,_,rfl,_,rfl,_,rfl,_,_,rfl,rfl,_,.inl ⟨J,jT (M+2^k),.inl a0,eV,rfl⟩,?_⟩
       refine⟨_,rfl,_,rfl,_,_,rfl,rfl,x,t+c i k,(by show [(qD J (jT (M+2^k))).getD (.int (t+c i k)),V.int (t+c i k)]=_;rw[lx]),?_⟩
       refine⟨_,rfl,_,rfl,Y,_,rfl,.inl ⟨J,jT (M+2^k),a0,eV,by omega,rfl⟩,?_⟩
       have aj:∀b u,H b=some u->b≠Y:=fun b u e=>zo e a6
       refine⟨_,_,_,_,rfl,fun b u e=>by rw[zq (aj b u e)];exact s9 _ _ e,by rw[zq ai];exact m9,by rw[zq ak];exact q9,ze,N.put hx sn ab hb ?_ ?_ ?_⟩
       ·split<;>omega
       ·intro y hy
        rcases lo with z | ⟨z,_⟩
        ·rw[hy] at z
         cases z;split<;>omega
        ·rw[hy] at z;cases z
       ·rcases lo with z | ⟨z,rfl⟩
        ·by_cases w:t+c i k<x
         ·rw[zu w];exact .inl rfl
         ·rw[zk w];exact .inr z
        ·exact .inl (by split<;>rfl)
      ·have hb:¬M/2^k % 2=0:=fun z=>cc (zT (congrArg V.int (show(M:Int)/((2^k:Nat):Int) % 2=0 by rw[eb,z];rfl)))
       exact⟨J,_,_,_,rfl,s9,m9,q9,a0,N.skip hx hb⟩
     ·rintro σ H8 ⟨J,w3,w8,w9,rfl,s8,m8,q8,a5,N⟩
      rw[lm] at N;exact⟨J,_,_,_,_,_,rfl,s8,m8,q8,a5,N.turn⟩
    ·rintro σ H6 ⟨more,v3,v6,v7,v8,v9,rfl,s6,m6,q6,a4,dq⟩
     exact⟨_,rfl,Y,more,_,_,_,_,_,_,_,rfl,s6,m6,a6,a4,dq.done dp⟩
   ·rintro σ H3 ⟨q,D,v3,v4,v5,v6,v7,v8,v9,rfl,s3,m3,nq,q3,dp⟩
    rw[an] at dp;refine⟨_,rfl,q,rfl,.inl ⟨_,.inl q3⟩,q,D,rfl,rfl,.inl q3,fun pv O=>⟨pv,q,D,rfl,ze,.inl (by rw[zq (zo q3 O)];exact q3),fun l hl=>?_⟩⟩
    have s4:Same H (upd (upd H3 pv (W1 pv q)) l (.lst (D.map (·.2)))):=s3.trans ((zd O).trans (zd hl))
    have sv:D.map (·.2)=(D.map fun q=>match q.2 with | .int t=>t | _=>0).map V.int:=by
     rw[j9];refine Zx fun q hq=>?_
     obtain⟨M,t,rfl,_⟩:=dp.snd q hq;rfl
    have mm:∀t:Int,t∈(D.map fun q=>match q.2 with | .int t=>t | _=>0)↔∃M,(jT M,V.int t)∈D:=fun t=>by
     rw[qr];constructor
     ·rintro⟨q,hq,e⟩
      obtain⟨M,t',rfl,_⟩:=dp.snd q hq;cases e;exact⟨M,hq⟩
     ·rintro⟨M,h⟩
      exact⟨_,h,rfl⟩
    obtain⟨t0,ce,_⟩:=dp.cov id (fun x hx=>by show x<m;omega) (fun x _ y _ e=>e)
    obtain⟨j0,aa⟩:=ya ce;refine⟨l,_,rfl,by rw[<- sv];exact u4 ze,fun z=>?_,fun L hL ac=>k L _ s4 ?_ fun g g1 g2=>?_⟩
    ·rw[za2] at z
     rw[z] at aa;cases aa
    ·obtain⟨M,hM⟩:=(mm L).mp hL
     obtain⟨M',t',e,g,g1,g2,_,g3⟩:=dp.snd _ hM;have:V.int L=V.int t':=congrArg Prod.snd e;cases this;exact⟨g,g1,g2,g3⟩
    ·obtain⟨t,e,le⟩:=dp.cov g g1 g2
     obtain⟨j,hj⟩:=ya e;exact vo (ac t ((mm t).mpr ⟨_,qw hj⟩)) le
end
section
variable{X:Cx}{g c:Expr}{l:List Expr}{scope:Scope}{o:Pos}{A:TI}{w:TT}{t:TE}
theorem ziD{x z u y:Str}{U pz T Y B tp E:Pos}{Q D:Nat}{g2:TG}(I:List Str)(O:List Nat)(hc:X.calm=true)(hk:scope.kind=.function)(hb:Zi scope.names X.env.scope.names X.N [x,z,u] I O=true)(hi:PI X (.Tuple [.Tuple [.Name x U,.Name z pz] D E,.Name u T] Q tp) c A)
  (hf:∀C s H G,PF (qm X ([x,z,u]++I) scope C s H G) l w) (he:∀C s H G,PE (qm X ([x,z,u]++I) scope C s H G) g t)
  (M:PG X (.Name y Y) g2) (N:swapsWith (.ListComp g [⟨.Tuple [.Tuple [.Name x U,.Name z pz] D E,.Name u T] Q tp,c,l,0⟩] scope o) (some (.Name y Y)) B.line X.env=pure true:=by rfl)
  (hs:∀x,foldedSetIterable c X.env x=pure x:=by intro _;rfl):PS X (.Assign [.Name y Y] (.ListComp g [⟨.Tuple [.Tuple [.Name x U,.Name z pz] D E,.Name u T] Q tp,c,l,0⟩] scope o) B) (zc9 (tLC A 3 O (zaF X.K 2 (wf (zaF X.K 2 (wf (xY 0) (wf (xY 1) zdI))) (wf (xY 2) zdI))) w t) g2):=by
 obtain⟨h1,J,L⟩:=wq hb;refine zke [x,z,u] I O hc hk h1 hi (fun C s H G=>?_) hf he M N hs
 exact jP (X:=qm X ([x,z,u]++I) scope C s H G) hc (zI (jP hc (zI (vK (J x (by simp)) L rfl) (zI (vK (J z (by simp)) L rfl) jd))) (zI (vK (J u (by simp)) L rfl) jd))
end
def xz(J:Job)(c:List Str)(g:List 0#o)(x j:Nat):Int:=wN J (c.getD x default) (g.getD j (0,0))
theorem VS{t H:Hp}{J:Job}{c:List Str}{g:List 0#o}{o:List V}{l:Addr}(h:Rows t H (c.map (zeL J g)) o)(e:H l=some (.lst o)):CsAt H l (xz J c g) c.length g.length:=by
 refine⟨o,e,by rw[h.1,zv],fun x hx=>?_⟩
 have u:c[x]? =some (c.getD x default):=by rw[qI,qg hx];rfl
 obtain⟨A,a,_,d⟩:=h.2 x _ (by rw[zY,u];rfl)
 refine⟨A,a,?_⟩
 rw[d];congr 2
 unfold zeL;rw[j9];refine Zu (by rw[zv,zv,zV]) fun i s w=>?_
 rw[zv] at s;rw[Xo,Xo,WJ];unfold xz;rw[qI (l:=g),qg s];rfl
theorem Y3{J:Job}{g:List Nat}(o:JobOk J g){q:Int×Int}(hq:inB q)(c:Str):0<=wN J c q/\wN J c q<=180000:=by
 unfold wN;have b:=zef (Y2 (kd:=c) o hq fun q h=>h)
 have l:=Qh (j8 J) q c J.ps;have:=o.pl;omega
section
variable{P:Program}{w:World}{K:W.Frag}{I:Str->Option Value}{G:Heap}
def Q5(J:Job)(c:List Str)(g:List 0#o)(f:Nat->Nat)(x:Nat):wJ:=⟨c.getD x default,(g.getD (f x) (0,0)).1,(g.getD (f x) (0,0)).2,((zJ J).count (c.getD x default):Int)⟩
def VY(J:Job)(c:List Str)(g:List 0#o)(f:Nat->Nat):Job:={ J with fs:=(List.range c.length).map (Q5 J c g f) }
inductive zbH(K:W.Frag)(E:List V)(H:Hp)(Q:VK):Prop
 | mk (t B:Addr) (J:Job) (o:List Nat) (c:List Str) (g:List 0#o) (D:List V) (_:E=[.ref t,.ref B]) (_:Rep K H (vR J) (.ref t)) (_:JobOk J o) (_:H B=some (.lst D)) (_:Reps K H (g.map plD) D) (_:(∀q∈g,inB q)) (_:g.length<=63) (_:(c.Pairwise fun a b=>ltS a b=true)) (_:(∀j,j∈c↔j∈zJ J)) (_:c.length<=g.length) (_:∀(A:Addr) (s:List (Nat×Nat)) (f:Nat->Nat) (u v:Nat->Int) l,Same H l->AH (xz J c g) g.length c.length s->Hold s c.length f->Pot (xz J c g) c.length g.length f u v->Rep K l (vR (VY J c g f)) (.ref A)->Q (.ref A) l):zbH K E H Q
def zei(K:W.Frag):Sp:=fun c H Q _=>zbH K c H Q
theorem zhP:zE ["job","slots","gate","heads","feeders","parts","aheads","columns","placed"] ["job","slots"] (zy (topL 42)):=u0
theorem zi1{f:Addr}{fd:FuncData}(F:Fun K "placed_feeders" "placed_feeders" (topL 42) f fd)(B:Blt I)(t:Dfn P w K I G "slot_costs" 4 ["job","slots"] (VN K))(c:Dfn P w K I G "matched_slots" 4 ["costs"] zis)(N:Dfn P w K I G "wanted_of" 1 ["job"] (VJ K)):qA P w K I G CX0 5 f fd ["job","slots"] (zei K):=by
 have nd:=zhP.nd;refine F.ok zhP 0#d (fun ap A ai s H vs Q E hr h=>?_)
 ·obtain⟨jp,sl,J,a6,ms,O,sv,rfl,_⟩:=h
  rfl
 ·obtain⟨jp,sl,J,a6,ms,O,sv,rfl,rj,jo,a4,rs,hb,ql,up,mm,lm,k⟩:=h
  have sz:sizeLine=16777216:=sizeLine_eq;refine⟨_,(@zg _ _ _ _ _ (@vc _ _ _ _ _ _ 0#w (@jP _ _ _ _ _ _ rfl (@zI _ _ _ _ _ (@zB _ _ 2 _ nd rfl 0#a (by first| exact .inl rfl | exact .inr rfl | assumption)) (@zI _ _ _ _ _ (@zB _ _ 3 _ nd rfl 0#a (by first| exact .inl rfl | exact .inr rfl | assumption)) (@zI _ _ _ _ _ (@zB _ _ 4 _ nd rfl 0#a (by first| exact .inl rfl | exact .inr rfl | assumption)) (@zI _ _ _ _ _ (@zB _ _ 5 _ nd rfl 0#a (by first| exact .inl rfl | exact .inr rfl | assumption)) (@zI _ _ _ _ _ (@zB _ _ 6 _ nd rfl 0#a (by first| exact .inl rfl | exact .inr rfl | assumption)) jd (by rfl)) (by rfl)) (by rfl)) (by rfl)) (by rfl)) (by rfl) (by rfl)) (by rfl) (by rfl) (by rfl)) (@zg _ _ _ _ _ (@zF _ _ 7 _ _ _ _ nd rfl 0#a (@zS _ _ _ _ _ _ _ qF (@zi _ _ _ _ _ _ _ _ _ _ c hr.m rfl (@za _ _ _ _ _ (@zi _ _ _ _ _ _ _ _ _ _ t hr.m rfl (@za _ _ _ _ _ 0#w (@za _ _ _ _ _ 0#v zb (by rfl)) (by rfl)) (by decide) (by rfl) (by rfl)) zb (by rfl)) (by decide) (by rfl) (by rfl)) zj 0#c) (by rfl) (by first| exact .inl rfl | exact .inr rfl | assumption)) (@zg _ _ _ _ _ (ziD ["slots"] [1] rfl rfl (by kernel_rfl) (@V0 _ _ _ _ _ _ _ _ _ rfl B.zip (@za _ _ _ _ _ (@zi _ _ _ _ _ _ _ _ _ _ N hr.m rfl (@za _ _ _ _ _ 0#w zb (by rfl)) (by decide) (by rfl) (by rfl)) (@za _ _ _ _ _ (@pv _ 7 _ _ (by rfl) (by first| exact Or.inl rfl | exact Or.inr 0#a | exact Or.inr 0#m) (by decide) (by decide)) zb (by rfl)) (by rfl)) (by rfl) (by rfl)) 0#k (fun _ _ _ _=>(@jB _ _ _ _ _ (@za _ _ _ _ _ 0#w (@za _ _ _ _ _ (@zS _ _ _ _ _ _ _ (wb (K:=K) rfl) 0#y 0#z 0#c) (@za _ _ _ _ _ 0#v zb (by rfl)) (by rfl)) (by rfl)))) (@zB _ _ 8 _ nd rfl 0#a (by first| exact .inl rfl | exact .inr rfl | assumption))) (@zp _ _ _ (@zA _ _ _ _ (@jB _ _ _ _ _ (@pa5 _ _ _ _ _ _ _ _ _ _ _ 0#z 0#y (@qO _ _ _ _ _ _ _ _ _ xf rfl B.tuple qZ (@za _ _ _ _ _ (@pv _ 8 _ _ (by rfl) (by first| exact Or.inl rfl | exact Or.inr 0#a | exact Or.inr 0#m) (by decide) (by decide)) zb (by rfl)) (by decide) (by decide) (by rfl) (by rfl)) 0#x (@pv _ 6 _ _ (by rfl) (by first| exact Or.inl rfl | exact Or.inr 0#a | exact Or.inr 0#m) (by decide) (by decide)) (by rfl)))))))),?_⟩
  obtain⟨g,fs,ps,as,fv,aj,qj,rg,_,_,qp,rp,ra⟩:=xx rj;refine⟨_,rfl,jp,_,rfl,qj,rfl,_,_,rfl,_,_,rfl,_,_,rfl,_,_,rfl,_,_,rfl,rfl,?_⟩
  refine⟨_,rfl,_,rfl,jp,sl,J,a6,O,sv,rfl,rj,jo,a4,rs,hb,by omega,fun l M zs H1 hl s1 ac an af ml R=>?_⟩
  have em:M=ms:=VH an up fun j=>(af j).trans (mm j).symm
  subst em;have cb:∀x,x<M.length->∀j,j<O.length->0<=xz J M O x j/\xz J M O x j<=1000000:=fun x hx j hj=>by
   have:=Y3 jo (hb _ (xB hj)) (M.getD x default);unfold xz;rw[qI (l:=O),qg hj];show 0<=wN J (M.getD x default) O[j]/\wN J (M.getD x default) O[j]<=1000000;omega
  have am:=rs.len;rw[zv] at am;refine⟨l,_,M.length,O.length,rfl,VS R ac,lm,ql,cb,fun hs f u v q L H2 ah a2 a7 s2 hq hL a0=>?_⟩
  refine⟨q,_,_,_,rfl,rfl,u5 a0.1,rfl,?_⟩
  have S2:=s1.trans s2;refine⟨_,rfl,jp,J,rfl,rj.same S2,jo.pl,fun wl Y wz H3 aq s3 a5 ao ag au ar wt=>?_⟩
  have en:Y=M:=VH ao up fun j=>(ag j).trans (mm j).symm
  subst en;have ln:((List.range Y.length).map fun(x:Nat)=>V.int (f x:Int)).length=Y.length:=by rw[zv,zV]
  have a9:=wt.1;refine⟨_,rfl,true,true,wl,L,rfl,⟨_,u4 a5⟩,⟨_,u4 (s3 _ _ a0.2)⟩,?_⟩
  refine JZ (K:=K) (k1:=true) (k2:=true) (xs:=wz) (ys:=(List.range Y.length).map fun(x:Nat)=>V.int (f x:Int)) (fun i zs H4=>Same H3 H4/\Reps K H4 (((List.range i).map (Q5 J Y O f)).map jS) zs) ⟨u6 _,rfl⟩ (fun i zs H4 ⟨s4,_⟩=>⟨u4 (s4 _ _ a5),u4 (s4 _ _ (s3 _ _ a0.2))⟩) ?_ ?_
  ·rintro i x y zs H4 T hx hy ⟨s4,zr⟩ hT
   have hi:i<Y.length:=by rw[<- a9];exact(zU.mp hx).1
   have en:Y[i]? =some (Y.getD i default):=by rw[qI,qg hi];rfl
   obtain⟨T1,e1,e2⟩:=wt.2 i _ en;rw[hx] at e1;cases e1;rw[zY,vH hi] at hy;cases hy;have fr:=a7.rng i hi;have zl:=zr.len;rw[zv,zv,zV] at zl;have sT:=zd (o:=.tup [.ref T1,.int (f i:Int)]) hT;refine⟨T,_,rfl,u5 ze,rfl,_,_,rfl,T1,_,rfl,u5 (sT _ _ (s4 _ _ e2)),rfl,_,_,rfl,_,_,rfl,rfl,_,_,rfl,rfl,rfl,?_⟩
   have s5:=s4.trans sT;have aa:=zr.same sT;generalize upd H4 T (.tup [.ref T1,.int (f i:Int)])=H5 at s5 aa;have hv:sv[f i]? =some (sv.getD (f i) .non):=by
    rw[qI,qg (by omega)];rfl
   have ab:O[f i]? =some (O.getD (f i) (0,0)):=by rw[qI,qg fr];rfl
   obtain⟨dq,a1,ak⟩:=(rs.same (S2.trans (s3.trans s5))).get hv;rw[zY,ab] at a1;cases a1;refine⟨_,rfl,_,rfl,_,rfl,sl,_,_,sv.getD (f i) .non,rfl,rfl,u4 ((S2.trans (s3.trans s5)) _ _ a4),jA hv,_,rfl,(by show 3<=_;omega),fun U hU=>⟨by omega,s5.trans (zd hU),?_⟩⟩
   rw[vD,zQ,zQ];exact ub (K:=K) (d:=jS (Q5 J Y O f i)) (v:=.ref U) ⟨U,_,rfl,u5 ze,_,_,rfl,rfl,_,_,rfl,Rep.same (zd hU) ak,_,_,rfl,rfl,rfl⟩ (aa.same (zd hU))
  ·rintro zs H4 ⟨s4,zr⟩
   rw[a9,ln,Nat.min_self] at zr;have zl:=zr.len;rw[zv,zv,zV] at zl;refine⟨by omega,fun D hD=>⟨_,rfl,_,rfl,_,rfl,D,zs,rfl,.inl ⟨u4 ze,fun tp ae=>⟨_,rfl,_,rfl,(by show 5<=_;omega),fun pt a3=>?_⟩⟩⟩⟩
   have sD:=zd (o:=.lst zs) hD;have al:=sD.trans (zd (o:=.tup zs) ae);have a8:=al.trans (zd (o:=.tup [.ref g,.int J.hd,.ref tp,.ref ps,.ref as]) a3);have sA:=S2.trans (s3.trans (s4.trans a8));exact k pt hs f u v _ sA ah a2 a7 ⟨pt,_,rfl,u5 ze,_,_,rfl,rg.same sA,_,_,rfl,rfl,_,_,rfl,⟨tp,zs,rfl,u5 (zd a3 _ _ ze),zr.same a8⟩,_,_,rfl,⟨ps,aj,rfl,sA.sqT qp,rp.same sA⟩,_,_,rfl,ra.same sA,rfl⟩
inductive Yl(c:List V)(H:Hp)(Q:VK):Prop
 | mk (i:Int) (_:c=[.int i]) (_:Q (.bl true) H):Yl  c H Q
def zek:Sp:=fun c H Q _=>Yl  c H Q
theorem zhQ:zE ["thing"] ["thing"] (zy (topL 4)):=u0
theorem zi7{f:Addr}{g:FuncData}(F:Fun K "is_number" "is_number" (topL 4) f g)(B:Blt I):qA P w K I G CX0 1 f g ["thing"] zek:=by
 have u:=zhQ.nd;refine F.ok zhQ (fun o H Q E h=>?_) (fun l A c s H o Q E t h=>?_)
 ·obtain⟨i,rfl,_⟩:=h
  rfl
 ·obtain⟨i,rfl,k⟩:=h
  refine⟨_,(zp (zA (xn (zw qY rfl B.isinstance boot_isinstance (za (pv 0) (za (qR (v:=.ty "int") rfl B.int ZT rfl) zb))) (xV (ziO (zw qY rfl B.isinstance boot_isinstance (za (pv 0) (za (qR (v:=.ty "bool") rfl B.bool Qk rfl) zb)))))))),?_⟩
  exact⟨_,rfl,_, "int", "int",rfl,rfl,(by decide),_,rfl,ifT (by decide) ⟨_,rfl,_, "int", "bool",rfl,rfl,(by decide),_,rfl,k⟩⟩
inductive Yb(g:List V)(H:Hp)(Q:VK):Prop
 | mk (i lo c:Int) (_:g=[.int i,.int lo,.int c]) (_:lo<=i) (_:i<=c) (_:Q (.bl true) H):Yb  g H Q
def Jx:Sp:=fun c H Q _=>Yb  c H Q
theorem zhJ:zE ["thing","least","most"] ["thing","least","most"] (zy (topL 5)):=u0
theorem ziW{f:Addr}{l:FuncData}(F:Fun K "is_number_within" "is_number_within" (topL 5) f l)(B:Blt I)(c:Dfn P w K I G "is_number" 1 ["thing"] zek):qA P w K I G CX0 2 f l ["thing","least","most"] Jx:=by
 have M:=zhJ.nd;refine F.ok zhJ (fun L H Q E h=>?_) (fun o A g s H L Q E J h=>?_)
 ·obtain⟨i,lo,D,rfl,_⟩:=h
  rfl
 ·obtain⟨i,lo,D,rfl,t,u,k⟩:=h
  refine⟨_,(zp (zA (xn (zi c J.m rfl 0#t) (xV (zeZ Vg Vg (pv 1) (pv 0) (pv 2)))))),?_⟩
  refine⟨_,rfl,i,rfl,_,rfl,ifT rfl ⟨_,rfl,_,rfl,_,_,rfl,rfl,_,rfl,ifT (zT t) ⟨_,rfl,_,_,rfl,rfl,?_⟩⟩⟩
  rw[zT u];exact k
inductive zbI(g:List V)(H:Hp)(Q:VK):Prop
 | mk (x:Str) (_:g=[.str x]) (_:Nm x) (_:∀c,Same H c->Q (.bl true) c):zbI  g H Q
def zhB:Sp:=fun c H Q _=>zbI  c H Q
theorem zjY:zE ["thing"] ["thing"] (zy (topL 6)):=u0
theorem zjg(c:Nat):(!(Builtin.Str.occurrences zdk ⟨#[c]⟩ 0 zdk.length 1).isEmpty)=Q6 c:=by
 rw[StrLaws.found_one,YM,vU];unfold Q6;rw[y8,List.mem_range'_1,jI,y8,y8];omega
theorem zal{x:Str}{i c:Nat}(h:x.cps[i]? =some c)(f:Nat->V):(x.cps.toList.take i).map f++[f c]=(x.cps.toList.take (i+1)).map f:=by
 rw[jc (show x.cps.toList[i]? =some c by simpa using h),zQ]
 rfl
theorem zkp{f:Addr}{M:FuncData}{Y tn:Tok}(F:Fun K "is_name" "is_name" (topL 6) f M)(B:Blt I)(l:I "LETTERS" = some (.str zdk Y))(g:I "LONGEST_NAME" = some (.int 8 tn)):qA P w K I G CX0 1 f M ["thing"] zhB:=by
 have nd:=zjY.nd;refine F.ok zjY 0#d (fun O A u s H vs Q E hr h=>?_)
 ·obtain⟨x,rfl,_⟩:=h
  rfl
 ·obtain⟨x,rfl,⟨h8,_,h1,t⟩,k⟩:=h
  have N:=bG100000;have U:x.length<=sizeLine:=by omega
  have lx:x.cps.toList.length=x.length:=by simp[Str.length]
  refine⟨_,(zg (je (PW.pt (yf (jh (qL (zw qY rfl B.isinstance boot_isinstance (za (pv 0) (za (qR (v:=.ty "str") rfl B.str ZS rfl) zb))))) (va (jh (zeP Vg Vg zj (zw Wn rfl B.len boot_len 0#t) (vB (v:=.int 8) rfl g ⟨_,rfl⟩))))))
   (zp (zA j6))
   qe)
   (zp (zA (zw (j4 rfl) rfl B.all boot_all (za (jQ [] [] rfl rfl (by kernel_rfl) (ziJ (pv 0)) 0#k (fun _ _ _ _=>(qN zdq (pv 0) (vB (v:=.str zdk) rfl l ⟨_,rfl⟩) (by with_unfolding_all rfl)))) zb))))),?_⟩
  refine⟨_,rfl,_, "str", "str",rfl,rfl,(by decide),_,rfl,ifF (by decide) ⟨_,rfl,x,rfl,U,_,_,rfl,rfl,_,rfl,ifT (zT (by omega)) ⟨_,_,rfl,rfl,_,rfl,?_⟩⟩⟩
  refine ifF (by rw[zT (by omega:(x.length:Int)<=8)];decide) ?_
  refine⟨_,rfl,x,rfl,zji (fun i L o=>L=(x.cps.toList.take i).map (fun c=>V.bl (Q6 c))/\Same H o) ⟨rfl,u6 _⟩ ?_ ?_⟩
  ·rintro i c L o hc ⟨rfl,J⟩
   refine⟨rfl,⟨_,rfl,_,_,rfl,rfl,?_,?_,J⟩⟩
   ·rw[zv,jv];omega
   ·rw[zjg,<- zal hc]
  ·rintro L o ⟨rfl,J⟩
   rw[WO (show x.cps.toList.length<=x.cps.size by simp)]
   refine⟨by rw[zv];omega,fun D T=>⟨D,x.cps.toList.map Q6,rfl,u4 (by rw[ze,j9];rfl),?_⟩⟩
   rw[t];exact k _ (J.trans (zd T))
inductive Yj(K:W.Frag)(g:List V)(H:Hp)(Q:VK):Prop
 | mk (v:V) (x y:Int) (_:g=[v]) (_:Rep K H (.tup [.int x,.int y]) v) (_:inP x y) (_:∀c,Same H c->Q (.bl true) c):Yj K g H Q
def VL(K:W.Frag):Sp:=fun c H Q _=>Yj K c H Q
theorem zhO:zE ["thing"] ["thing"] (zy (topL 7)):=u0
theorem zi2{f:Addr}{N:FuncData}{tf:Tok}(F:Fun K "is_place" "is_place" (topL 7) f N)(B:Blt I)(c:Dfn P w K I G "is_number_within" 2 ["thing","least","most"] Jx)(g:I "FARTHEST" = some (.int 1000 tf)):qA P w K I G CX0 3 f N ["thing"] (VL K):=by
 have nd:=zhO.nd;refine F.ok zhO 0#d (fun T A M s H vs Q E Y h=>?_)
 ·obtain⟨v,x,y,rfl,_⟩:=h
  rfl
 ·obtain⟨v,x,y,rfl,rp,⟨x0,x1,y0,y1⟩,k⟩:=h
  have O:=bG100000;obtain⟨a,rfl,t⟩:=vz (p:=(x,y)) rp;refine⟨_,(zg (je (PW.pt (yf (jh (qL (zw qY rfl B.isinstance boot_isinstance (za (pv 0) (za (qR (v:=.ty "tuple") rfl B.tuple qZ rfl) zb))))) (va (qC YA (zw zR rfl B.len boot_len 0#t) zj (z7 _)))))
   (zp (zA j6))
   qe)
   (zp (zA (zw (j4 rfl) rfl B.all boot_all (za (jQ [] [] rfl rfl (by kernel_rfl) (xm (pv 0)) 0#k (fun _ _ _ _=>(zi c Y.m rfl (za (pv 0) (za zj (za (vB (v:=.int 1000) rfl g ⟨_,rfl⟩) zb)))))) zb))))),?_⟩
  refine⟨_,rfl,_, "tuple", "tuple",rfl,.inr ⟨rfl,_,t⟩,(by decide),_,rfl,ifF (by decide) ⟨_,rfl,a,_,rfl,.inr t,rfl,_,rfl,ifF rfl ?_⟩⟩
  refine⟨_,rfl,a,rfl,⟨_,t⟩,vQ (K:=K) (xs:=[.int x,.int y]) (fun i u o=>u=List.replicate i (V.bl true)/\Same H o) ⟨rfl,u6 _⟩ (fun i u o ⟨_,l⟩=>l.sqT t) ?_ ?_⟩
  ·rintro i z u o L ⟨rfl,l⟩
   have J:=(zU.mp L).1;have J:i<2:=J;obtain⟨n,rfl,n0,n1⟩:∃n:Int,z=.int n/\0<=n/\n<=1000:=by
    match i,J with
    | 0,_=>cases L;exact⟨x,rfl,x0,x1⟩
    | 1,_=>cases L;exact⟨y,rfl,y0,y1⟩
   exact⟨rfl,⟨_,rfl,n,0,1000,rfl,n0,n1,by rw[xF];omega,by rw[QQ],l⟩⟩
  ·rintro u o ⟨rfl,l⟩
   exact⟨by rw[xF];show 2<=_;omega,fun D U=>⟨D,[true,true],rfl,u4 ze,k _ (l.trans (zd U))⟩⟩
inductive zbx(K:W.Frag)(c:List V)(H:Hp)(Q:VK):Prop
 | mk (a:Addr) (g:List V) (n:Nat) (_:c=[.ref a,.int (n:Int)]) (_:SqT K H a g) (_:g.length=n) (_:Q (.bl true) H):zbx K c H Q
def Yd(K:W.Frag):Sp:=fun c H Q _=>zbx K c H Q
theorem zjW:zE ["thing","many"] ["thing","many"] (zy (topL 16)):=u0
theorem zkl{f:Addr}{g:FuncData}(F:Fun K "is_tuple_of" "is_tuple_of" (topL 16) f g)(B:Blt I):qA P w K I G CX0 1 f g ["thing","many"] (Yd K):=by
 have J:=zjW.nd;refine F.ok zjW (fun u H Q E h=>?_) (fun t A c s H u Q E D h=>?_)
 ·obtain⟨a,o,n,rfl,_⟩:=h
  rfl
 ·obtain⟨a,o,n,rfl,l,ln,k⟩:=h
  refine⟨_,(zp (zA (xn (zw qY rfl B.isinstance boot_isinstance (za (pv 0) (za (qR (v:=.ty "tuple") rfl B.tuple qZ rfl) zb))) (xV (qN xQ (zw zR rfl B.len boot_len 0#t) (pv 1) (z7 _)))))),?_⟩
  refine⟨_,rfl,_, "tuple", "tuple",rfl,.inr ⟨rfl,_,l⟩,(by decide),_,rfl,ifT (by decide) ⟨_,rfl,a,o,rfl,.inr l,_,rfl,?_⟩⟩
  refine⟨rfl,?_⟩
  rw[ln];exact(zT (rfl:V.int (n:Int)=V.int (n:Int))).symm▸k
inductive zbv(K:W.Frag)(c:List V)(H:Hp)(Q:VK):Prop
 | mk (a:Addr) (g:List V) (m:Int) (_:c=[.ref a,.int m]) (_:SqT K H a g) (_:(g.length:Int)<=m) (_:Q (.bl true) H):zbv K c H Q
def zbw(K:W.Frag):Sp:=fun c H Q _=>zbv K c H Q
theorem zjV:zE ["thing","most"] ["thing","most"] (zy (topL 17)):=u0
theorem zkk{f:Addr}{g:FuncData}(F:Fun K "is_tuple_upto" "is_tuple_upto" (topL 17) f g)(B:Blt I):qA P w K I G CX0 1 f g ["thing","most"] (zbw K):=by
 have J:=zjV.nd;refine F.ok zjV (fun u H Q E h=>?_) (fun t A c s H u Q E D h=>?_)
 ·obtain⟨a,o,n,rfl,_⟩:=h
  rfl
 ·obtain⟨a,o,n,rfl,l,ln,k⟩:=h
  refine⟨_,(zp (zA (xn (zw qY rfl B.isinstance boot_isinstance (za (pv 0) (za (qR (v:=.ty "tuple") rfl B.tuple qZ rfl) zb))) (xV (qN Vg (zw zR rfl B.len boot_len 0#t) (pv 1) (z7 _)))))),?_⟩
  refine⟨_,rfl,_, "tuple", "tuple",rfl,.inr ⟨rfl,_,l⟩,(by decide),_,rfl,ifT (by decide) ⟨_,rfl,a,o,rfl,.inr l,_,rfl,_,_,rfl,rfl,?_⟩⟩
  rw[zT ln];exact k
def okF(f:wJ):Prop:=Nm f.k/\inP f.x f.y/\0<=f.m/\f.m<=400
inductive zes(K:W.Frag)(g:List V)(H:Hp)(Q:VK):Prop
 | mk (v:V) (p:wJ) (_:g=[v]) (_:Rep K H (jS p) v) (_:okF p) (_:∀c,Same H c->Q (.bl true) c):zes K g H Q
def zjO(K:W.Frag):Sp:=fun c H Q _=>zes K c H Q
theorem zj2:zE ["thing","kind","place","many"] ["thing"] (zy (topL 18)):=u0
theorem zkt{f:Addr}{M:FuncData}{tf:Tok}(F:Fun K "is_feeder" "is_feeder" (topL 18) f M)(B:Blt I)(o:Dfn P w K I G "is_tuple_of" 1 ["thing","many"] (Yd K))(u:Dfn P w K I G "is_name" 1 ["thing"] zhB)(t:Dfn P w K I G "is_place" 3 ["thing"] (VL K))(g:Dfn P w K I G "is_number_within" 2 ["thing","least","most"] Jx)(l:I "MOST_IN_FEEDER" = some (.int 400 tf)):qA P w K I G CX0 4 f M ["thing"] (zjO K):=by
 have J:=zj2.nd;refine F.ok zj2 0#d (fun O A L s H vs Q E D h=>?_)
 ·obtain⟨v,p,rfl,_⟩:=h
  rfl
 ·obtain⟨v,p,rfl,rp,⟨Y,np,T,U⟩,k⟩:=h
  obtain⟨a,c,rfl,N,rc⟩:=Qg rp;refine⟨_,(zg (je (jh (qL (zi o D.m rfl 0#p)))
   (zp (zA j6))
   qe)
   (zg (vc (pv 0) (jP rfl (zI (zB (i:=1) J rfl 0#a) (zI (zB (i:=2) J rfl 0#a) (zI (zB (i:=3) J rfl 0#a) jd)))))
   (zp (zA (xn (zi u D.m rfl 0#s) (xn (zi t D.m rfl (za (pv 2) zb)) (xV (zi g D.m rfl (za (pv 3) (za zj (za (vB (v:=.int 400) rfl l ⟨_,rfl⟩) zb))))))))))),?_⟩
  refine⟨_,rfl,a,_,3,rfl,N,rfl,_,rfl,ifF rfl ⟨_,rfl,a,_,rfl,N,rfl,_,_,rfl,_,_,rfl,_,_,rfl,rfl,?_⟩⟩
  refine⟨_,rfl,p.k,rfl,Y,fun H1 s1=>⟨_,rfl,ifT rfl ?_⟩⟩
  refine⟨_,rfl,.ref c,p.x,p.y,rfl,rc.same s1,np,fun H2 s2=>⟨_,rfl,ifT rfl ?_⟩⟩
  exact⟨_,rfl,p.m,0,400,rfl,T,U,k _ (s1.trans s2)⟩
inductive zbP(K:W.Frag)(l:List V)(H:Hp)(Q:VK):Prop
 | mk (a:Addr) (g:List V) (fs:List wJ) (_:l=[.ref a]) (_:SqT K H a g) (_:Reps K H (fs.map jS) g) (_:fs.length<=20) (_:(∀p∈fs,okF p)) (_:∀c,Same H c->Q (.bl true) c):zbP K l H Q
def zhG(K:W.Frag):Sp:=fun c H Q _=>zbP K c H Q
theorem zhW:zE ["thing"] ["thing"] (zy (topL 19)):=u0
theorem zi9{f:Addr}{O:FuncData}{tf:Tok}(F:Fun K "are_feeders" "are_feeders" (topL 19) f O)(B:Blt I)(c:Dfn P w K I G "is_tuple_upto" 1 ["thing","most"] (zbw K))(l:Dfn P w K I G "is_feeder" 4 ["thing"] (zjO K))(g:I "MOST_FEEDERS" = some (.int 20 tf)):qA P w K I G CX0 5 f O ["thing"] (zhG K):=by
 have nd:=zhW.nd;refine F.ok zhW 0#d (fun a0 A L s H vs Q E U h=>?_)
 ·obtain⟨a,u,fs,rfl,_⟩:=h
  rfl
 ·obtain⟨a,u,fs,rfl,M,Y,fl,ok,k⟩:=h
  have T:=bG100000;have ln:=Y.len;rw[zv] at ln;refine⟨_,(zp (zA (xn (zi c U.m rfl (za (pv 0) (za (vB (v:=.int 20) rfl g ⟨_,rfl⟩) zb))) (xV (zw (j4 rfl) rfl B.all boot_all (za (jQ [] [] rfl rfl (by kernel_rfl) (xm (pv 0)) 0#k (fun _ _ _ _=>(zi l U.m rfl 0#t))) zb)))))),?_⟩
  refine⟨_,rfl,a,u,20,rfl,M,by omega,_,rfl,ifT rfl ?_⟩
  refine⟨_,rfl,a,rfl,⟨_,M⟩,vQ (K:=K) (xs:=u) (fun i J t=>J=(List.replicate i true).map V.bl/\Same H t) ⟨rfl,u6 _⟩ (fun i J t ⟨_,o⟩=>o.sqT M) ?_ ?_⟩
  ·rintro i z J t hz ⟨rfl,o⟩
   obtain⟨dd,e1,r1⟩:=(Y.same o).get hz;rw[zY] at e1;obtain⟨p,N,rfl⟩:=qH.mp e1;have hi:=(zU.mp N).1;exact⟨rfl,⟨_,rfl,z,p,rfl,r1,ok p (qw N),fun H4 s4=>⟨by rw[zv,xF];omega,by rw[QQ,zQ];rfl,o.trans s4⟩⟩⟩
  ·rintro J t ⟨rfl,o⟩
   refine⟨by rw[zv,xF];omega,fun D hD=>⟨D,_,rfl,u4 ze,?_⟩⟩
   rw[show(List.replicate u.length true).all id=true by simp]
   exact k _ (o.trans (zd hD))
inductive zbF(K:W.Frag)(o:List V)(H:Hp)(Q:VK):Prop
 | mk (v:V) (g:Addr) (p:wZ) (l:List Str) (_:o=[v,.ref g]) (_:Rep K H (jR p) v) (_:SqL K H g (l.map V.str)) (_:p.k∈l) (_:inP p.x p.y) (_:∀c,Same H c->Q (.bl true) c):zbF K o H Q
def zhz(K:W.Frag):Sp:=fun c H Q _=>zbF K c H Q
theorem zhM:zE ["thing","kinds","kind","place"] ["thing","kinds"] (zy (topL 20)):=u0
theorem zcr(t:Str):∀l:List Str,inV (.str t) (l.map V.str)=decide (t∈l)
 | []=>by simp[inV]
 | x::l=>by
  have:=zcr t l;unfold inV at this ⊢;rw[jV,xX,this];by_cases e:t=x
  ·subst e
   simp[eqV]
  ·have c:¬x=t:=fun z=>e z.symm
   simp[eqV,e,c]
theorem zag(l:List Str):(l.map V.str).all wK=true:=vF.mpr fun z c=>by
 obtain⟨k,_,rfl⟩:=qr.mp c;rfl
theorem zkn{f:Addr}{t:FuncData}(F:Fun K "is_part" "is_part" (topL 20) f t)(B:Blt I)(g:Dfn P w K I G "is_tuple_of" 1 ["thing","many"] (Yd K))(l:Dfn P w K I G "is_place" 3 ["thing"] (VL K)):qA P w K I G CX0 4 f t ["thing","kinds"] (zhz K):=by
 have J:=zhM.nd;refine F.ok zhM 0#d (fun M A o s H vs Q E u h=>?_)
 ·obtain⟨v,D,p,N,rfl,_⟩:=h
  rfl
 ·obtain⟨v,D,p,N,rfl,Y,T,mk,O,k⟩:=h
  obtain⟨a,c,rfl,L,U⟩:=Jk Y;refine⟨_,(zg (je (jh (qL (zi g u.m rfl 0#p)))
   (zp (zA j6))
   qe)
   (zg (vc (pv 0) (jP rfl (zI (zB (i:=2) J rfl 0#a) (zI (zB (i:=3) J rfl 0#a) jd))))
   (zp (zA (xn (qN Vh (pv 2) (pv 1) (by with_unfolding_all rfl)) (xV (zi l u.m rfl (za (pv 3) zb)))))))),?_⟩
  refine⟨_,rfl,a,_,2,rfl,L,rfl,_,rfl,ifF rfl ⟨_,rfl,a,_,rfl,L,rfl,_,_,rfl,_,_,rfl,rfl,?_⟩⟩
  refine⟨_,rfl,_,rfl,D,_,rfl,.inl T,rfl,zag _,_,rfl,?_⟩
  rw[zcr,zT mk];exact ifT rfl ⟨_,rfl,.ref c,p.x,p.y,rfl,U,O,k⟩
def zar(p:wZ):List Key:=[Sum.inl p.x,Sum.inl p.y]
inductive zbG(K:W.Frag)(s:List V)(H:Hp)(Q:VK):Prop
 | mk (a b:Addr) (c o:List V) (g:List wZ) (fs:List wJ) (_:s=[.ref a,.ref b]) (_:SqT K H a c) (_:Reps K H (g.map jR) c) (_:SqT K H b o) (_:Reps K H (fs.map jS) o) (_:fs.length<=100) (_:g.length<=60) (_:(∀p∈g,inP p.x p.y/\∃f∈fs,f.k=p.k)) (_:(g.map fun p=>(p.x,p.y)).Nodup) (_:∀l,Same H l->Q (.bl true) l):zbG K s H Q
def zhA(K:W.Frag):Sp:=fun c H Q _=>zbG K c H Q
theorem zhN:zE ["thing","feeders","kinds"] ["thing","feeders"] (zy (topL 21)):=u0
theorem zi0{f:Addr}{fd:FuncData}{tf:Tok}(F:Fun K "are_parts" "are_parts" (topL 21) f fd)(B:Blt I)(g:Dfn P w K I G "is_tuple_upto" 1 ["thing","most"] (zbw K))(L:Dfn P w K I G "is_part" 4 ["thing","kinds"] (zhz K))(l:I "MOST_PARTS" = some (.int 60 tf)):qA P w K I G CX0 5 f fd ["thing","feeders"] (zhA K):=by
 have nd:=zhN.nd;refine F.ok zhN 0#d (fun a8 A a6 s H vs Q E hr h=>?_)
 ·obtain⟨a,b,t,fv,ps,fs,rfl,_⟩:=h
  rfl
 ·obtain⟨a,b,t,fv,ps,fs,rfl,Y,rp,qb,rf,fl,pl,ok,pd,k⟩:=h
  have a7:=bG100000;have a5:=yn hr;have ln:=rp.len;have lf:=rf.len;rw[zv] at ln lf;refine⟨_,(zg (zF (i:=2) nd rfl 0#m (jQ [] [] rfl rfl (by kernel_rfl) (xm (pv 1)) 0#k (fun _ _ _ _=>(zS (vC (K:=K) rfl) (pv 0) zj 0#c))))
   (zg (je (PW.pt (yf (jh (qL (zi g hr.m rfl (za (pv 0) (za (vB (v:=.int 60) rfl l ⟨_,rfl⟩) zb))))) (va (jh (qL (zw (j4 rfl) rfl B.all boot_all (za (jQ ["kinds"] [2] rfl rfl (by kernel_rfl) (xm (pv 0)) 0#k (fun _ _ _ _=>(zi L hr.m rfl (za (pv 0) 0#s)))) zb)))))))
   (zp (zA j6))
   qe)
   (zp (zA (qN xQ (zw zdY rfl B.len boot_len (za (ziM a5 [] [] rfl rfl (by kernel_rfl) (xm (pv 0)) 0#k (fun _ _ _ _=>(zS (vC (K:=K) rfl) (pv 0) zj 0#c))) zb)) (zw zR rfl B.len boot_len 0#t) (z7 _)))))),?_⟩
  refine⟨_,rfl,b,rfl,⟨_,qb⟩,vQ (K:=K) (xs:=fv) (fun i J N=>J=((fs.take i).map wJ.k).map V.str/\Same H N) ⟨rfl,u6 _⟩ (fun i J N ⟨_,M⟩=>M.sqT qb) ?_ ?_⟩
  ·rintro i z J N hz ⟨rfl,M⟩
   obtain⟨dd,e1,r1⟩:=(rf.same M).get hz;rw[zY] at e1;obtain⟨p,O,rfl⟩:=qH.mp e1;have hi:=(zU.mp O).1;obtain⟨u,c,rfl,qu,_⟩:=Qg r1;exact⟨rfl,⟨_,rfl,u,_,_,_,rfl,rfl,qu,rfl,by rw[zv,zv,jv];omega,by rw[jc O,zQ,zQ];rfl,M⟩⟩
  rintro J H1 ⟨rfl,s1⟩;rw[lf,jX];refine⟨by rw[zv,zv];omega,fun kl a3=>?_⟩
  have s2:=s1.trans (zd (o:=.lst ((fs.map wJ.k).map V.str)) a3);have K2:upd H1 kl (.lst ((fs.map wJ.k).map V.str)) kl=some (.lst ((fs.map wJ.k).map V.str)):=ze;generalize upd H1 kl (.lst ((fs.map wJ.k).map V.str))=H2 at s2 K2;refine⟨_,rfl,a,t,60,rfl,s2.sqT Y,by omega,_,rfl,ifF rfl ?_⟩
  refine⟨_,rfl,a,rfl,⟨_,s2.sqT Y⟩,vQ (K:=K) (xs:=t) (fun i J N=>J=(List.replicate i true).map V.bl/\Same H2 N) ⟨rfl,u6 _⟩ (fun i J N ⟨_,M⟩=>M.sqT (s2.sqT Y)) ?_ ?_⟩
  ·rintro i z J N hz ⟨rfl,M⟩
   obtain⟨dd,e1,r1⟩:=(rp.same (s2.trans M)).get hz;rw[zY] at e1;obtain⟨p,O,rfl⟩:=qH.mp e1;have hi:=(zU.mp O).1;obtain⟨o1,fe,fm,o2⟩:=ok p (qw O);exact⟨rfl,⟨_,rfl,_,rfl,z,kl,p,fs.map wJ.k,rfl,r1,u4 (M _ _ K2),qr.mpr ⟨fe,fm,o2⟩,o1,fun H4 T=>⟨by rw[zv,xF];omega,by rw[QQ,zQ];rfl,M.trans T⟩⟩⟩
  rintro J N ⟨rfl,s3⟩;refine⟨by rw[zv,xF];omega,fun D hD=>⟨D,_,rfl,u4 ze,_,rfl,?_⟩⟩
  rw[show(List.replicate t.length true).all id=true by simp]
  refine ifF rfl ?_
  have T:=s2.trans (s3.trans (zd (o:=.lst ((List.replicate t.length true).map V.bl)) hD));generalize upd N D (.lst ((List.replicate t.length true).map V.bl))=H4 at T;refine⟨_,rfl,a,rfl,⟨_,T.sqT Y⟩,zir (K:=K) (xs:=t) (fun i J H5=>J.map (·.1)=(ps.take i).map zar/\Same H4 H5/\∀p∈J,SqT K H5 p.2 (p.1.map kV)) ⟨rfl,u6 _,fun p h=>(nomatch h)⟩ (fun i J H5 ⟨_,U,q⟩=>⟨U.sqT (T.sqT Y),q⟩) ?_ ?_⟩
  ·rintro i z J H5 hz ⟨e5,U,q5⟩
   obtain⟨dd,e1,r1⟩:=(rp.same (T.trans U)).get hz;rw[zY] at e1;obtain⟨p,O,rfl⟩:=qH.mp e1;have hi:=(zU.mp O).1;obtain⟨u,c,rfl,qu,rc⟩:=Jk r1;obtain⟨c',ec,qc⟩:=vz rc;cases ec;have zl:=congrArg List.length e5;rw[zv,zv,jv] at zl;refine⟨rfl,⟨_,rfl,u,_,_,_,rfl,rfl,qu,rfl,zar p,c,rfl,qc,?_,by omega,?_,U,fun x hx=>?_⟩⟩
   ·rw[e5]
    intro h;obtain⟨p',a4,e⟩:=qr.mp h;obtain⟨j,hj,ej⟩:=zfW.mp a4;have e6:(ps.map fun p=>(p.x,p.y))[j]? =(ps.map fun p=>(p.x,p.y))[i]?:=by
     rw[zY,zY,O,qg (by omega),ej]
     unfold zar at e;injection e with a1 a2;injection a2 with a2 _;exact congrArg some (Prod.ext (xU a1) (xU a2))
    have:=(List.getElem?_inj (by rw[zv];omega) pd).mp e6
    omega
   ·rw[zQ,e5,jc O,zQ];rfl
   ·rcases ja.mp hx with h | h
    ·exact q5 x h
    ·rw[zW.mp h];exact qc
  ·rintro J H5 ⟨e5,U,q5⟩ D5 a0
   have zl:=congrArg List.length e5;rw[zv,zv,jv] at zl;refine⟨D5,J.length,rfl,ze,_,rfl,a,t,rfl,.inr ((T.trans (U.trans (zd a0))).sqT Y),rfl,?_⟩
   rw[show J.length=t.length by omega,zT rfl]
   exact k _ (T.trans (U.trans (zd a0)))
theorem zdp{H:Hp}{p:Nat×Nat}{v:V}(h:Rep K H (vZ p) v):∃a,v=.ref a/\SqT K H a [.int p.1,.int p.2]:=by
 obtain⟨a,u,rfl,g,s,l,rfl,c,t,o,rfl,e1,e2⟩:=h;cases c;cases e1;cases e2
 exact⟨a,rfl,g⟩
inductive zeu(K:W.Frag)(c:List V)(H:Hp)(Q:VK):Prop
 | mk (v:V) (p:Nat×Nat) (m:Nat) (_:c=[v,.int (m:Int)]) (_:Rep K H (vZ p) v) (_:p.1<m) (_:p.2<m) (_:p.1≠p.2) (_:Q (.bl true) H):zeu K c H Q
def zjQ(K:W.Frag):Sp:=fun c H Q _=>zeu K c H Q
theorem zj4:zE ["thing","many","one","other"] ["thing","many"] (zy (topL 22)):=u0
theorem zkv{f:Addr}{t:FuncData}(F:Fun K "is_ahead" "is_ahead" (topL 22) f t)(B:Blt I)(g:Dfn P w K I G "is_tuple_of" 1 ["thing","many"] (Yd K))(c:Dfn P w K I G "is_number_within" 2 ["thing","least","most"] Jx):qA P w K I G CX0 3 f t ["thing","many"] (zjQ K):=by
 have u:=zj4.nd;refine F.ok zj4 (fun M H Q E h=>?_) (fun J A o s H M Q E l h=>?_)
 ·obtain⟨v,p,m,rfl,_⟩:=h
  rfl
 ·obtain⟨v,p,m,rfl,L,N,O,ne,k⟩:=h
  obtain⟨a,rfl,D⟩:=zdp L;refine⟨_,(zg (je (jh (qL (zi g l.m rfl 0#p)))
   (zp (zA j6))
   qe)
   (zg (vc (pv 0) (jP rfl (zI (zB (i:=2) u rfl 0#a) (zI (zB (i:=3) u rfl 0#a) jd))))
   (zg (je (PW.pt (yf (jh (qL (zi c l.m rfl (za (pv 2) (za zj (za (zK vd (pv 1) zj) zb)))))) (va (jh (qL (zi c l.m rfl (za (pv 3) (za zj (za (zK vd (pv 1) zj) zb)))))))))
   (zp (zA j6))
   qe)
   (zp (zA (qN YA (pv 2) (pv 3) (z7 _))))))),?_⟩
  refine⟨_,rfl,a,_,2,rfl,D,rfl,_,rfl,ifF rfl ⟨_,rfl,a,_,rfl,D,rfl,_,_,rfl,_,_,rfl,rfl,?_⟩⟩
  refine⟨_,rfl,_,rfl,_,_,rfl,rfl,_,_,_,rfl,by omega,by omega,_,rfl,ifF rfl ?_⟩
  refine⟨_,rfl,_,rfl,_,_,rfl,rfl,_,_,_,rfl,by omega,by omega,_,rfl,ifF rfl ?_⟩
  refine⟨_,rfl,_,rfl,rfl,?_⟩
  rw[show decide (V.int (p.1:Int)=V.int (p.2:Int))=false from jb fun z=>ne (by injection z with z;omega)]
  exact k
inductive zbR(K:W.Frag)(l:List V)(H:Hp)(Q:VK):Prop
 | mk (a:Addr) (m:Nat) (c:List (Nat×Nat)) (_:l=[.ref a,.int (m:Int)]) (_:Rep K H (wI c) (.ref a)) (_:c.length<=200) (_:(∀p∈c,p.1<m/\p.2<m/\p.1≠p.2)) (_:∀g,Same H g->Q (.bl true) g):zbR K l H Q
def zhI(K:W.Frag):Sp:=fun c H Q _=>zbR K c H Q
theorem zhY:zE ["thing","many"] ["thing","many"] (zy (topL 23)):=u0
theorem zjb{f:Addr}{O:FuncData}{tf:Tok}(F:Fun K "are_aheads" "are_aheads" (topL 23) f O)(B:Blt I)(c:Dfn P w K I G "is_tuple_upto" 1 ["thing","most"] (zbw K))(l:Dfn P w K I G "is_ahead" 3 ["thing","many"] (zjQ K))(g:I "MOST_AHEADS" = some (.int 200 tf)):qA P w K I G CX0 4 f O ["thing","many"] (zhI K):=by
 have nd:=zhY.nd;refine F.ok zhY 0#d (fun a0 A L s H vs Q E U h=>?_)
 ·obtain⟨a,m,as,rfl,_⟩:=h
  rfl
 ·obtain⟨a,m,as,rfl,⟨a',J,ea,M,Y⟩,fl,ok,k⟩:=h
  cases ea;have T:=bG100000;have ln:=Y.len;rw[zv] at ln;refine⟨_,(zp (zA (xn (zi c U.m rfl (za (pv 0) (za (vB (v:=.int 200) rfl g ⟨_,rfl⟩) zb))) (xV (zw (j4 rfl) rfl B.all boot_all (za (jQ ["many"] [1] rfl rfl (by kernel_rfl) (xm (pv 0)) 0#k (fun _ _ _ _=>(zi l U.m rfl (za (pv 0) 0#s)))) zb)))))),?_⟩
  refine⟨_,rfl,a,J,200,rfl,M,by omega,_,rfl,ifT rfl ?_⟩
  refine⟨_,rfl,a,rfl,⟨_,M⟩,vQ (K:=K) (xs:=J) (fun i u t=>u=(List.replicate i true).map V.bl/\Same H t) ⟨rfl,u6 _⟩ (fun i u t ⟨_,o⟩=>o.sqT M) ?_ ?_⟩
  ·rintro i z u t hz ⟨rfl,o⟩
   obtain⟨dd,e1,r1⟩:=(Y.same o).get hz;rw[zY] at e1;obtain⟨p,N,rfl⟩:=qH.mp e1;have hi:=(zU.mp N).1;obtain⟨o1,o2,o3⟩:=ok p (qw N);exact⟨rfl,⟨_,rfl,_,rfl,z,p,m,rfl,r1,o1,o2,o3,by rw[zv,xF];omega,by rw[QQ,zQ];rfl,o⟩⟩
  ·rintro u t ⟨rfl,o⟩
   refine⟨by rw[zv,xF];omega,fun D hD=>⟨D,_,rfl,u4 ze,?_⟩⟩
   rw[show(List.replicate J.length true).all id=true by simp]
   exact k _ (o.trans (zd hD))
def prD(p:Int×Int):Dat:=.tup [.int p.1,.int p.2]
inductive X1(K:W.Frag)(o:List V)(H:Hp)(Q:VK):Prop
 | mk (t:Addr) (s:List V) (g:List 0#o) (_:o=[.ref t]) (_:SqL K H t s) (_:Reps K H (g.map prD) s) (_:g.length<=1000) (_:∀(l:Addr) (u:List V) c,Same H c->c l=some (.lst u)->Reps K c (g.map fun p=>prD p.swap) u->Q (.ref l) c):X1 K o H Q
def zbu(K:W.Frag):Sp:=fun c H Q _=>X1 K c H Q
theorem zbS:zE ["pairs"] ["pairs"] (zy (topL 25)):=u0
theorem ze6{f:Addr}{N:FuncData}(F:Fun K "turned" "turned" (topL 25) f N)(B:Blt I):qA P w K I G CX0 1 f N ["pairs"] (zbu K):=by
 have nd:=zbS.nd;refine F.ok zbS 0#d (fun a0 A J s H vs Q E hr h=>?_)
 ·obtain⟨t,L,o,rfl,_⟩:=h
  rfl
 ·obtain⟨t,L,o,rfl,U,rp,la,k⟩:=h
  have O:=bG100000;have Y:=rp.len;rw[zv] at Y;refine⟨_,(zp (zA (vM [] [] rfl rfl (by kernel_rfl) (jL (pv 0)) 0#k (fun _ _ _ _=>(jB (za (pv 1) 0#t)))))),?_⟩
  have l2:∀x y:V,[x,y].length<=sizeLine:=fun x y=>by rw[sizeLine_eq];show 2<=_;decide
  refine⟨_,rfl,t,rfl,⟨_,U⟩,xw (K:=K) (a:=t) (xs:=L) (fun i u D=>Reps K D ((o.take i).map fun p=>prD p.swap) u/\Same H D) ⟨rfl,u6 _⟩ (fun i u D ⟨_,g⟩=>g.seq U) ?_ ?_⟩
  ·rintro i x u H1 hx ⟨c,g⟩
   obtain⟨d,e1,r1⟩:=(rp.same g).get hx;rw[zY] at e1;obtain⟨p,M,rfl⟩:=qH.mp e1;have hi:i<o.length:=(zU.mp M).1;obtain⟨a,ws,rfl,qa,x1,a1,rfl,e2,x2,a2,rfl,e3,e4⟩:=r1;cases e2;cases e3;cases e4;refine⟨a,_,rfl,qa,rfl,_,_,rfl,_,_,rfl,rfl,rfl,?_⟩
   refine⟨_,rfl,_,rfl,l2 _ _,fun q hq=>⟨?_,?_,g.trans (zd hq)⟩⟩
   ·have:=c.len
    rw[zv,jv] at this;omega
   ·have e5:o.take (i+1)=o.take i++[p]:=by
     obtain⟨h1,h2⟩:=zU.mp M;rw[<- h2,ZX]
    rw[e5,zQ];exact ub (d:=prD p.swap) ⟨q,_,rfl,u5 ze,_,_,rfl,rfl,_,_,rfl,rfl,rfl⟩ (c.same (zd hq))
  ·rintro u H1 ⟨c,g⟩
   rw[Y,jX] at c;refine⟨by have:=c.len;rw[zv] at this;omega,fun l T=>k l u _ (g.trans (zd T)) ze (c.same (zd T))⟩
def vJ(c:List (Int×Int))(i:Int):List Int:=(c.filter fun p=>decide (p.1=i)).map (·.2)
structure NB(H0 H:Hp)(kvs:List (Key×V))(as:List 0#o):Prop where
 at_:∀i v,qD kvs (Sum.inl i)=some v->∃l,v=.ref l/\H0 l=none/\H l=some (.lst ((vJ as i).map V.int))
 no:∀i,qD kvs (Sum.inl i)=none->vJ as i=[]
 inj:∀i j l,qD kvs (Sum.inl i)=some (.ref l)->qD kvs (Sum.inl j)=some (.ref l)->i=j
 few:kvs.length<=as.length
theorem yP(c:List (Int×Int))(x y i:Int):vJ (c++[(x,y)]) i=vJ c i++(if x=i then [y] else []):=by
 unfold vJ;rw[WH,zQ];congr 1
 by_cases h:x=i<;>simp[h]
theorem zgn(c:List (Int×Int))(i:Int):(vJ c i).length<=c.length:=by
 unfold vJ;rw[zv];exact WM _ _
theorem NB.old{o H t:Hp}{c:List (Key×V)}{g:List 0#o}{x y:Int}{l:Addr}(n:NB o H c g)(s:Same H t)(e:qD c (Sum.inl x)=some (.ref l)) :
  NB o (upd t l (.lst ((vJ g x).map V.int++[.int y]))) c (g++[(x,y)]):=by
 refine⟨fun i v hv=>?_,fun i hv=>?_,n.inj,by rw[qz];have:=n.few;omega⟩
 ·obtain⟨u,rfl,A,B⟩:=n.at_ i v hv
  refine⟨u,rfl,A,?_⟩
  rw[yP];by_cases hx:x=i
  ·subst hx
   rw[e] at hv;cases hv;rw[ze,zu rfl,zQ];rfl
  ·have ne:u≠l:=fun z=>hx (n.inj x i l e (by rw[<- z];exact hv))
   rw[zq ne,zk hx,Qs];exact s _ _ B
 ·rw[yP,n.no i hv,zk (fun z=>by rw[<- z,e] at hv;cases hv)]
  rfl
theorem NB.new{u H:Hp}{c:List (Key×V)}{A:List 0#o}{x y:Int}{m d:Addr}(n:NB u H c A)(E:H m=none)(D:u m=none)(hd:H d=some (.dK c))(e:qD c (Sum.inl x)=none) :
  NB u (upd (upd (upd H m (.lst [])) d (.dK (jN c (Sum.inl x) (.ref m)))) m (.lst ([]++[.int y]))) (jN c (Sum.inl x) (.ref m)) (A++[(x,y)]):=by
 have old:∀i l,qD c (Sum.inl i)=some (.ref l)->H l=some (.lst ((vJ A i).map V.int))/\l≠m/\l≠d:=fun i l h=>by
  obtain⟨L,z,_,g⟩:=n.at_ i _ h;cases z;refine⟨g,fun z=>?_,fun z=>?_⟩
  ·rw[z,E] at g;cases g
  ·rw[z,hd] at g;cases g
 refine⟨fun i v hv=>?_,fun i hv=>?_,fun i j l o s=>?_,?_⟩
 ·rw[vV] at hv
  rw[yP];by_cases hx:i=x
  ·subst hx
   rw[zu rfl] at hv;cases hv;refine⟨m,rfl,D,?_⟩
   rw[ze,n.no _ e,zu rfl];rfl
  ·rw[zk (fun z=>hx (xU z))] at hv
   obtain⟨l,rfl,g,t⟩:=n.at_ i v hv;obtain⟨_,B,J⟩:=old i l hv;refine⟨l,rfl,g,?_⟩
   rw[zq B,zq J,zq B,zk (zG hx),Qs];exact t
 ·rw[vV] at hv
  by_cases hx:i=x
  ·subst hx;rw[zu rfl] at hv;cases hv
  ·rw[zk (fun z=>hx (xU z))] at hv
   rw[yP,n.no i hv,zk (zG hx)];rfl
 ·rw[vV] at o s
  by_cases g:i=x<;>by_cases t:j=x
  ·rw[g,t]
  ·rw[zu (by rw[g])] at o
   rw[zk (fun z=>t (xU z))] at s
   cases o;exact absurd rfl (old j _ s).2.1
  ·rw[zk (fun z=>g (xU z))] at o
   rw[zu (by rw[t])] at s
   cases s;exact absurd rfl (old i _ o).2.1
  ·rw[zk (fun z=>g (xU z))] at o
   rw[zk (fun z=>t (xU z))] at s
   exact n.inj i j l o s
 ·have:=xR c (Sum.inl x) (.ref m)
  have:=n.few;rw[qz,za8];omega
inductive Ym(K:W.Frag)(s:List V)(H:Hp)(Q:VK):Prop
 | mk (t:Addr) (o:List V) (l:List 0#o) (_:s=[.ref t]) (_:(SqL K H t o\/SqT K H t o)) (_:Reps K H (l.map prD) o) (_:l.length<=1000) (_:∀(d:Addr) (c:List (Key×V)) g,Same H g->H d=none->g d=some (.dK c)->NB H g c l->Q (.ref d) g):Ym K s H Q
def zel(K:W.Frag):Sp:=fun c H Q _=>Ym K c H Q
theorem zeE:zE ["pairs","rows","one","other"] ["pairs"] (zy (topL 26)):=u0
theorem zgL{f:Addr}{fd:FuncData}(F:Fun K "next_by" "next_by" (topL 26) f fd)(B:Blt I):qA P w K I G CX0 1 f fd ["pairs"] (zel K):=by
 have Y:=zeE.nd;refine F.ok zeE 0#d (fun a4 A a2 s H vs Q E hr h=>?_)
 ·obtain⟨t,U,O,rfl,_⟩:=h
  rfl
 ·obtain⟨t,U,O,rfl,ht,rp,la,k⟩:=h
  have a3:=bG100000;have a5:=yn hr;have lx:=rp.len;rw[zv] at lx;refine⟨_,(zg (zF (i:=1) Y rfl 0#a ZJ)
   (zg (qM ju rfl (ziK (pv 0)) (jP rfl (zI (zB (i:=2) Y rfl 0#a) (zI (zB (i:=3) Y rfl 0#a) jd)))
   (zp (xK (yi wS ZW ZV j3 (ziR (pv 1) (pv 2) (qQ zb) ⟨rfl,rfl,rfl,rfl⟩) (za (pv 3) zb)))))
   (zp (zA (pv 1))))),?_⟩
  refine fun d hd=>?_
  have e0:NB H (upd H d (.dK [])) [] ([]:List 0#o):=⟨(fun i v z=>nomatch z),0#c,(fun i j l z=>nomatch z),zD _⟩
  have s0:Same H (upd H d (.dK [])):=zd hd;have step:∀(i:Nat) (x:V) (J:Hp) (g:List (Key×V)),U[i]? =some x->J d=some (.dK g)->NB H J g (O.take i)->Same H J->∃(a:Addr) (p:Int×Int),x=.ref a/\SqT K J a [.int p.1,.int p.2]/\O[i]? =some p/\i<O.length/\O.take (i+1)=O.take i++[p]:=fun i x J g hx _ _ u=>by
   obtain⟨dd,e1,r1⟩:=(rp.same u).get hx;rw[zY] at e1;obtain⟨p,ep,rfl⟩:=qH.mp e1;obtain⟨D,h2⟩:=zU.mp ep;obtain⟨a,ws,rfl,qa,x1,a6,rfl,e2,x2,a7,rfl,e3,e4⟩:=r1;cases e2;cases e3;cases e4;exact⟨a,p,rfl,qa,ep,D,by rw[<- h2,ZX]⟩
  refine⟨_,rfl,t,rfl,ht.elim (fun hL=>.inl ⟨⟨_,s0.seq hL⟩,wj (K:=K) (a:=t) (xs:=U) (fun i σ N=>Ex3 fun(v2 v3:Option V) (g:List (Key×V))=>An4 (σ=[some (.ref t),some (.ref d),v2,v3]) (N d=some (.dK g)) (NB H N g (O.take i)) (Same H N))
   ⟨_,_,[],rfl,ze,e0,s0⟩ (fun i σ N _ ⟨_,_,_,_,_,_,u⟩=>u.seq hL) ?s1 ?e1⟩) (fun hT=>.inr ⟨⟨_,s0.sqT hT⟩,ZN (K:=K) (a:=t) (xs:=U) (fun i σ N=>Ex3 fun(v2 v3:Option V) (g:List (Key×V))=>An4 (σ=[some (.ref t),some (.ref d),v2,v3]) (N d=some (.dK g)) (NB H N g (O.take i)) (Same H N))
   ⟨_,_,[],rfl,ze,e0,s0⟩ (fun i σ N _ ⟨_,_,_,_,_,_,u⟩=>u.sqT hT) ?s2 ?e2⟩)⟩
  case e1 | e2=>
   rintro σ J ⟨v2,v3,g,rfl,D,T,u⟩;rw[lx,jX] at T;exact⟨_,rfl,k d g J u hd D T⟩
  case s1 | s2=>
   rintro i x σ J hx ⟨v2,v3,g,rfl,D,T,u⟩;obtain⟨a,p,rfl,qa,ep,hi,et⟩:=step i x J g hx D T u;rw[et];have a1:=T.few;rw[jv] at a1;refine⟨a,_,rfl,qa,rfl,_,_,rfl,_,_,rfl,rfl,?_⟩
   refine⟨_,rfl,d,rfl,.inl ⟨_,.inl D⟩,_,rfl,le0,fun m M=>⟨g,Sum.inl p.1,(zd (o:=.lst []) M) _ _ D,rfl,by omega,fun v hv=>?_,fun hv=>?_⟩⟩
   ·obtain⟨l,rfl,l0,ll⟩:=T.at_ _ v hv
    have L:=(zd (o:=.lst []) M) _ _ ll;have Y:d≠l:=fun z=>by rw[<- z,D] at ll;cases ll
    have sl:=zgn (O.take i) p.1;rw[jv] at sl;refine⟨.inl ⟨rfl,_,u4 L⟩,_,rfl,l,_,_,rfl,rfl,L,by rw[zv];omega,?_⟩
    exact⟨_,_,g,rfl,by rw[zq Y];exact(zd (o:=.lst []) M) _ _ D,T.old (zd M) hv,fun c o e=>by rw[zq (zo e l0)];exact(zd M) _ _ (u _ _ e)⟩
   ·have a0:m≠d:=fun z=>by rw[z,D] at M;cases M
    have m0:H m=none:=by
     cases z:H m with
     | none=>rfl
     | some o=>rw[u _ _ z] at M;cases M
    have L:upd (upd J m (.lst [])) d (.dK (jN g (Sum.inl p.1) (.ref m))) m=some (.lst []):=by rw[zq a0];exact ze
    refine⟨.inl ⟨rfl,_,u4 L⟩,_,rfl,m,_,_,rfl,rfl,L,by show 0<_;omega,?_⟩
    exact⟨_,_,_,rfl,by rw[zq (zG a0)];exact ze,T.new M m0 D hv,fun c o e=>by rw[zq (zo e m0),zq (zo e hd),zq (zo e m0)];exact u _ _ e⟩
end
def Wk(c:List (Int×Int)):Nat->Int->Int->Prop
 | 0,i,j=>i=j
 | n+1,i,j=>∃m,(i,m)∈c/\Wk c n m j
section
variable{g:List (Int×Int)}
theorem Wk.snoc:∀{n:Nat} {i j k:Int},Wk g n i j->(j,k)∈g->Wk g (n+1) i k
 | 0,i,j,k,h,e=>by cases(show i=j from h);exact⟨k,e,rfl⟩
 | n+1,i,j,k,⟨m,h,c⟩,e=>⟨m,h,Wk.snoc c e⟩
theorem Wk.closed{C:Int->Prop}(c:∀x y,C x->(x,y)∈g->C y):∀{n:Nat} {i j:Int},C i->Wk g n i j->C j
 | 0,i,j,h,e=>by cases(show i=j from e);exact h
 | n+1,i,j,h,⟨m,e,w⟩=>Wk.closed c (c i m h e) w
theorem Wk.back:∀{n:Nat} {i j:Int},Wk g n i j->Wk (g.map Prod.swap) n j i
 | 0,i,j,h=>Eq.symm h
 | n+1,i,j,⟨m,e,w⟩=>Wk.snoc (Wk.back w) (qr.mpr ⟨(i,m),e,rfl⟩)
theorem JV{i j:Int}:j∈vJ g i↔(i,j)∈g:=by
 unfold vJ;rw[qr];constructor
 ·rintro⟨⟨a,b⟩,h,rfl⟩
  obtain⟨c,l⟩:=yy.mp h;rw[<- jy l];exact c
 ·intro h
  exact⟨(i,j),yy.mpr ⟨h,zT rfl⟩,rfl⟩
end
def dkI(c:List (Int×Int)):List (Key×V):=c.map fun p=>(Sum.inl p.1,V.int p.2)
theorem zhd(c:List (Int×Int)):(dkI c).length=c.length:=zv _
theorem Jn:∀(c:List (Int×Int)) (i:Int),(∃v,qD (dkI c) (Sum.inl i)=some (.int v)/\i∈c.map (·.1))\/(qD (dkI c) (Sum.inl i)=none/\i∉c.map (·.1))
 | [],i=>.inr ⟨rfl,by simp⟩
 | p::c,i=>by
  by_cases h:p.1=i
  ·exact .inl ⟨p.2,jk (by show Sum.inl p.1=_;rw[h]),by simp[h]⟩
  ·have e:qD (dkI (p::c)) (Sum.inl i)=qD (dkI c) (Sum.inl i):=jn (fun z=>h (xU z))
   rcases Jn c i with ⟨v,g,l⟩ | ⟨g,l⟩
   ·exact .inl ⟨v,e.trans g,by simp only[jV,zC];exact .inr l⟩
   ·exact .inr ⟨e.trans g,by simp only[jV,zC];rintro(z | z);exact h z.symm;exact l z⟩
theorem zhc{c:List (Int×Int)}{i v:Int}(h:qD (dkI c) (Sum.inl i)=none):jN (dkI c) (Sum.inl i) (.int v)=dkI (c++[(i,v)]):=by
 rw[JH _ h];unfold dkI;rw[zQ];rfl
theorem Qc{α:Type}[DecidableEq α]:∀{l m:List α},l.Nodup->(∀x∈l,x∈m)->l.length<=m.length
 | [],_,_,_=>qB _
 | x::l,m,h,s=>by
  have hx:=s x (by simp)
  have c:=xA.mp h;have:=Qc (l:=l) (m:=m.erase x) c.2 fun y hy=>(Xy (fun e:y=x=>c.1 (e▸hy))).mpr (s y (z9 _ hy))
  rw[XE hx] at this;have:=XA hx;rw[jJ];omega
def InN(n:Nat)(i:Int):Prop:=0<=i/\i<n
theorem JS{n:Nat}{l:List Int}(h:l.Nodup)(s:∀x∈l,InN n x):l.length<=n:=by
 have:=Qc (m:=(List.range n).map fun k:Nat=>(k:Int)) h fun x hx=>by
  obtain⟨c,g⟩:=s x hx;exact qr.mpr ⟨x.toNat,qt.mpr (by omega),by omega⟩
 rwa[zv,zV] at this
theorem zaw{α:Type}{l:List α}{x:α}(h:l.Nodup)(hx:x∉l):(l++[x]).Nodup:=by
 rw[y6];exact⟨h,by simp,fun a c b hb e=>hx (by rw[zW] at hb;rw[<- hb,<- e];exact c)⟩
structure RowsOk(H:Hp)(rk:List (Key×V))(as:List 0#o):Prop where
 at_:∀i v,qD rk (Sum.inl i)=some v->∃l,v=.ref l/\H l=some (.lst ((vJ as i).map V.int))
 no:∀i,qD rk (Sum.inl i)=none->vJ as i=[]
theorem RowsOk.same{H c:Hp}{o:List (Key×V)}{g:List 0#o}(r:RowsOk H o g)(s:Same H c):RowsOk c o g:=⟨fun i v e=>let ⟨l,a,b⟩:=r.at_ i v e;⟨l,a,s _ _ b⟩,r.no⟩
def WSt(H:Hp)(o:List (Int×Int))(n:Nat)(s:Int)(r d:Addr)(m:Nat)(σ:St)(l:Hp):Prop:=
 ∃(e:Addr) (g:List Int) (c:List 0#o) (t u w:Option V),σ=[some (.int s),some (.ref r),some (.ref d),some (.ref e),t,u,w]/\H e=none/\e≠d/\l e=some (.lst (g.map V.int))/\l d=some (.dK (dkI c))/\Same H l /\
  (c.map (·.1)).Nodup/\(∀j∈c.map (·.1),∃k,Wk o k s j)/\s∈c.map (·.1)/\(∀j∈g,j∈c.map (·.1))/\(∀x∈c.map (·.1),x∉g->∀y,(x,y)∈o->y∈c.map (·.1))/\g.length<=60/\m=2*(n-c.length)+(if g=[] then 0 else 1)
structure RSt(as:List 0#o)(s:Int)(d l:Addr)(ps:List 0#o)(H H':Hp)(qs:List 0#o)(rs:List Int):Prop where
 hd:H' d=some (.dK (dkI qs))
 hl:H' l=some (.lst (rs.map V.int))
 sm:Same H H'
 nd:(qs.map (·.1)).Nodup
 snd:∀j∈qs.map (·.1),∃k,Wk as k s j
 eq:qs.map (·.1)=ps.map (·.1)++rs
section
variable{P:Program}{w:World}{K:W.Frag}{I:Str->Option Value}{G:Heap}
inductive X3(K:W.Frag)(t:List V)(H:Hp)(Q:VK):Prop
 | mk (s:Int) (r:Addr) (o:List (Key×V)) (c:List 0#o) (n:Nat) (_:t=[.int s,.ref r]) (_:H r=some (.dK o)) (_:RowsOk H o c) (_:n<=60) (_:InN n s) (_:(∀p∈c,InN n p.2)) (_:c.length<=1000) (_:∀(d:Addr) (g:List 0#o) l,Same H l->H d=none->l d=some (.dK (dkI g))->(g.map (·.1)).Nodup->g.length<=n->(∀j,j∈g.map (·.1)↔∃k,Wk c k s j)->Q (.ref d) l):X3 K t H Q
def zbA(K:W.Frag):Sp:=fun c H Q _=>X3 K c H Q
theorem zbU:zE ["start","rows","steps","edge","reached","part","other"] ["start","rows"] (zy (topL 27)):=u0
theorem ze8{f:Addr}{fd:FuncData}(F:Fun K "steps_from" "steps_from" (topL 27) f fd)(B:Blt I):qA P w K I G CX0 1 f fd ["start","rows"] (zbA K):=by
 have nd:=zbU.nd;refine F.ok zbU 0#d (fun av A ar s H vs Q E hr h=>?_)
 ·obtain⟨s,r,rk,M,n,rfl,_⟩:=h
  rfl
 ·obtain⟨s,r,rk,M,n,rfl,hR,ro,aw,ins,a7,al,k⟩:=h
  have au:=bG100000;have a4:=yn hr;refine⟨_,(zg (zF (i:=2) nd rfl 0#a (zcd (Yy (pv 0) zj zca) rfl rfl (by intro z;cases z) (by show 1<=15;decide)))
   (zg (zF (i:=3) nd rfl 0#a (qQ 0#t))
   (zg (JI ju (zgA (pv 3))
   (zg (zF (i:=4) nd rfl 0#a (qQ zb))
    (zg (qM ju rfl (jL (pv 3)) (zB (i:=5) nd rfl 0#a)
    (zp (qM ju rfl (jL (yh a4 (pv 1) (pv 5) (qQ zb) ⟨rfl,rfl,rfl,rfl⟩)) (zB (i:=6) nd rfl 0#a)
     (zp (je (zap (Vf a4 (pv 6) (pv 2)))
      (zg (Ji a4 (pv 2) (pv 6) (zK qx (V4 a4 (pv 2) (pv 5) 0#c) zj) rfl)
       (zp (xK (yi wS ZW ZV j3 (pv 4) (za (pv 6) zb)))))
      qe)))))
    (zp (zF (i:=3) nd rfl 0#a (pv 4))))))
   (zp (zA (pv 2)))))),?_⟩
  refine fun d hd=>⟨_,rfl,ze,[(Sum.inl s,.int 0)],rfl,(by show 1<=15;decide),_,rfl,le1,fun e he=>?_⟩
  have ed:e≠d:=fun z=>by rw[z,ze] at he;cases he
  have e0:H e=none:=by rw[zq ed,zq ed] at he;exact he
  have s0:Same H (upd (upd (upd H d (.dK [])) d (.dK (jM [] [(Sum.inl s,V.int 0)]))) e (.lst [.int s])):=fun c o z=>by rw[zq (zo z e0),zq (zo z hd),zq (zo z hd)];exact z
  have ae:(upd (upd (upd H d (.dK [])) d (.dK (jM [] [(Sum.inl s,V.int 0)]))) e (.lst [.int s])) d=some (.dK (dkI [(s,0)])):=by rw[zq (zG ed),ze];rfl
  have af:(upd (upd (upd H d (.dK [])) d (.dK (jM [] [(Sum.inl s,V.int 0)]))) e (.lst [.int s])) e=some (.lst ([s].map V.int)):=ze;generalize upd (upd (upd H d (.dK [])) d (.dK (jM [] [(Sum.inl s,V.int 0)]))) e (.lst [.int s])=H1 at s0 ae af;refine⟨WSt H M n s r d,⟨_,e,[s],[(s,0)],_,_,_,rfl,e0,ed,af,ae,s0,by simp,fun j hj=>⟨0,by simp at hj;exact hj.symm⟩,by simp,by simp,fun x hx hn=>absurd hx (by simpa using hn),by simp,rfl⟩,?_⟩
  rintro m σ H2 ⟨e,es,T,v4,v5,v6,rfl,en,aq,a2,a5,s2,a9,aa,ai,ak,ac,el,rfl⟩;have ap:∀j∈T.map (·.1),InN n j:=fun j hj=>by
   obtain⟨k,wk⟩:=aa j hj;exact Wk.closed (C:=InN n) (fun x y _ h=>a7 _ h) ins wk
  have pl:T.length<=n:=by have:=JS a9 ap;rwa[zv] at this
  refine⟨_,rfl,e,_,rfl,u4 a2,?_⟩
  cases es with
  | nil=>
   refine ifF (by rfl) ?_
   refine⟨_,rfl,k d T H2 s2 hd a5 a9 pl fun j=>⟨aa j,fun ⟨k,wk⟩=>Wk.closed (C:=fun j=>j∈T.map (·.1)) (fun x y hx h=>ac x hx (by simp) y h) ai wk⟩⟩
  | cons e1 Y=>
   refine ifT (by rfl) ?_
   refine⟨fun σ' U=>∃m',m'<2*(n-T.length)+(if e1::Y=[] then 0 else 1)/\WSt H M n s r d m' σ' U,fun _ _ h=>h,?_⟩
   refine⟨le0,fun l hl=>?_⟩
   have lH:H l=none:=by
    cases z:H l with
    | none=>rfl
    | some o=>rw[s2 _ _ z] at hl;cases hl
   have ld:l≠d:=fun z=>by rw[z,a5] at hl;cases hl
   have le:l≠e:=fun z=>by rw[z,a2] at hl;cases hl
   refine⟨_,rfl,e,rfl,⟨_,u4 ((zd hl) _ _ a2)⟩,wj (K:=K) (a:=e) (xs:=(e1::Y).map V.int) (fun i σ U=>Ex4 fun(v5 v6:Option V) (g:List 0#o) (L:List Int)=>An4 (σ=[some (.int s),some (.ref r),some (.ref d),some (.ref e),some (.ref l),v5,v6]) (U e=some (.lst ((e1::Y).map V.int))) (RSt M s d l T H U g L) ((∀x∈(e1::Y).take i,∀y,(x,y)∈M->y∈g.map (·.1))))
    ⟨_,_,T,[],rfl,(zd hl) _ _ a2,⟨(zd hl) _ _ a5,ze,s2.trans (zd hl),a9,aa,by simp⟩,by simp⟩ (fun i σ U _ ⟨_,_,_,_,_,h,_,_⟩=>u4 h) ?_ ?_⟩
   ·rintro i x σ H3 hx ⟨v5,v6,g,L,rfl,ah,D,a0⟩
    rw[zY] at hx;obtain⟨x,ex,rfl⟩:=qH.mp hx;have et:(e1::Y).take (i+1)=(e1::Y).take i++[x]:=by
     obtain⟨h1,h2⟩:=zU.mp ex;rw[<- h2,ZX]
    have xk:x∈T.map (·.1):=ak x (qw ex)
    have xq:x∈g.map (·.1):=by rw[D.eq];exact vg _ xk
    refine⟨_,rfl,r,rfl,.inl ⟨_,.inl (D.sm _ _ hR)⟩,_,rfl,le0,fun q hq=>?_⟩
    have sq:=zd (H:=H3) (o:=.lst []) hq;have qd:q≠d:=fun z=>by rw[z,D.hd] at hq;cases hq
    have ql:q≠l:=fun z=>by rw[z,D.hl] at hq;cases hq
    refine⟨_,.inl ⟨rk,Sum.inl x,.inl (sq _ _ (D.sm _ _ hR)),rfl,rfl⟩,?_⟩
    have tt:∃t,(qD rk (Sum.inl x)).getD (.ref q)=.ref t/\upd H3 q (.lst []) t=some (.lst ((vJ M x).map V.int))/\t≠d/\t≠l:=by
     cases z:qD rk (Sum.inl x) with
     | none=>exact⟨q,rfl,by rw[ro.no x z];exact ze,qd,ql⟩
     | some v=>
      obtain⟨t,rfl,ht⟩:=ro.at_ x v z;exact⟨t,rfl,sq _ _ (D.sm _ _ ht),zo ht hd,zo ht lH⟩
    obtain⟨t,an,ht,td,tl⟩:=tt;rw[an];refine⟨t,rfl,⟨_,u4 ht⟩,wj (K:=K) (a:=t) (xs:=(vJ M x).map V.int) (fun k σ U=>Ex3 fun(v6:Option V) (g:List 0#o) (L:List Int)=>An6 (σ=[some (.int s),some (.ref r),some (.ref d),some (.ref e),some (.ref l),some (.int x),v6]) (U e=some (.lst ((e1::Y).map V.int))) (U t=some (.lst ((vJ M x).map V.int))) (RSt M s d l T H U g L) ((∀x∈(e1::Y).take i,∀y,(x,y)∈M->y∈g.map (·.1))) (∀y∈(vJ M x).take k,y∈g.map (·.1)))
     ⟨_,g,L,rfl,sq _ _ ah,ht,⟨sq _ _ D.hd,sq _ _ D.hl,D.sm.trans sq,D.nd,D.snd,D.eq⟩,a0,by simp⟩ (fun i σ U _ ⟨_,_,_,_,_,h,_,_,_⟩=>u4 h) ?_ ?_⟩
    ·rintro j y σ H4 hy ⟨v6,g,L,rfl,a3,a6,J,a1,O⟩
     rw[zY] at hy;obtain⟨y,ey,rfl⟩:=qH.mp hy;have ag:(vJ M x).take (j+1)=(vJ M x).take j++[y]:=by
      obtain⟨h1,h2⟩:=zU.mp ey;rw[<- h2,ZX]
     have xy:(x,y)∈M:=JV.mp (qw ey);have am:x∈g.map (·.1):=by rw[J.eq];exact vg _ xk
     refine⟨_,rfl,_,rfl,d,_,rfl,.inl ⟨_,Sum.inl y,.inl J.hd,rfl,rfl⟩,?_⟩
     rcases Jn g y with ⟨v,hv,my⟩ | ⟨hv,my⟩
     ·rw[hv]
      refine⟨_,rfl,ifF (by rfl) ?_⟩
      refine⟨_,g,L,rfl,a3,a6,J,a1,fun z N=>?_⟩
      rw[ag] at N;rcases ja.mp N with h | h
      ·exact O z h
      ·rw[zW.mp h];exact my
     ·rw[hv]
      refine⟨_,rfl,ifT (by rfl) ?_⟩
      rcases Jn g x with ⟨vx,ao,_⟩ | ⟨_,z⟩
      ·have a8:∀j∈g.map (·.1),InN n j:=fun j hj=>by
        obtain⟨k,wk⟩:=J.snd j hj;exact Wk.closed (C:=InN n) (fun x y _ h=>a7 _ h) ins wk
       have ql:g.length<=n:=by have:=JS J.nd a8;rwa[zv] at this
       have lq:g.length=T.length+L.length:=by
        have:=congrArg List.length J.eq;rwa[qz,zv,zv] at this
       refine⟨_,rfl,_,rfl,d,_,rfl,.inl ⟨_,Sum.inl x,.inl J.hd,rfl,ao.symm⟩,_,_,rfl,rfl,_,rfl,_,rfl,d,_,rfl,.inl ⟨_,Sum.inl y,J.hd,rfl,by rw[zhd];omega,rfl⟩,?_⟩
       rw[zhc hv];have ab:upd H4 d (.dK (dkI (g++[(y,vx+1)]))) l=some (.lst (L.map V.int)):=by rw[zq ld];exact J.hl
       refine⟨_,rfl,.inl ⟨rfl,_,u4 ab⟩,_,rfl,l,_,_,rfl,rfl,ab,by rw[zv];omega,?_⟩
       refine⟨_,g++[(y,vx+1)],L++[y],rfl,by rw[zq (zG le),zq aq];exact a3,by rw[zq tl,zq td];exact a6,⟨by rw[zq (zG ld)];exact ze,by rw[ze,zQ];rfl,fun c o z=>by rw[zq (zo z lH),zq (zo z hd)];exact J.sm _ _ z,?_,?_,by rw[zQ,J.eq,WD];rfl⟩,fun z N u hu=>?_,fun z N=>?_⟩
       ·rw[zQ]
        exact zaw J.nd my
       ·intro z N
        rw[zQ] at N;rcases ja.mp N with h | h
        ·exact J.snd z h
        ·obtain⟨k,wk⟩:=J.snd x am
         rw[zW.mp h];exact⟨k+1,wk.snoc xy⟩
       ·rw[zQ]
        exact vg _ (a1 z N u hu)
       ·rw[ag] at N
        rw[zQ];rcases ja.mp N with h | h
        ·exact vg _ (O z h)
        ·exact qG _ h
      ·exact absurd am z
    ·rintro σ H4 ⟨v6,g,L,rfl,a3,a6,J,a1,O⟩
     rw[zv,jX] at O;refine⟨_,_,g,L,rfl,a3,J,fun z N y hy=>?_⟩
     rw[et] at N;rcases ja.mp N with h | h
     ·exact a1 z h y hy
     ·rw[zW.mp h] at hy
      exact O y (JV.mpr hy)
   ·rintro σ H3 ⟨v5,v6,g,L,rfl,ah,D,a0⟩
    rw[zv,jX] at a0;have a8:∀j∈g.map (·.1),InN n j:=fun j hj=>by
     obtain⟨k,wk⟩:=D.snd j hj;exact Wk.closed (C:=InN n) (fun x y _ h=>a7 _ h) ins wk
    have ql:g.length<=n:=by have:=JS D.nd a8;rwa[zv] at this
    have lq:g.length=T.length+L.length:=by
     have:=congrArg List.length D.eq;rwa[qz,zv,zv] at this
    refine⟨_,rfl,2*(n-g.length)+(if L=[] then 0 else 1),?_,l,L,g,_,_,_,rfl,lH,ld,D.hl,D.hd,D.sm,D.nd,D.snd,by rw[D.eq];exact vg _ ai,fun j hj=>by rw[D.eq];exact qG _ hj,fun x hx hn y hy=>?_,by omega,rfl⟩
    ·rw[zk (by simp:¬e1::Y=[])]
     split
     ·omega
     ·rename_i h
      have:=Zy.mpr h;omega
    ·rw[D.eq] at hx
     rcases ja.mp hx with h | h
     ·by_cases aj:x∈e1::Y
      ·exact a0 x aj y hy
      ·rw[D.eq];exact vg _ (ac x h aj y hy)
     ·exact absurd h hn
inductive Yn(K:W.Frag)(s:List V)(H:Hp)(Q:VK):Prop
 | mk (l d:Addr) (g:List Int) (o:List 0#o) (_:s=[.ref l,.ref d]) (_:SqL K H l (g.map V.int)) (_:H d=some (.dK (dkI o))) (_:(∀x∈g,x∉o.map (·.1))) (_:∀c,Same H c->Q .non c):Yn K s H Q
def zem(K:W.Frag):Sp:=fun c H Q _=>Yn K c H Q
theorem zeF:zE ["parts","steps","found"] ["parts","steps"] (zy (topL 28)):=u0
theorem zgM{f:Addr}{J:FuncData}(F:Fun K "nearest_of" "nearest_of" (topL 28) f J)(B:Blt I):qA P w K I G CX0 1 f J ["parts","steps"] (zem K):=by
 have nd:=zeF.nd;refine F.ok zeF 0#d (fun U A u s H vs Q E M h=>?_)
 ·obtain⟨l,d,O,T,rfl,_⟩:=h
  rfl
 ·obtain⟨l,d,O,T,rfl,L,hd,no,k⟩:=h
  have c:=yn M;have g:=M.units;refine⟨_,(zg (zF (i:=2) nd rfl 0#a (zat (zdX rfl g) rfl B.min yq (za (jQ ["steps"] [1] rfl rfl (by kernel_rfl) (jL (pv 0)) (fun _ _ _ _=>(JL (zap (ziT c (pv 0) (pv 1))))) (fun _ _ _ _=>(jB (za (V4 c (pv 1) (pv 0) 0#c) 0#t)))) zb) vL))
   (zg (je (qC JR (pv 2) vL (z7 _))
   (zp (zA vL))
   qe)
   (zp (zA (zS qF (pv 2) zj 0#c))))),?_⟩
  refine⟨_,rfl,l,rfl,⟨_,L⟩,xw (K:=K) (a:=l) (xs:=O.map V.int) (fun i t o=>Same H o/\t=[]) ⟨u6 _,rfl⟩ (fun i t o ⟨s1,_⟩=>s1.seq L) ?_ ?_⟩
  ·rintro i x t o hx ⟨s1,rfl⟩
   rw[zY] at hx;obtain⟨x,Y,rfl⟩:=qH.mp hx;refine⟨rfl,_,rfl,_,rfl,d,_,rfl,.inl ⟨_,Sum.inl x,.inl (s1 _ _ hd),rfl,rfl⟩,?_⟩
   rcases Jn T x with ⟨v,hv,N⟩ | ⟨hv,N⟩
   ·exact absurd N (no x (qw Y))
   ·rw[hv]
    exact⟨_,rfl,ifF rfl ⟨s1,rfl⟩⟩
  ·rintro t o ⟨s1,rfl⟩
   refine⟨qB _,fun D hD=>?_⟩
   refine⟨D,[],[],rfl,u4 ze,PrR.nil,fun e=>?_,fun v ne=>absurd rfl ne⟩
   exact⟨_,rfl,rfl,_,rfl,ifT (by decide) (k _ (s1.trans (zd hD)))⟩
inductive Jz(K:W.Frag)(s:List V)(H:Hp)(Q:VK):Prop
 | mk (fs:Int) (r d:Addr) (o:List (Key×V)) (g l:List 0#o) (_:s=[.int fs,.ref r,.ref d]) (_:H r=some (.dK o)) (_:RowsOk H o g) (_:H d=some (.dK (dkI l))) (_:(∀y,(fs,y)∈g->y∉l.map (·.1))) (_:∀c,Same H c->Q .non c):Jz K s H Q
def Yi(K:W.Frag):Sp:=fun c H Q _=>Jz K c H Q
theorem Yu:zE ["first","rows","steps","ring","part"] ["first","rows","steps"] (zy (topL 29)):=u0
theorem zds{f:Addr}{U:FuncData}(F:Fun K "ring_by" "ring_by" (topL 29) f U)(B:Blt I)(c:Dfn P w K I G "nearest_of" 1 ["parts","steps"] (zem K)):qA P w K I G CX0 2 f U ["first","rows","steps"] (Yi K):=by
 have N:=Yu.nd;refine F.ok Yu 0#d (fun a0 A O s H vs Q E L h=>?_)
 ·obtain⟨fs,r,d,u,D,ps,rfl,_⟩:=h
  rfl
 ·obtain⟨fs,r,d,u,D,ps,rfl,Y,ro,hd,no,k⟩:=h
  have g:=yn L;refine⟨_,(zg (zF (i:=3) N rfl 0#a (qQ 0#t))
   (zg (zF (i:=4) N rfl 0#a (zi c L.m rfl (za (yh g (pv 1) (pv 0) (qQ zb) ⟨rfl,rfl,rfl,rfl⟩) (za (pv 2) zb))))
   (zg (je (qC JR (pv 4) vL (z7 _))
   (zp (zA vL))
   qe)
   (zg (JI ju (qC YA (pv 4) (pv 0) (z7 _))
   (zg (xK (yi wS ZW ZV j3 (pv 3) (za (pv 4) zb)))
    (zp (zF (i:=4) N rfl 0#a (zi c L.m rfl (za (V4 g (pv 1) (pv 4) 0#c) (za (pv 2) zb)))))))
   (zp (zA (pv 3))))))),?_⟩
  refine⟨_,rfl,le1,fun l hl=>?_⟩
  have s1:=zd (o:=.lst [V.int fs]) hl;generalize upd H l (.lst [V.int fs])=T at s1;refine⟨_,rfl,r,rfl,.inl ⟨_,.inl (s1 _ _ Y)⟩,_,rfl,le0,fun q hq=>?_⟩
  have sq:=zd (H:=T) (o:=.lst []) hq;have s2:=s1.trans sq;refine⟨_,.inl ⟨u,Sum.inl fs,.inl (s2 _ _ Y),rfl,rfl⟩,?_⟩
  have tt:∃t,(qD u (Sum.inl fs)).getD (.ref q)=.ref t/\upd T q (.lst []) t=some (.lst ((vJ D fs).map V.int)):=by
   cases z:qD u (Sum.inl fs) with
   | none=>exact⟨q,rfl,by rw[ro.no fs z];exact ze⟩
   | some v=>
    obtain⟨t,rfl,M⟩:=ro.at_ fs v z;exact⟨t,rfl,s2 _ _ M⟩
  obtain⟨t,J,M⟩:=tt;rw[J];refine⟨_,rfl,t,d,vJ D fs,ps,rfl,u4 M,s2 _ _ hd,fun y hy=>no y (JV.mp hy),fun H3 s3=>?_⟩
  exact⟨_,rfl,rfl,_,rfl,ifT (by decide) (k _ (s2.trans s3))⟩
def zjB(c:List (Int×Int)):Prop:=∀s k,¬Wk c (k+1) s s
inductive Jy(K:W.Frag)(l:List V)(H:Hp)(Q:VK):Prop
 | mk (n:Nat) (t:Addr) (o:List V) (c:List 0#o) (_:l=[.int (n:Int),.ref t]) (_:SqL K H t o) (_:Reps K H (c.map prD) o) (_:c.length<=1000) (_:n<=60) (_:(∀p∈c,InN n p.1/\InN n p.2)) (_:zjB c) (_:∀g,Same H g->Q .non g):Jy K l H Q
def Yh(K:W.Frag):Sp:=fun c H Q _=>Jy K c H Q
theorem Yt:zE ["many","aheads","onward","backward","best","first","ring"] ["many","aheads"] (zy (topL 30)):=u0
def zc1(n:Nat)(t:_)(o:_)(l:_)(c:_):=fun(i:Nat) (σ:St) (g:Hp)=>(Ex2 fun(s u:Option V)=>An2 (σ=[some (.int (n:Int)),some (.ref t),some (.ref o),some (.ref l),some .non,s,u]) (Same c g):Prop)
theorem zdr{f:Addr}{fd:FuncData}(F:Fun K "ring_in" "ring_in" (topL 30) f fd)(B:Blt I)(D:Dfn P w K I G "turned" 1 ["pairs"] (zbu K))(g:Dfn P w K I G "next_by" 1 ["pairs"] (zel K))(o:Dfn P w K I G "steps_from" 1 ["start","rows"] (zbA K))(u:Dfn P w K I G "ring_by" 2 ["first","rows","steps"] (Yi K)) :
  qA P w K I G CX0 3 f fd ["many","aheads"] (Yh K):=by
 have N:=Yt.nd;refine F.ok Yt 0#d (fun ag A ab s H vs Q E U h=>?_)
 ·obtain⟨n,t,xs,J,rfl,_⟩:=h
  rfl
 ·obtain⟨n,t,xs,J,rfl,ht,rp,la,aa,a8,T,k⟩:=h
  have O:(2^62:Int)=4611686018427387904:=by decide
  refine⟨_,(zg (zF (i:=2) N rfl 0#a (zi g U.m rfl 0#s))
   (zg (zF (i:=3) N rfl 0#a (zi g U.m rfl (za (zi D U.m rfl 0#s) zb)))
   (zg (zF (i:=4) N rfl 0#a vL)
   (zg (qM ju rfl (qX rfl B.range 0#t) (zB (i:=5) N rfl 0#a)
   (zg (zF (i:=6) N rfl 0#a (zi u U.m rfl (za (pv 5) (za (pv 2) (za (zi o U.m rfl (za (pv 5) (za (pv 3) zb))) zb)))))
    (zp (je (PW.pt (ziB (qC zgG (pv 6) vL (z7 _)) (zgy (PW.pt (yf (qC JR (pv 4) vL (z7 _)) (va (qC zcf (zw zR rfl B.len boot_len (za (pv 6) zb)) (zw zR rfl B.len boot_len (za (pv 4) zb)) (z7 _))))))))
    (zp (zF (i:=4) N rfl 0#a (pv 6)))
    qe))))
   (zp (zA (pv 4))))))),?_⟩
  refine⟨_,rfl,t,xs,J,rfl,.inl ht,rp,la,fun ro a4 H1 s1 ai a0 a1=>?_⟩
  refine⟨_,rfl,t,xs,J,rfl,s1.seq ht,rp.same s1,la,fun tl ys H2 s2 a7 a5=>?_⟩
  have em:(J.map fun p=>prD p.swap)=(J.map Prod.swap).map prD:=by rw[j9];rfl
  rw[em] at a5;refine⟨tl,ys,J.map Prod.swap,rfl,.inl (u4 a7),a5,by rw[zv];exact la,fun rb a3 H3 s3 ah Y a2=>?_⟩
  have L:=s2.trans s3;have ae:RowsOk H3 a4 J:=(RowsOk.mk (fun i v e=>let ⟨l,a,_,b⟩:=a1.at_ i v e;⟨l,a,b⟩) a1.no).same L
  have ac:RowsOk H3 a3 (J.map Prod.swap):=RowsOk.mk (fun i v e=>let ⟨l,a,_,b⟩:=a2.at_ i v e;⟨l,a,b⟩) a2.no
  have h3:=L _ _ a0;have af:=s1.trans L;refine⟨_,rfl,_,rfl,by rw[O];omega,by rw[O];omega,?_⟩
  rw[vG];refine jC (n:=n) (zc1 n t ro rb H3) ⟨_,_,rfl,u6 _⟩ ?_ ?_
  ·rintro i σ H4 hi ⟨v5,v6,rfl,s4⟩
   have a9:InN n (0+(i:Int)):=⟨by omega,by omega⟩
   refine⟨_,rfl,_,rfl,_,rfl,_,rfl,0+(i:Int),rb,a3,J.map Prod.swap,n,rfl,s4 _ _ Y,ac.same s4,aa,a9,fun p hp=>?_,by rw[zv];exact la,fun d ps H5 s5 hd a6 aj pl dm=>?_⟩
   ·obtain⟨q,hq,rfl⟩:=qr.mp hp
    exact(a8 q hq).1
   have M:=s4.trans s5;refine⟨0+(i:Int),ro,d,a4,J,ps,rfl,M _ _ h3,ae.same M,a6,fun y hy hk=>?_,fun H6 s6=>?_⟩
   ·obtain⟨c,hc⟩:=(dm y).mp hk
    have:=hc.back;rw[j9,show(Prod.swap∘Prod.swap:Int×Int->Int×Int)=id from funext fun _=>rfl,List.map_id] at this
    exact T _ c ⟨y,hy,this⟩
   ·refine⟨_,rfl,rfl,_,rfl,ifF (by simp) ?_⟩
    exact⟨_,_,rfl,M.trans s6⟩
  ·rintro σ H4 ⟨v5,v6,rfl,s4⟩
   exact⟨_,rfl,k H4 (af.trans s4)⟩
theorem Wk.rank{c:List (Int×Int)}{rk:Int->Nat}(h:∀q∈c,rk q.1<rk q.2):∀{k:Nat} {a b:Int},Wk c k a b->rk a+k<=rk b
 | 0,a,b,e=>by cases(show a=b from e);exact zD _
 | k+1,a,b,⟨m,e,w⟩=>by
  have:=Wk.rank h w;have:rk a<rk m:=h (a,m) e;omega
def zjo(p:Nat×Nat):Int×Int:=(p.1,p.2)
theorem ByOrd.at_{c:List Nat}{o:List (Nat×Nat)}{n:Nat}(g:c.Perm (List.range n))(A:ByOrd c o):∀p∈o,p.1<n/\p.2<n/\c.idxOf p.1<c.idxOf p.2:=fun p E=>by
 obtain⟨k,l,H,e1,e2⟩:=A p E;have u:=g.nodup_iff.mpr Zt;obtain⟨B,s⟩:=zU.mp e1;obtain⟨D,t⟩:=zU.mp e2;refine⟨qt.mp (g.mem_iff.mp (s▸xB B)),qt.mp (g.mem_iff.mp (t▸xB D)),?_⟩
 rw[<- s,<- t,u.idxOf_getElem,u.idxOf_getElem];exact H
theorem ByOrd.free{c:List Nat}{g:List (Nat×Nat)}{n:Nat}(t:c.Perm (List.range n))(l:ByOrd c g):zjB (g.map zjo):=fun s k w=>by
 have:=w.rank (rk:=fun i=>c.idxOf i.toNat) fun q hq=>by
  obtain⟨p,o,rfl⟩:=qr.mp hq;exact(l.at_ t p o).2.2
 omega
structure zhr(J:Job):Prop where
 gate:inP J.gx J.gy
 hd0:1<=J.hd
 hd1:J.hd<=4
 fl:J.fs.length<=20
 fa:∀f∈J.fs,okF f
 pl:J.ps.length<=60
 pa:∀p∈J.ps,inP p.x p.y/\∃f∈J.fs,f.k=p.k
 pd:(J.ps.map fun p=>(p.x,p.y)).Nodup
 al:J.as.length<=200
 ab:∀p∈J.as,p.1<J.ps.length/\p.2<J.ps.length/\p.1≠p.2
 fr:zjB (J.as.map zjo)
theorem JobOk.rt{J:Job}{o:List Nat}(g:JobOk J o):zhr J:=⟨g.gate,g.hd0,g.hd1,g.fl,g.fa,g.pl,fun p l=>(g.pa p l).2,g.pd,g.al,fun p l=>by
 obtain⟨a,b,c⟩:=g.bo.at_ g.op p l;exact⟨a,b,fun z=>by rw[z] at c;exact jW _ c⟩,g.bo.free g.op⟩
inductive zbO(K:W.Frag)(l:List V)(H:Hp)(Q:VK):Prop
 | mk (g:Addr) (J:Job) (_:l=[.ref g]) (_:Rep K H (vR J) (.ref g)) (_:zhr J) (_:∀c,Same H c->Q (.bl true) c):zbO K l H Q
def zhF(K:W.Frag):Sp:=fun c H Q _=>zbO K c H Q
theorem zhV:zE ["thing","gate","heads","feeders","parts","aheads"] ["thing"] (zy (topL 24)):=u0
theorem zi8{f:Addr}{fd:FuncData}{tf:Tok}(F:Fun K "is_job" "is_job" (topL 24) f fd)(B:Blt I)(u:Dfn P w K I G "is_tuple_of" 1 ["thing","many"] (Yd K))(N:Dfn P w K I G "is_place" 3 ["thing"] (VL K))(c:Dfn P w K I G "is_number_within" 2 ["thing","least","most"] Jx)
  (t:Dfn P w K I G "are_feeders" 5 ["thing"] (zhG K)) (M:Dfn P w K I G "are_parts" 5 ["thing","feeders"] (zhA K)) (L:Dfn P w K I G "are_aheads" 4 ["thing","many"] (zhI K)) (T:Dfn P w K I G "ring_in" 3 ["many","aheads"] (Yh K)) (D:I "MOST_HEADS" = some (.int 4 tf)):qA P w K I G CX0 6 f fd ["thing"] (zhF K):=by
 have Y:=zhV.nd;refine F.ok zhV 0#d (fun a3 A a1 s H vs Q E U h=>?_)
 ·obtain⟨jp,J,rfl,_⟩:=h
  rfl
 ·obtain⟨jp,J,rfl,rj,O,k⟩:=h
  obtain⟨g,fs,ps,as,fv,a2,qj,rg,qf,rf,qp,rp,ra⟩:=xx rj;have lp:=rp.len;rw[zv] at lp;refine⟨_,(zg (je (jh (qL (zi u U.m rfl 0#p)))
   (zp (zA j6))
   qe)
   (zg (vc (pv 0) (jP rfl (zI (zB (i:=1) Y rfl 0#a) (zI (zB (i:=2) Y rfl 0#a) (zI (zB (i:=3) Y rfl 0#a) (zI (zB (i:=4) Y rfl 0#a) (zI (zB (i:=5) Y rfl 0#a) jd)))))))
   (zg (je (PW.pt (yf (jh (qL (zi N U.m rfl 0#s))) (va (jh (qL (zi c U.m rfl (za (pv 2) (za zj (za (vB (v:=.int 4) rfl D ⟨_,rfl⟩) zb)))))))))
   (zp (zA j6))
   qe)
   (zg (je (PW.pt (yf (jh (qL (zi t U.m rfl (za (pv 3) zb)))) (va (jh (qL (zi M U.m rfl (za (pv 4) (za (pv 3) zb))))))))
   (zp (zA j6))
   qe)
   (zg (je (jh (qL (zi L U.m rfl (za (pv 5) (za (zw zR rfl B.len boot_len (za (pv 4) zb)) zb)))))
   (zp (zA j6))
   qe)
   (zp (zA (qN JR (zi T U.m rfl (za (zw zR rfl B.len boot_len (za (pv 4) zb)) (za (qO wD rfl B.list j5 (za (pv 5) zb)) zb))) vL (z7 _))))))))),?_⟩
  refine⟨_,rfl,jp,_,5,rfl,qj,rfl,_,rfl,ifF rfl ⟨_,rfl,jp,_,rfl,qj,rfl,_,_,rfl,_,_,rfl,_,_,rfl,_,_,rfl,_,_,rfl,rfl,?_⟩⟩
  refine⟨_,rfl,.ref g,J.gx,J.gy,rfl,rg,O.gate,fun H1 s1=>⟨_,rfl,ifF rfl ?_⟩⟩
  refine⟨_,rfl,J.hd,1,4,rfl,O.hd0,O.hd1,_,rfl,ifF rfl ?_⟩
  refine⟨_,rfl,fs,fv,J.fs,rfl,s1.sqT qf,rf.same s1,O.fl,O.fa,fun H2 s2=>⟨_,rfl,ifF rfl ?_⟩⟩
  have s2:=s1.trans s2;refine⟨_,rfl,_,rfl,ps,fs,a2,fv,J.ps,J.fs,rfl,s2.sqT qp,rp.same s2,s2.sqT qf,rf.same s2,xa O.fl (by decide),O.pl,O.pa,O.pd,fun H3 s3=>⟨_,rfl,ifF rfl ?_⟩⟩
  have s3:=s2.trans s3;refine⟨_,rfl,_,rfl,ps,_,rfl,.inr (s3.sqT qp),as,J.ps.length,J.as,(by rw[lp];rfl),ra.same s3,O.al,O.ab,fun H4 s4=>⟨_,rfl,ifF rfl ?_⟩⟩
  have s4:=s3.trans s4;obtain⟨a',av,ea,qa,a0⟩:=ra.same s4;cases ea;have la:=a0.len;rw[zv] at la;refine⟨_,rfl,ps,_,rfl,.inr (s4.sqT qp),_,rfl,as,av,rfl,.inr qa,fun l hl=>?_⟩
  have s5:=s4.trans (zd (o:=.lst av) hl);refine⟨J.ps.length,l,av,J.as.map zjo,(by rw[lp];rfl),u4 ze,?_,by rw[zv];exact xa O.al (by decide),O.pl,fun p hp=>?_,O.fr,fun H6 s6=>?_⟩
  ·rw[j9]
   exact a0.same (zd hl)
  ·obtain⟨q,hq,rfl⟩:=qr.mp hp
   obtain⟨h1,h2,_⟩:=O.ab q hq;exact⟨⟨zaW _,Int.ofNat_lt.mpr h1⟩,zaW _,Int.ofNat_lt.mpr h2⟩
  ·exact⟨rfl,k _ (s5.trans s6)⟩
def zkN(c:List Str)(f:wJ):Bool:=decide ((c.count f.k:Int)<=f.m)
inductive X2(K:W.Frag)(l:List V)(H:Hp)(Q:VK):Prop
 | mk (g:Addr) (J:Job) (_:l=[.ref g]) (_:Rep K H (vR J) (.ref g)) (_:J.ps.length<=60) (_:J.fs.length<=100) (_:∀c,Same H c->Q (.bl (zah J)) c):X2 K l H Q
def zbz(K:W.Frag):Sp:=fun c H Q _=>X2 K c H Q
theorem zbT:zE ["job","counts"] ["job"] (zy (topL 32)):=u0
theorem zg9(J:Job):(J.fs.map (zkN (zJ J))).all id=zah J:=by rw[List.all_map];rfl
theorem ze7{f:Addr}{fd:FuncData}(F:Fun K "is_stocked" "is_stocked" (topL 32) f fd)(B:Blt I)(c:Dfn P w K I G "wanted_of" 1 ["job"] (VJ K)):qA P w K I G CX0 2 f fd ["job"] (zbz K):=by
 have nd:=zbT.nd;refine F.ok zbT 0#d (fun a3 A a0 s H vs Q E T h=>?_)
 ·obtain⟨Y,J,rfl,_⟩:=h
  rfl
 ·obtain⟨Y,J,rfl,rj,pl,fl,k⟩:=h
  have U:=yn T;have a2:=bG100000;refine⟨_,(zg (zF (i:=1) nd rfl 0#m (qO (zaJ T.hd) rfl B.dict Vy (za (zi c T.m rfl 0#t) zb)))
   (zp (zA (zw (j4 rfl) rfl B.all boot_all (za (ziQ ["counts"] [1] rfl rfl (by kernel_rfl) (xm (zS qF (pv 0) zj 0#c)) 0#k (fun _ _ _ _=>(qN zh4 (pv 2) (yh U (pv 3) (pv 0) zj ⟨rfl,rfl,rfl,rfl⟩) (z7 _)))) zb))))),?_⟩
  refine⟨_,rfl,Y,J,rfl,rj,pl,fun l t L H1 hl s1 L1 up mm mn ml wt=>⟨l,L,dkC (zJ J) t,rfl,L1,wt.prs,fun d hd=>?_⟩⟩
  have em:jM [] (dkC (zJ J) t)=dkC (zJ J) t:=Vo (zJ J) t [] mn;rw[em];have s2:=s1.trans (zd (o:=.dK (dkC (zJ J) t)) hd);have O:upd H1 d (.dK (dkC (zJ J) t)) d=some (.dK (dkC (zJ J) t)):=ze;generalize upd H1 d (.dK (dkC (zJ J) t))=H2 at s2 O;obtain⟨g,fs,ps,as,fv,a4,qj,_,qf,rf,qp,rp,_⟩:=xx (rj.same s2);have lf:=rf.len;rw[zv] at lf;refine⟨_,rfl,Y,_,_,_,rfl,rfl,qj,rfl,fs,rfl,⟨_,qf⟩,vQ (K:=K) (a:=fs) (xs:=fv) (fun i L N=>L=((J.fs.take i).map (zkN (zJ J))).map V.bl/\Same H2 N) ⟨rfl,u6 _⟩ (fun i L N ⟨_,u⟩=>u.sqT qf) ?_ ?_⟩
  ·rintro i x L N hx ⟨rfl,u⟩
   obtain⟨dd,e1,r1⟩:=(rf.same u).get hx;rw[zY] at e1;obtain⟨fe,M,rfl⟩:=qH.mp e1;have hi:=(zU.mp M).1;obtain⟨fa,fc,rfl,a1,_⟩:=Qg r1;refine⟨fa,_,rfl,a1,rfl,_,_,rfl,_,_,rfl,_,_,rfl,rfl,rfl,?_⟩
   refine⟨_,rfl,_,rfl,d,rfl,.inl ⟨_,.inl (u _ _ O)⟩,_,rfl,_,DGet.k (k:=Sum.inr fe.k) (u _ _ O),?_⟩
   rw[zcv fun z=>(mm _).mpr z]
   refine⟨_,_,rfl,rfl,?_,?_,u⟩
   ·rw[zv,zv,jv];omega
   ·rw[jc M,zQ,zQ]
    rfl
  ·rintro L N ⟨rfl,u⟩
   rw[lf,jX];refine⟨by rw[zv,zv];omega,fun D hD=>⟨D,_,rfl,u4 ze,?_⟩⟩
   rw[zg9];exact k _ (s2.trans (u.trans (zd hD)))
theorem zax{n:Nat}{f:Nat->Nat}{l:List Nat}(o:l.Nodup)(g:∀x∈l,x<n)(c:∀x,x<n->∀y,y<n->f x=f y->x=y):(l.map f).Nodup:=by
 rw[List.Nodup,wO];exact o.imp_of_mem fun {x y} hx hy ne e=>ne (c x (g x hx) y (g y hy) e)
theorem QN(c:List (Int×Int))(d q:Int×Int):c.count q=((List.range c.length).filter fun j=>decide (c.getD j d=q)).length:=by
 have e:c=(List.range c.length).map fun j=>c.getD j d:=Zu (by rw[zv,zV]) fun i g s=>by
  rw[Xo,WJ,qI,qg g];rfl
 have h:∀l:List Nat,(l.map fun j=>c.getD j d).count q=(l.filter fun j=>decide (c.getD j d=q)).length:=fun l=>by
  induction l with
  | nil=>rfl
  | cons x l o=>
   rw[jV,List.count_cons,o,Xr];by_cases z:c.getD x d=q
   ·rw[zu (by rw[z];exact beq_self_eq_true q),zu (zT z)];rfl
   ·rw[zk fun w=>z (eq_of_beq w),zk fun w=>z (jy w)];rfl
 have:=h (List.range c.length);rw[<- e] at this;exact this
theorem Y1{n:Nat}{f:Nat->Nat}{c:List (Int×Int)}{d:Int×Int}(o:∀x,x<n->∀y,y<n->f x=f y->x=y)(rng:∀x,x<n->f x<c.length)(q:Int×Int):((List.range n).map fun x=>c.getD (f x) d).count q<=c.count q:=by
 rw[QN c d q,QN _ d q,zv,zV];have t:(((List.range n).filter fun j=>decide (((List.range n).map fun x=>c.getD (f x) d).getD j d=q)).map f).Nodup:=zax (Zt.sublist List.filter_sublist) (fun x hx=>qt.mp (yy.mp hx).1) o
 have:=Qc t (m:=(List.range c.length).filter fun j=>decide (c.getD j d=q)) fun x hx=>by
  obtain⟨j,s,rfl⟩:=qr.mp hx;obtain⟨g,l⟩:=yy.mp s;have g:=qt.mp g;have l:=jy l;rw[qI,zY,vH g] at l;exact yy.mpr ⟨qt.mpr (rng j g),zT l⟩
 rwa[zv] at this
theorem Hold.at_{c:List (Nat×Nat)}{n:Nat}{f g:Nat->Nat}(a:Hold c n f)(b:Hold c n g):∀x,x<n->f x=g x:=fun x hx=>((b.2 (f x) x).mp ((a.2 (f x) x).mpr ⟨hx,rfl⟩)).2.symm
theorem zaz{J:Job}{g:List Nat}(o:JobOk J g){c:List Str}(B:c.Nodup)(A:∀j,j∈c↔j∈zJ J):c.length<=12:=by
 obtain⟨u,t,s⟩:=o.kc;refine xa (V9 B (ys:=u) fun x hx=>?_) t
 obtain⟨p,l,rfl⟩:=qr.mp ((A x).mp hx);exact s p l
theorem Vl{c:List Str}(h:c.Pairwise fun a b=>ltS a b=true):c.Nodup:=h.imp fun {a b} h e=>by
 subst e;rw[yS] at h;cases h
theorem zeT{J:Job}{B:List Nat}(t:JobOk J B){c:List Str}{o:List 0#o}{f:Nat->Nat}(O:c.Nodup)(A:∀j,j∈c↔j∈zJ J)(hb:∀q∈o,inB q)(rng:∀x,x<c.length->f x<o.length):zhr (VY J c o f):=by
 have N:=zaz t O A;have r:=t.rt;have T:=t.pl;refine⟨r.gate,r.hd0,r.hd1,?_,fun g hg=>?_,r.pl,fun p s=>⟨(r.pa p s).1,?_⟩,r.pd,r.al,r.ab,r.fr⟩
 ·show((List.range c.length).map (Q5 J c o f)).length<=20
  rw[zv,zV];omega
 ·obtain⟨x,hx,rfl⟩:=qr.mp (show g∈(List.range c.length).map (Q5 J c o f) from hg)
  have hx:=qt.mp hx;have e1:c.getD x default∈c:=by rw[qI,qg hx];exact xB hx
  have e2:o.getD (f x) (0,0)∈o:=by rw[qI,qg (rng x hx)];exact xB _
  obtain⟨p,s,u⟩:=qr.mp ((A _).mp e1);obtain⟨E,H,L,M⟩:=hb _ e2;have D:=(t.pa p s).1;have u:p.k=c.getD x default:=u;rw[u] at D;have Q:(zJ J).count (c.getD x default)<=J.ps.length:=by
   have:=za4 (a:=c.getD x default) (l:=zJ J);rwa[show(zJ J).length=J.ps.length from zv _] at this
  exact⟨D,⟨E,H,L,M⟩,zaW _,by show((zJ J).count (c.getD x default):Int)<=400;omega⟩
 ·have:p.k∈c:=(A _).mpr (qr.mpr ⟨p,s,rfl⟩)
  obtain⟨x,hx,e⟩:=za7.mp this;refine⟨Q5 J c o f x,qr.mpr ⟨x,qt.mpr hx,rfl⟩,?_⟩
  show c.getD x default=p.k;rw[qI,qg hx];exact e
theorem ziF(J:Job)(c:List Str)(l:List 0#o)(f:Nat->Nat):zah (VY J c l f)=true:=vF.mpr fun g hg=>by
 obtain⟨x,_,rfl⟩:=qr.mp (show g∈(List.range c.length).map (Q5 J c l f) from hg)
 exact zT (xT _)
def zfG(J:Job):Dat:=.tup [.tup [.int J.gx,.int J.gy],.int J.hd,.tup (J.ps.map jR),wI J.as]
theorem YV{H c:Hp}{g l t p:Addr}{hd:Int}{J:Job}{o:List V}(h:c p=some (.tup [.ref g,.int J.hd,.ref l,.ref t]))(s:Same H c)(B:Rep K H (.tup [.int J.gx,.int J.gy]) (.ref g))(u:SqT K H l o)(D:Reps K H (J.ps.map jR) o)(A:Rep K H (wI J.as) (.ref t)):Rep K c (zfG J) (.ref p):=
 ⟨p,_,rfl,u5 h,_,_,rfl,B.same s,_,_,rfl,rfl,_,_,rfl,⟨l,o,rfl,s.sqT u,D.same s⟩,_,_,rfl,A.same s,rfl⟩
theorem zfF{J:Job}{l:List Nat}(o:JobOk J l):Dat.ok 4 (zfG J):=by
 have u:=o.pl;have t:=o.al;have c:∀{n:Nat} {a b:Dat},Dat.ok n a->Dat.ok n b->Dat.ok (n+1) (.tup [a,b]):=fun s hb=>⟨show 2<=1000000 by decide,fun d hd=>by
  rcases zC.mp hd with rfl | hd
  ·exact s
  ·rw[zW.mp hd];exact hb⟩
 refine⟨show 4<=1000000 by decide,fun d hd=>?_⟩
 rcases zC.mp hd with rfl | hd
 ·exact c trivial trivial
 rcases zC.mp hd with rfl | hd
 ·trivial
 rcases zC.mp hd with rfl | hd
 ·refine⟨by rw[zv];omega,fun e g=>?_⟩
  obtain⟨p,_,rfl⟩:=qr.mp g;exact c trivial (c trivial trivial)
 ·rw[zW.mp hd]
  refine⟨by rw[zv];omega,fun e g=>?_⟩
  obtain⟨p,_,rfl⟩:=qr.mp g;exact c trivial trivial
theorem Vn{fs:List wJ}(h:fs.length<=100):Dat.ok 4 (.tup (fs.map jS)):=by
 refine⟨by rw[zv];omega,fun d hd=>?_⟩
 obtain⟨p,_,rfl⟩:=qr.mp hd;refine⟨show 3<=1000000 by decide,fun g hg=>?_⟩
 rcases zC.mp hg with rfl | hg
 ·trivial
 rcases zC.mp hg with rfl | hg
 ·refine⟨show 2<=1000000 by decide,fun x hx=>?_⟩
  rcases zC.mp hx with rfl | hx
  ·trivial
  ·rw[zW.mp hx];trivial
 ·rw[zW.mp hg];trivial
def pqs(c:List (Int×Int))(f:Nat->Nat)(n:Nat):List 0#o:=(List.range n).map fun x=>c.getD (f x) (0,0)
def pvs(c:List V)(f:Nat->Nat)(n:Nat):List V:=(List.range n).map fun x=>c.getD (f x) .non
theorem zb9{H:Hp}{g:List (Int×Int)}{l:List V}{f:Nat->Nat}(s:Reps K H (g.map plD) l):∀{n:Nat},(∀x,x<n->f x<g.length)->Reps K H ((pqs g f n).map plD) (pvs l f n)
 | 0,_=>rfl
 | n+1,h=>by
  have t:=s.len;rw[zv] at t;have u:=h n (xg n);have hv:l[f n]? =some (l.getD (f n) .non):=by rw[qI,qg (by omega)];rfl
  have hq:g[f n]? =some (g.getD (f n) (0,0)):=by rw[qI,qg u];rfl
  obtain⟨A,c,o⟩:=s.get hv;rw[zY,hq] at c;cases c;unfold pqs pvs;rw[vD,zQ,zQ,zQ];exact(zb9 s fun x hx=>h x (xt hx)).snoc o
theorem zeR{H:Hp}:∀{g:List (Int×Int)} {c:List V},Reps K H (g.map plD) c->zd2 K H c g:=fun {g c} r=>by
 have l:=r.len;rw[zv] at l;refine⟨l,fun i q h=>?_⟩
 have t:=(zU.mp h).1;obtain⟨d,e1,s⟩:=r.get (i:=i) (x:=c[i]'(by omega)) (qg _)
 rw[zY,h] at e1;cases e1;obtain⟨a,e,o⟩:=vz s;exact⟨a,by rw[qg (by omega),e],o⟩
inductive zej(K:W.Frag)(A:List V)(H:Hp)(Q:VK):Prop
 | mk (s t:Addr) (J:Job) (l:List Nat) (c:List 0#o) (u:List V) (_:A=[.ref s,.ref t]) (_:Rep K H (vR J) (.ref s)) (_:JobOk J l) (_:H t=some (.lst u)) (_:Reps K H (c.map plD) u) (_:(∀q∈c,inB q)) (_:c.length<=12) (_:(∀g:List Str,g.Nodup->(∀j,j∈g↔j∈zJ J)->g.length<=c.length)) (_:∀o,Same H o->Q (.bl true) o):zej K A H Q
def zjL(K:W.Frag):Sp:=fun c H Q _=>zej K c H Q
theorem zjX:zE ["_law_job_here","_law_slots_here","_law_kinds_here","_law_found","_law_counts","_law_places_here","_law_costs","_law_total"] ["_law_job_here","_law_slots_here"] (zy (topL 62)):=u0
theorem zko{f:Addr}{fd:FuncData}(F:Fun K "_law_placed_right" "_law_placed_right" (topL 62) f fd)(B:Blt I)(ai:Dfn P w K I G "_law_kinds" 1 ["_law_job_here"] (VM K))(O:Dfn P w K I G "placed_feeders" 5 ["job","slots"] (zei K))(ae:Dfn P w K I G "_law_same" 5 ["_law_found","_law_due"] (spS K 5))(a9:Dfn P w K I G "slot_costs" 4 ["job","slots"] (VN K))(U:Dfn P w K I G "matched_slots" 4 ["costs"] zis)(ac:Dfn P w K I G "_law_cost" 2 ["_law_job_here","_law_kind","_law_slot"] (VO K))(a7:Dfn P w K I G "_law_least_sum" 1 ["_law_costs"] zjM)(aj:Dfn P w K I G "is_job" 6 ["thing"] (zhF K))(a8:Dfn P w K I G "is_stocked" 2 ["job"] (zbz K)):qA P w K I G CX0 7 f fd ["_law_job_here","_law_slots_here"] (zjL K):=by
 have nd:=zjX.nd;refine F.ok zjX 0#d (fun cw A ca s H vs Q E hr h=>?_)
 ·obtain⟨jp,sl,J,ao,N,sv,rfl,_⟩:=h
  rfl
 ·obtain⟨jp,sl,J,ao,N,sv,rfl,rj,jo,bj,rs,hb,ql,mq,k⟩:=h
  have sz:sizeLine=16777216:=sizeLine_eq;have bo:=yn hr;refine⟨_,(zg (JJ (i:=2) (j:=3) rfl nd rfl rfl (by decide) rfl rfl (za (zi ai hr.m rfl 0#t) (za (zi O hr.m rfl (za (pv 0) 0#s)) zb)) (by rfl))
   (zg (zeQ ["_law_job_here"] [0] rfl rfl (by kernel_rfl) (jL (pv 2)) 0#k (fun _ _ _ _=>(zw (vS (K:=K) rfl) rfl B.len boot_len (za (jQ ["_law_kind"] [0] rfl rfl (by kernel_rfl) (zgD (K:=K) rfl (zS (vC (K:=K) rfl) (pv 1) zj 0#c)) (fun _ _ _ _=>(JL (qC xQ (zS (vC (K:=K) rfl) (pv 0) zj 0#c) (pv 1) (z7 _)))) (fun _ _ _ _=>(pv 0))) zb))) (zB (i:=4) nd rfl 0#a))
   (zg (je (PW.pt (yf (jh (qL (zi ae hr.m rfl (za (zK V7 (xP VQ (pv 3) wx (xL zj)) (xP VQ (pv 3) (xL zj) wx)) (za (zK V7 (xP VQ (pv 0) wx (xL zj)) (xP VQ (pv 0) (xL zj) wx)) zb))))) (va (jh (qL (zw qY rfl B.isinstance boot_isinstance (za (zS qF (pv 3) zj 0#c) (za (qR (v:=.ty "tuple") rfl B.tuple qZ rfl) zb))))))))
   (zp (zA j6))
   qe)
   (zg (zF (i:=5) nd rfl 0#m (jQ ["_law_slots_here"] [1] rfl rfl (by kernel_rfl) (jL (zS qF (zi U hr.m rfl (za (zi a9 hr.m rfl (za (pv 0) 0#s)) zb)) zj 0#c)) 0#k (fun _ _ _ _=>(zS (wb (K:=K) rfl) (pv 1) (pv 0) 0#c))))
   (zg (je (jh (qL (zi ae hr.m rfl (za (zS qF (pv 3) zj 0#c) (za (qO xf rfl B.tuple qZ (za (jQ [] [] rfl rfl (by kernel_rfl) (zgC rfl B.zip (za (pv 2) (za (pv 5) (za (pv 4) zb)))) 0#k (fun _ _ _ _=>(pv 0))) zb)) zb)))))
   (zp (zA j6))
   qe)
   (zg (je (jh (qL (zw (j4 rfl) rfl B.all boot_all (za (jQ ["_law_places_here","_law_slots_here"] [5,1] rfl rfl (by kernel_rfl) (jL (pv 5)) 0#k (fun _ _ _ _=>(qN Vg (ze0 (K:=K) rfl wS zbb PySem.F.type_list_count (Vk (K:=K) rfl bo) (pv 1) 0#t) (ze0 (K:=K) rfl wS zbb PySem.F.type_list_count (Vk (K:=K) rfl bo) (pv 2) 0#t) (z7 _)))) zb))))
   (zp (zA j6))
   qe)
   (zg (zeQ ["_law_job_here","_law_slots_here"] [0,1] rfl rfl (by kernel_rfl) (jL (pv 2)) 0#k (fun _ _ _ _=>(jQ ["_law_job_here","_law_kind"] [1,0] rfl rfl (by kernel_rfl) (Yz (K:=K) rfl (pv 2)) 0#k (fun _ _ _ _=>(zi ac hr.m rfl (za (pv 1) (za (pv 2) 0#t)))))) (zB (i:=6) nd rfl 0#a))
   (zg (zF (i:=7) nd rfl 0#a (zw (yW rfl) rfl B.sum boot_sum (za (vM ["_law_job_here"] [0] rfl rfl (by kernel_rfl) (V0 rfl B.zip (za (pv 2) (za (pv 5) zb))) 0#k (fun _ _ _ _=>(zi ac hr.m rfl (za (pv 2) (za (pv 0) 0#s))))) zb)))
   (zp (zA (xn (qN xQ (pv 7) (zi a7 hr.m rfl (za (pv 6) zb)) (z7 _)) (xn (qN ze4 (zi aj hr.m rfl (za (pv 3) zb)) j6 (z7 _)) (xV (qN ze4 (zi a8 hr.m rfl (za (pv 3) zb)) j6 (z7 _))))))))))))))),?_⟩
  refine⟨_,rfl,jp,J,rfl,rj,jo.pl,fun kl ms H1 d0 s1 K1 pw mm ml=>?_⟩
  have b2:=Vl pw;have an:=mq ms b2 mm;refine⟨_,rfl,_,rfl,jp,sl,J,ao,ms,N,sv,rfl,rj.same s1,jo,s1 _ _ bj,rs.same s1,hb,by omega,pw,mm,an,fun pt hs f u v H2 s2 ah be a6 b5=>?_⟩
  have cy:=zaz jo b2 mm;have K2:=s2 _ _ K1;have ar:=s1.trans s2;have bw:=rj.same ar;have bm:=ar _ _ bj;have bz:=rs.same ar;clear K1 s2;refine⟨_,_,rfl,?_⟩
  obtain⟨g,fs,ps,as,fv,ce,qj,rg,qf,rf,qp,rp,ra⟩:=xx bw;have lp:=rp.len;rw[zv] at lp;have lk:(zJ J).length=J.ps.length:=zv _;have pl:=jo.pl;refine⟨_,rfl,kl,rfl,⟨_,u4 K2⟩,xw (K:=K) (a:=kl) (xs:=ms.map V.str) (fun i M H3=>M=((ms.take i).map fun kd=>((zJ J).count kd:Int)).map V.int/\Same H2 H3) ⟨rfl,u6 _⟩ (fun i M H3 ⟨_,s3⟩=>u4 (s3 _ _ K2)) ?_ ?_⟩
  ·rintro i x M H3 hx ⟨rfl,s3⟩
   rw[zY] at hx;obtain⟨kd,ak,rfl⟩:=qH.mp hx;have hi:=(zU.mp ak).1;have cg:=s3.sqT qj;have bu:=s3.sqT qp;refine⟨rfl,_,rfl,jp,_,_,_,rfl,rfl,cg,rfl,ps,rfl,⟨_,bu⟩,vQ (K:=K) (a:=ps) (xs:=ce) (fun j M H4=>M.length=((zJ J).take j).count kd/\Same H3 H4) ⟨rfl,u6 _⟩ (fun j M H4 ⟨_,s4⟩=>s4.sqT bu) ?_ ?_⟩
   ·rintro j y M H4 hy ⟨zl,s4⟩
    obtain⟨dd,e1,r1⟩:=(rp.same (s3.trans s4)).get hy;rw[zY] at e1;obtain⟨pa,bd,rfl⟩:=qH.mp e1;have hj:=(zU.mp bd).1;obtain⟨a,c,rfl,qa⟩:=Qb r1;have ek:(zJ J)[j]? =some pa.k:=by unfold zJ;rw[zY,bd];rfl
    have cu:M.length<=j:=by rw[zl];exact xa za4 (by rw[jv];omega)
    refine⟨rfl,_,rfl,a,_,_,_,rfl,rfl,qa,rfl,_,rfl,rfl,_,rfl,?_⟩
    rw[jc ek,zaR,List.count_singleton];refine ym (fun z=>?_) (fun z=>?_)
    ·have e:pa.k=kd:=V.str.inj (jy z)
     refine⟨_,rfl,by omega,?_,s4⟩
     rw[qz,zl,zu (by rw[e];exact beq_self_eq_true kd)];rfl
    ·refine⟨?_,s4⟩
     rw[zl,zk fun w=>z (zT (by rw[eq_of_beq w])),Nat.add_zero]
   ·rintro M H4 ⟨zl,s4⟩
    rw[lp,<- lk,jX] at zl;have cu:M.length<=60:=by rw[zl];exact xa za4 (by rw[lk];exact pl)
    refine⟨by omega,fun D hD=>⟨D,M,rfl,.inl (u4 ze),?_,?_,s3.trans (s4.trans (zd hD))⟩⟩
    ·rw[zv,zv,jv];omega
    ·rw[jc ak,zQ,zQ,zl];rfl
  rintro M H3 ⟨rfl,s3⟩;rw[zv (as:=ms),jX];refine⟨by rw[zv,zv];omega,fun nl c8=>?_⟩
  have au:=s3.trans (zd (o:=.lst ((ms.map fun kd=>((zJ J).count kd:Int)).map V.int)) c8)
  have N4:upd H3 nl (.lst ((ms.map fun kd=>((zJ J).count kd:Int)).map V.int)) nl=some (.lst ((ms.map fun kd=>((zJ J).count kd:Int)).map V.int)):=ze
  generalize upd H3 nl (.lst ((ms.map fun kd=>((zJ J).count kd:Int)).map V.int))=H4 at au N4
  obtain⟨g',aa,a4,Y,c6,d2,pj,cm,br,bv,ch,cp,ci⟩:=xx (b5.same au);have pj:SqT K H4 pt [.ref g',.int J.hd,.ref aa,.ref a4,.ref Y]:=pj;have ax:¬(HT.sIx 5 0 none=0/\HT.sIx 5 5 (some 2)=5):=by decide
  have ay:¬(HT.sIx 5 0 (some 3)=0/\HT.sIx 5 5 none=5):=by decide
  refine⟨_,rfl,2,rfl,pt,_,rfl,pj,ax,fun u2 al=>?_⟩
  have U2:upd H4 u2 (.tup (jF [V.ref g',.int J.hd,.ref aa,.ref a4,.ref Y] none (some 2))) u2=some (.tup [.ref g',.int J.hd]):=ze;have t1:=zd (H:=H4) (o:=.tup (jF [V.ref g',.int J.hd,.ref aa,.ref a4,.ref Y] none (some 2))) al;generalize upd H4 u2 (.tup (jF [V.ref g',.int J.hd,.ref aa,.ref a4,.ref Y] none (some 2)))=H5 at *
  refine⟨_,rfl,3,rfl,pt,_,rfl,t1.sqT pj,ay,fun u3 am=>?_⟩
  have U3:upd H5 u3 (.tup (jF [V.ref g',.int J.hd,.ref aa,.ref a4,.ref Y] (some 3) none)) u3=some (.tup [.ref a4,.ref Y]):=ze;have t2:=zd (H:=H5) (o:=.tup (jF [V.ref g',.int J.hd,.ref aa,.ref a4,.ref Y] (some 3) none)) am;generalize upd H5 u3 (.tup (jF [V.ref g',.int J.hd,.ref aa,.ref a4,.ref Y] (some 3) none))=H6 at *
  refine⟨u2,u3,_,_,rfl,rfl,u5 (t2 _ _ U2),u5 U3,(fun z=>nomatch z),(by show 2+2<=_;omega),(fun z=>nomatch z),fun _ pa bf=>?_⟩
  have t3:=t2.trans (zd (o:=.tup ([V.ref g',.int J.hd]++[.ref a4,.ref Y])) bf);have PA:upd H6 pa (.tup ([V.ref g',.int J.hd]++[.ref a4,.ref Y])) pa=some (.tup [.ref g',.int J.hd,.ref a4,.ref Y]):=ze;generalize upd H6 pa (.tup ([V.ref g',.int J.hd]++[.ref a4,.ref Y]))=H7 at *
  have aw:=t1.trans t3;have b8:=au.trans aw;clear t1 t2 t3 U2 U3 al am bf;refine⟨_,rfl,2,rfl,jp,_,rfl,b8.sqT qj,ax,fun u2 al=>?_⟩
  have U2:upd H7 u2 (.tup (jF [V.ref g,.int J.hd,.ref fs,.ref ps,.ref as] none (some 2))) u2=some (.tup [.ref g,.int J.hd]):=ze;have t1:=zd (H:=H7) (o:=.tup (jF [V.ref g,.int J.hd,.ref fs,.ref ps,.ref as] none (some 2))) al;generalize upd H7 u2 (.tup (jF [V.ref g,.int J.hd,.ref fs,.ref ps,.ref as] none (some 2)))=H8 at *
  refine⟨_,rfl,3,rfl,jp,_,rfl,(b8.trans t1).sqT qj,ay,fun u3 am=>?_⟩
  have U3:upd H8 u3 (.tup (jF [V.ref g,.int J.hd,.ref fs,.ref ps,.ref as] (some 3) none)) u3=some (.tup [.ref ps,.ref as]):=ze;have t2:=zd (H:=H8) (o:=.tup (jF [V.ref g,.int J.hd,.ref fs,.ref ps,.ref as] (some 3) none)) am;generalize upd H8 u3 (.tup (jF [V.ref g,.int J.hd,.ref fs,.ref ps,.ref as] (some 3) none))=H9 at *
  refine⟨u2,u3,_,_,rfl,rfl,u5 (t2 _ _ U2),u5 U3,(fun z=>nomatch z),(by show 2+2<=_;omega),(fun z=>nomatch z),fun _ pb bg=>?_⟩
  have t3:=t1.trans (t2.trans (zd (o:=.tup ([V.ref g,.int J.hd]++[.ref ps,.ref as])) bg));have PB:upd H9 pb (.tup ([V.ref g,.int J.hd]++[.ref ps,.ref as])) pb=some (.tup [.ref g,.int J.hd,.ref ps,.ref as]):=ze;generalize upd H9 pb (.tup ([V.ref g,.int J.hd]++[.ref ps,.ref as]))=HA at *
  refine⟨zfG J,.ref pa,.ref pb,rfl,YV (hd:=J.hd) (t3 _ _ PA) (aw.trans t3) cm ch cp ci,YV (hd:=J.hd) PB (b8.trans t3) rg qp rp ra,zfF jo,fun HB t4=>⟨_,rfl,ifF rfl ?_⟩⟩
  have ag:=(aw.trans t3).trans t4;have av:=au.trans ag;have N5:=ag _ _ N4;clear t1 t2 t3 U2 U3 al am bg PA PB aw;have bp:=ag.sqT pj;have bs:=ag.sqT br;have cj:=bv.same ag;clear pj br bv;refine⟨_,rfl,pt,_,_,_,rfl,rfl,bp,rfl,_, "tuple", "tuple",rfl,.inr ⟨rfl,_,bs⟩,(by decide),_,rfl,ifF (by decide) ?_⟩
  have b4:=bw.same av;have af:=av _ _ bm;have b6:=bz.same av;have c3:=bz.len;rw[zv] at c3;have cb:∀x,x<ms.length->∀j,j<N.length->0<=xz J ms N x j/\xz J ms N x j<=1000000:=fun x hx j hj=>by
   have:=Y3 jo (hb _ (xB hj)) (ms.getD x default);unfold xz;rw[qI (l:=N),qg hj];show 0<=wN J (ms.getD x default) N[j]/\wN J (ms.getD x default) N[j]<=1000000;omega
  refine⟨_,rfl,_,rfl,jp,sl,J,ao,N,sv,rfl,b4,jo,af,b6,hb,by omega,fun cl t cz HC c7 sC CC cs c9 _ R=>?_⟩
  have em:t=ms:=VH cs pw fun j=>(c9 j).trans (mm j).symm
  subst em;refine⟨cl,xz J t N,t.length,N.length,rfl,VS R CC,an,by omega,cb,fun d1 f' u' v' q L HD c4 b1 cv sD hq hL mt=>?_⟩
  have eh:=c4.uniq ah;subst eh;have ff:=b1.at_ be;have eL:((List.range t.length).map fun(x:Nat)=>V.int (f' x:Int))=(List.range t.length).map fun(x:Nat)=>V.int (f x:Int):=Zx fun x hx=>by rw[ff x (qt.mp hx)]
  have mL:HD L=some (.lst ((List.range t.length).map fun(x:Nat)=>V.int (f x:Int))):=by rw[<- eL];exact mt.2
  refine⟨q,_,_,_,rfl,rfl,u5 mt.1,rfl,L,rfl,⟨_,u4 mL⟩,xw (K:=K) (a:=L) (xs:=(List.range t.length).map fun(x:Nat)=>V.int (f x:Int)) (fun i M HE=>M=pvs sv f i/\Same HD HE) ⟨rfl,u6 _⟩ (fun i M HE ⟨_,sE⟩=>u4 (sE _ _ mL)) ?_ ?_⟩
  ·rintro i x M HE hx ⟨rfl,sE⟩
   have hi:i<t.length:=by have:=(zU.mp hx).1;rw[zv,zV] at this;exact this
   rw[zY,vH hi] at hx;cases hx;have fr:=a6.rng i hi;have hv:sv[f i]? =some (sv.getD (f i) .non):=by rw[qI,qg (by omega)];rfl
   refine⟨rfl,_,rfl,_,rfl,sl,_,_,_,rfl,rfl,u4 ((sC.trans (sD.trans sE)) _ _ af),jA hv,?_,?_,sE⟩
   ·unfold pvs;rw[zv,zV];omega
   ·unfold pvs;rw[vD,zQ];rfl
  rintro M HE ⟨rfl,sE⟩;rw[zv,zV];have b3:(pvs sv f t.length).length=t.length:=by unfold pvs;rw[zv,zV]
  refine⟨by rw[b3];omega,fun pp bh=>?_⟩
  have sF:=sC.trans (sD.trans (sE.trans (zd (o:=.lst (pvs sv f t.length)) bh)));have PF:upd HE pp (.lst (pvs sv f t.length)) pp=some (.lst (pvs sv f t.length)):=ze;generalize upd HE pp (.lst (pvs sv f t.length))=HF at sF PF;have b9:=av.trans sF;have KF:=b9 _ _ K2;have NF:=sF _ _ N5;have az:=sF _ _ af;have b7:=b6.same sF;have cn:=b4.same sF;have aq:=zb9 b7 a6.rng;have cd:=sF.sqT bp;have cf:=sF.sqT bs;have ck:=cj.same sF;clear mt mL eL sC sD sE R CC c7 bh hL hq N4 N5 K2 af b6 b4 sF t4 ag;refine⟨_,rfl,pt,_,_,_,rfl,rfl,cd,rfl,?_⟩
  have lm:(t.map V.str).length=t.length:=zv ..;refine⟨_,rfl,_,rfl,_,rfl,kl,pp,nl,rfl,⟨_,u4 KF⟩,⟨_,u4 PF⟩,⟨_,u4 NF⟩,zg1 (K:=K) (a1:=kl) (a2:=pp) (a3:=nl) (xs:=t.map V.str) (ys:=pvs sv f t.length) (us:=(t.map fun kd=>((zJ J).count kd:Int)).map V.int) (fun i M HG=>Reps K HG (((List.range i).map (Q5 J t N f)).map jS) M/\Same HF HG) ⟨rfl,u6 _⟩ (by rw[b3,lm]) (by rw[zv,zv,lm]) (fun i M HG ⟨_,sG⟩=>⟨u4 (sG _ _ KF),u4 (sG _ _ PF),u4 (sG _ _ NF)⟩) ?_ ?_⟩
  ·rintro i x y z M HG T hx hy hz ⟨rz,sG⟩ hT
   have hi:i<t.length:=by have:=(zU.mp hx).1;rwa[lm] at this
   have ei:t[i]? =some (t.getD i default):=by rw[qI,qg hi];rfl
   rw[zY,ei] at hx;cases hx;rw[zY,zY,ei] at hz;cases hz;have zl:=rz.len;rw[zv,zv,zV] at zl;have sT:=sG.trans (zd (o:=.tup [.str (t.getD i default),y,.int ((zJ J).count (t.getD i default):Int)]) hT);obtain⟨dq,a5,ap⟩:=(aq.same sT).get hy;unfold pqs at a5;rw[zY,zY,vH hi] at a5;cases a5;refine⟨rfl,_,rfl,by omega,?_,sT⟩
   rw[vD,zQ,zQ];exact ub (K:=K) (d:=jS (Q5 J t N f i)) (v:=.ref T) ⟨T,_,rfl,u5 ze,_,_,rfl,rfl,_,_,rfl,ap,_,_,rfl,rfl,rfl⟩ (rz.same (zd hT))
  rintro M HG ⟨rz,sG⟩;rw[lm] at rz;have zl:=rz.len;rw[zv,zv,zV] at zl;refine⟨by omega,fun D hD=>⟨D,M,rfl,.inl ⟨u4 ze,fun tp bn=>?_⟩⟩⟩
  have sH:=sG.trans ((zd (o:=.lst M) hD).trans (zd (o:=.tup M) bn));have c0:=rz.same ((zd (o:=.lst M) hD).trans (zd (o:=.tup M) bn));have TH:upd (upd HG D (.lst M)) tp (.tup M) tp=some (.tup M):=ze;generalize upd (upd HG D (.lst M)) tp (.tup M)=HI at sH c0 TH;refine⟨.tup (((List.range t.length).map (Q5 J t N f)).map jS),.ref aa,.ref tp,rfl,⟨aa,c6,rfl,sH.sqT cf,ck.same sH⟩,⟨tp,M,rfl,u5 TH,c0⟩,Vn (by rw[zv,zV];omega),fun HJ sJ=>⟨_,rfl,ifF rfl ?_⟩⟩
  have sJ:=sH.trans sJ;have PJ:=sJ _ _ PF;have c1:=sJ _ _ az;refine⟨_,rfl,pp,rfl,⟨_,u4 PJ⟩,xw (K:=K) (a:=pp) (xs:=pvs sv f t.length) (fun i M HK=>M=(List.replicate i true).map V.bl/\Same HJ HK) ⟨rfl,u6 _⟩ (fun i M HK ⟨_,sK⟩=>u4 (sK _ _ PJ)) ?_ ?_⟩
  ·rintro i x M HK hx ⟨rfl,sK⟩
   have hi:=(zU.mp hx).1;obtain⟨dq,a5,ap⟩:=(aq.same (sJ.trans sK)).get hx;rw[zY] at a5;obtain⟨q0,cx,rfl⟩:=qH.mp a5;obtain⟨a0,rfl,bq⟩:=vz ap;refine⟨rfl,_,rfl,.inl ⟨rfl,_,u4 (sK _ _ PJ)⟩,_,rfl,pp,a0,_,pqs N f t.length,q0,rfl,rfl,u4 (sK _ _ PJ),zeR (aq.same (sJ.trans sK)),bq,?_⟩
   refine⟨_,rfl,.inl ⟨rfl,_,u4 (sK _ _ c1)⟩,_,rfl,sl,a0,_,N,q0,rfl,rfl,u4 (sK _ _ c1),zeR (b7.same (sJ.trans sK)),bq,?_⟩
   refine⟨_,_,rfl,rfl,?_,?_,sK⟩
   ·rw[zv,xF];omega
   ·have ct:=Y1 (d:=((0,0):Int×Int)) a6.inj a6.rng q0
    have ct:(pqs N f t.length).count q0<=N.count q0:=ct;rw[zT (Int.ofNat_le.mpr ct),QQ,zQ];rfl
  rintro M HK ⟨rfl,sK⟩;refine⟨by rw[zv,xF];omega,fun D hD=>⟨D,_,rfl,u4 ze,_,rfl,?_⟩⟩
  rw[show(List.replicate (pvs sv f t.length).length true).all id=true by simp]
  refine ifF rfl ?_
  have sL:=sJ.trans (sK.trans (zd (o:=.lst ((List.replicate (pvs sv f t.length).length true).map V.bl)) hD));generalize upd HK D (.lst ((List.replicate (pvs sv f t.length).length true).map V.bl))=HL at sL;have KL:=sL _ _ KF;have c2:=sL _ _ az;have cr:=b7.same sL;have bx:=cn.same sL;have PL:=sL _ _ PF;have cq:=aq.same sL;have d3:=b9.trans sL;refine⟨_,rfl,kl,rfl,⟨_,u4 KL⟩,xw (K:=K) (a:=kl) (xs:=t.map V.str) (fun i M HM=>Rows HL HM ((t.take i).map (zeL J N)) M/\Same HL HM) ⟨Rows.nil,u6 _⟩ (fun i M HM ⟨_,sM⟩=>u4 (sM _ _ KL)) ?_ ?_⟩
  ·rintro i x M HM hx ⟨ab,sM⟩
   rw[zY] at hx;obtain⟨kd,ak,rfl⟩:=qH.mp hx;have hi:=(zU.mp ak).1;refine⟨rfl,_,rfl,sl,rfl,⟨_,u4 (sM _ _ c2)⟩,xw (K:=K) (a:=sl) (xs:=sv) (fun j ys HN=>ys=((N.take j).map (wN J kd)).map V.int/\Same HM HN) ⟨rfl,u6 _⟩ (fun j ys HN ⟨_,sN⟩=>u4 (sN _ _ (sM _ _ c2))) ?_ ?_⟩
   ·rintro j y ys HN hy ⟨rfl,sN⟩
    obtain⟨dd,q1,r1⟩:=(cr.same (sM.trans sN)).get hy;rw[zY] at q1;obtain⟨q,eq,rfl⟩:=qH.mp q1;have hj:=(zU.mp eq).1;refine⟨rfl,_,rfl,_,rfl,_,rfl,jp,J,ao,kd,y,q,rfl,bx.same (sM.trans sN),jo,r1,hb q (qw eq),fun HO sO=>⟨?_,?_,sN.trans sO⟩⟩
    ·rw[zv,zv,jv];omega
    ·rw[jc eq,zQ,zQ]
     rfl
   ·rintro ys HN ⟨rfl,sN⟩
    rw[c3,jX];refine⟨by rw[zv,zv];omega,fun D hD=>⟨?_,?_,sM.trans (sN.trans (zd hD))⟩⟩
    ·rw[ab.1,zv,jv];omega
    ·rw[jc ak,zQ]
     exact(ab.same (sN.trans (zd hD))).snoc (sM.none (sN.none hD)) ze
  rintro M HM ⟨ab,sM⟩;rw[lm,jX] at ab;refine⟨by rw[ab.1,zv];omega,fun co b0=>?_⟩
  have sN:=sM.trans (zd (o:=.lst M) b0);have CN:upd HM co (.lst M) co=some (.lst M):=ze;have bb:=VS (ab.same (zd b0)) CN;generalize upd HM co (.lst M)=HN at sN CN bb;clear ab sM b0 CN;refine⟨_,rfl,_,rfl,true,true,kl,pp,rfl,⟨_,u4 (sN _ _ KL)⟩,⟨_,u4 (sN _ _ PL)⟩,?_⟩
  refine JZ (K:=K) (k1:=true) (k2:=true) (xs:=t.map V.str) (ys:=pvs sv f t.length) (fun i M HO=>M=((List.range i).map fun x=>xz J t N x (f x)).map V.int/\Same HN HO) ⟨rfl,u6 _⟩ (fun i M HO ⟨_,sO⟩=>⟨u4 (sO _ _ (sN _ _ KL)),u4 (sO _ _ (sN _ _ PL))⟩) ?_ ?_
  ·rintro i x y M HO T hx hy ⟨rfl,sO⟩ hT
   have hi:i<t.length:=by have:=(zU.mp hx).1;rwa[lm] at this
   have ei:t[i]? =some (t.getD i default):=by rw[qI,qg hi];rfl
   rw[zY,ei] at hx;cases hx;have sT:=sO.trans (zd (o:=.tup [.str (t.getD i default),y]) hT);obtain⟨dq,a5,ap⟩:=(cq.same (sN.trans sT)).get hy;unfold pqs at a5;rw[zY,zY,vH hi] at a5;cases a5;have c5:N[f i]? =some (N.getD (f i) (0,0)):=by rw[qI,qg (a6.rng i hi)];rfl
   refine⟨T,_,rfl,u5 ze,rfl,_,_,rfl,_,_,rfl,rfl,rfl,?_⟩
   refine⟨_,rfl,_,rfl,_,rfl,jp,J,ao,_,y,_,rfl,bx.same (sN.trans sT),jo,ap,hb _ (qw c5),fun HP sP=>⟨?_,?_,sT.trans sP⟩⟩
   ·rw[zv,zv,zV];omega
   ·rw[vD,zQ,zQ];rfl
  rintro M HO ⟨rfl,sO⟩;rw[lm,b3,Nat.min_self];refine⟨by rw[zv,zv,zV];omega,fun bt bi=>⟨bt,_,rfl,u4 ze,fun z hz=>?_,by rw[zv,zV];omega,?_⟩⟩
  ·obtain⟨x,hx,rfl⟩:=qr.mp hz
   have hx:=qt.mp hx;exact cb x hx _ (a6.rng x hx)
  have sP:=sN.trans (sO.trans (zd (o:=.lst (((List.range t.length).map fun x=>xz J t N x (f x)).map V.int)) bi))
  have bc:=bb.same (sO.trans (zd (o:=.lst (((List.range t.length).map fun x=>xz J t N x (f x)).map V.int)) bi))
  generalize upd HO bt (.lst (((List.range t.length).map fun x=>xz J t N x (f x)).map V.int))=HP at sP bc
  refine⟨_,rfl,_,rfl,co,xz J t N,t.length,N.length,rfl,bc,an,by omega,fun L2 HQ sQ hg lo=>?_⟩
  obtain⟨g0,g1,g2,g3⟩:=hg;have e1:L2=((List.range t.length).map fun x=>xz J t N x (f x)).sum:=by
   have a:L2<=qW t.length fun x=>xz J t N x (f x):=lo f a6.rng a6.inj
   have b:(qW t.length fun x=>xz J t N x (f x))<=L2:=by rw[g3];exact a6.least g1 g2
   exact Int.le_antisymm a b
  rw[e1];have ba:=b9.trans (sL.trans (sP.trans sQ));refine⟨rfl,_,rfl,ifT (by simp) ?_⟩
  refine⟨_,rfl,pt,VY J t N f,rfl,b5.same ba,zeT jo b2 mm hb a6.rng,fun HR sR=>⟨true,true,rfl,rfl,_,rfl,ifT rfl ?_⟩⟩
  refine⟨_,rfl,pt,VY J t N f,rfl,b5.same (ba.trans sR),jo.pl,?_,fun HS sS=>⟨true,true,?_,rfl,?_⟩⟩
  ·show((List.range t.length).map (Q5 J t N f)).length<=100
   rw[zv,zV];omega
  ·rw[ziF]
  ·exact k _ (ar.trans (ba.trans (sR.trans sS)))
theorem ByOrd.mem1{c:List Nat}{g:List (Nat×Nat)}(h:ByOrd c g){p:Nat×Nat}(o:p∈g):p.1∈c:=by
 obtain⟨k,l,_,e,_⟩:=h p o;exact qw e
theorem ByOrd.mem2{c:List Nat}{g:List (Nat×Nat)}(h:ByOrd c g){p:Nat×Nat}(o:p∈g):p.2∈c:=by
 obtain⟨k,l,_,_,e⟩:=h p o;exact qw e
theorem yd{α:Type}{f:α->Dat}:∀{l:List α},(∀a∈l,(f a).shw=true)->Dat.shws (l.map f)=true
 | [],_=>rfl
 | a::l,h=>by
  show((f a).shw&&Dat.shws (l.map f))=true;rw[h a (by simp),yd fun b hb=>h b (z9 _ hb)]
  rfl
theorem yu{α:Type}{f:α->Dat}{c:Nat}:∀{l:List α},(∀a∈l,(f a).blk<=c)->Dat.blks (l.map f)<=(c+1)*l.length
 | [],_=>qB _
 | a::l,h=>by
  show(f a).blk+1+Dat.blks (l.map f)<=_;have g:=h a (by simp)
  have o:=yu (f:=f) (c:=c) (l:=l) fun b hb=>h b (z9 _ hb)
  rw[jJ,Nat.mul_succ];omega
theorem yo{α:Type}{f:α->Dat}{c:Nat}(h:∀a,(f a).py.depth<=c):∀l:List α,PyData.depthAll (Dat.pys (l.map f))<=c
 | []=>qB _
 | a::l=>by
  have g:=h a;have o:=yo h l;show max (PyData.depth (f a).py) (PyData.depthAll (Dat.pys (l.map f)))<=c;omega
theorem yU{i:Int}(h:-1000000<=i)(c:i<=1000000):Dat.shw (.int i)=true:=zT (by omega)
theorem zfh{x:Str}(h:Nm x):Dat.shw (.str x)=true:=vF.mpr fun c hc=>zT (h.2.1 c hc)
theorem zfi{x:Str}(h:Nm x):Dat.blk (.str x)<=8:=h.1
theorem VZ{x y:Int}(h:inP x y):Dat.shw (.tup [.int x,.int y])=true:=by
 unfold inP at h;show(Dat.shw (.int x)&&(Dat.shw (.int y)&&true))=true;rw[yU (by omega) (by omega),yU (by omega) (by omega)]
 rfl
theorem zg5{J:Job}{s:List Nat}(c:JobOk J s):(vR J).shw=true:=by
 have t:=c.hd0;have u:=c.hd1;show(Dat.shw (.tup [.int J.gx,.int J.gy])&&(Dat.shw (.int J.hd)&&(Dat.shws (J.fs.map jS)&&(Dat.shws (J.ps.map jR)&&(Dat.shws (J.as.map vZ)&&true)))))=true;rw[VZ c.gate,yU (by omega) (by omega),yd,yd,yd]
 ·rfl
 ·intro p g
  have l:=qt.mp (c.op.mem_iff.mp (c.bo.mem1 g));have o:=qt.mp (c.op.mem_iff.mp (c.bo.mem2 g));have D:=c.pl;show(Dat.shw (.int (p.1:Int))&&(Dat.shw (.int (p.2:Int))&&true))=true;rw[yU (by omega) (by omega),yU (by omega) (by omega)]
  rfl
 ·intro p g
  obtain⟨l,o,_⟩:=c.pa p g;show(Dat.shw (.str p.k)&&(Dat.shw (.tup [.int p.x,.int p.y])&&true))=true;rw[zfh l,VZ o];rfl
 ·intro p g
  obtain⟨l,o,A,B⟩:=c.fa p g;show(Dat.shw (.str p.k)&&(Dat.shw (.tup [.int p.x,.int p.y])&&(Dat.shw (.int p.m)&&true)))=true;rw[zfh l,VZ o,yU (by omega) (by omega)]
  rfl
theorem zg7{J:Job}{s:List Nat}(g:JobOk J s):(vR J).blk<=10000:=by
 have A:=yu (f:=jS) (c:=20) (l:=J.fs) fun p o=>by
  have:=zfi (g.fa p o).1;show Dat.blk (.str p.k)+1+(0+1+(0+1+0)+1+(0+1+0))<=20;omega
 have B:=yu (f:=jR) (c:=20) (l:=J.ps) fun p o=>by
  have:=zfi (g.pa p o).1;show Dat.blk (.str p.k)+1+(0+1+(0+1+0)+1+0)<=20;omega
 have D:=yu (f:=vZ) (c:=20) (l:=J.as) fun p o=>by
  show 0+1+(0+1+0)<=20;omega
 have u:=g.fl;have E:=g.pl;have t:=g.al;show 0+1+(0+1+0)+1+(0+1+(Dat.blks (J.fs.map jS)+1+(Dat.blks (J.ps.map jR)+1+(Dat.blks (J.as.map vZ)+1+0))))<=10000;omega
theorem zg6(J:Job):(vR J).py.depth<=20:=by
 have g:=yo (f:=jS) (c:=10) (fun p=>by
  show PyData.depth (.tuple [.str p.k,.tuple [.int p.x,.int p.y],.int p.m])<=10;simp[PyData.depth,PyData.depthAll]) J.fs
 have l:=yo (f:=jR) (c:=10) (fun p=>by
  show PyData.depth (.tuple [.str p.k,.tuple [.int p.x,.int p.y]])<=10;simp[PyData.depth,PyData.depthAll]) J.ps
 have o:=yo (f:=vZ) (c:=10) (fun p=>by
  show PyData.depth (.tuple [.int p.1,.int p.2])<=10;simp[PyData.depth,PyData.depthAll]) J.as
 show PyData.depth (.tuple [.tuple [.int J.gx,.int J.gy],.int J.hd,.tuple (Dat.pys (J.fs.map jS)),.tuple (Dat.pys (J.ps.map jR)),.tuple (Dat.pys (J.as.map vZ))])<=20;simp only[PyData.depth,PyData.depthAll];omega
def Zb(J:Job)(c:List (Int×Int)):Dat:=.lst [vR J,.lst (c.map plD)]
theorem zde{J:Job}{c:List Nat}{g:List 0#o}(l:JobOk J c)(hb:∀q∈g,inB q):(Zb J g).shw=true:=by
 show((vR J).shw&&(Dat.shws (g.map plD)&&true))=true;rw[zg5 l,yd (f:=plD) fun q hq=>VZ (hb q hq)]
 rfl
theorem zdg{J:Job}{o:List Nat}{g:List 0#o}(s:JobOk J o)(A:g.length<=12):(Zb J g).blk<=1048576:=by
 have t:=zg7 s;have u:=yu (f:=plD) (c:=5) (l:=g) fun p B=>by
  show 0+1+(0+1+0)<=5;omega
 show(vR J).blk+1+(Dat.blks (g.map plD)+1+0)<=_;omega
theorem zdf(J:Job)(g:List (Int×Int)):(Zb J g).py.depth<=60:=by
 have l:=zg6 J;have o:=yo (f:=plD) (c:=10) (fun p=>by
  show PyData.depth (.tuple [.int p.1,.int p.2])<=10;simp[PyData.depth,PyData.depthAll]) g
 show PyData.depth (.list [(vR J).py,.list (Dat.pys (g.map plD))])<=60;simp only[PyData.depth,PyData.depthAll];omega
theorem zeS{K:W.Frag}{H:Hp}:∀(c:List Addr),(∀a∈c,PlA H a)->∃g:List 0#o,Reps K H (g.map plD) (c.map V.ref)/\(∀q∈g,inB q)/\g.length=c.length
 | [],_=>⟨[],rfl,fun q h=>(nomatch h),rfl⟩
 | a::c,h=>by
  obtain⟨g,l,o,s⟩:=zeS (K:=K) c fun b hb=>h b (z9 _ hb)
  obtain⟨x,y,e,r⟩:=h a (by simp)
  refine⟨(x,y)::g,⟨_,_,rfl,ziG (u5 e),l⟩,fun q hq=>?_,by rw[jJ,jJ,s]⟩
  rcases zC.mp hq with rfl | hq
  ·exact r
  ·exact o q hq
theorem zix{J:Job}(r:zhr J):Dat.ok 4 (vR J):=by
 have u:=r.fl;have A:=r.pl;have s:=r.al;have c:∀{n:Nat} {a b:Dat},Dat.ok n a->Dat.ok n b->Dat.ok (n+1) (.tup [a,b]):=fun o hb=>⟨show 2<=1000000 by decide,fun d hd=>by
  rcases zC.mp hd with rfl | hd
  ·exact o
  ·rw[zW.mp hd];exact hb⟩
 have t:=Vn (fs:=J.fs) (by omega)
 refine⟨show 5<=1000000 by decide,fun d hd=>?_⟩
 rcases zC.mp hd with rfl | hd
 ·exact c trivial trivial
 rcases zC.mp hd with rfl | hd
 ·trivial
 rcases zC.mp hd with rfl | hd
 ·refine⟨by rw[zv];omega,fun e l=>?_⟩
  obtain⟨p,_,rfl⟩:=qr.mp l;refine⟨show 3<=1000000 by decide,fun g hg=>?_⟩
  rcases zC.mp hg with rfl | hg
  ·trivial
  rcases zC.mp hg with rfl | hg
  ·exact c trivial trivial
  ·rw[zW.mp hg];trivial
 rcases zC.mp hd with rfl | hd
 ·refine⟨by rw[zv];omega,fun e l=>?_⟩
  obtain⟨p,_,rfl⟩:=qr.mp l;exact c trivial (c trivial trivial)
 ·rw[zW.mp hd]
  refine⟨by rw[zv];omega,fun e l=>?_⟩
  obtain⟨p,_,rfl⟩:=qr.mp l;exact c trivial trivial
theorem Reps.rev{K:W.Frag}{H:Hp}:∀{c:List Dat} {g:List V},Reps K H c g->Reps K H c.reverse g.reverse
 | [],_,h=>by cases(show _=[] from h);exact rfl
 | d::c,_,⟨x,r,e,l,o⟩=>by
  subst e;rw[WE,WE];exact(Reps.rev o).snoc l
inductive X6(g:List V)(H:Hp)(Q:VK):Prop
 | mk (b:Addr) (n:Int) (_:g=[.ref b]) (_:BoxAt H b n) (_:n<1000) (_:∀c,SameB b H c->Q (.bl true) c):X6  g H Q
def zbE:Sp:=fun c H Q _=>X6  c H Q
theorem zbX:zE ["_law_box_here","_law_job_here","_law_slots_here","_law_kept","_law_first","_law_some"] ["_law_box_here"] (zy (topL 63)):=u0
def zc0(b:_)(o:_)(t:_)(c:_)(s:_)(g:_):=fun(i:Nat) (σ:St) (l:Hp)=>(Ex1 fun(u:Option V)=>An2 (σ=[some (.ref b),some (.ref o),some (.ref t),some (.str c),some (.ref s),u]) (Same g l):Prop)
theorem zkm{f:Addr}{fd:FuncData}(F:Fun K "_law_right" "_law_right" (topL 63) f fd)(B:Blt I)(a3:Dfn P w K I G "_law_job" 4 ["_law_box_here","_law_few","_law_most","_law_plenty"] (zhE K))(L:Dfn P w K I G "_law_kinds" 1 ["_law_job_here"] (VM K))(M:Dfn P w K I G "_law_slots" 3 ["_law_box_here","_law_many"] zbC)(c:Dfn P w K I G "placed_feeders" 5 ["job","slots"] (zei K))(g:Dfn P w K I G "_law_placed_right" 7 ["_law_job_here","_law_slots_here"] (zjL K))(a0:Dfn P w K I G "_law_same" 5 ["_law_found","_law_due"] (spS K 5)):qA P w K I G CX0 8 f fd ["_law_box_here"] zbE:=by
 have nd:=zbX.nd;refine F.ok zbX 0#d (fun b5 A ay s H vs Q E T h=>?_)
 ·obtain⟨b,n,rfl,_⟩:=h
  rfl
 ·obtain⟨b,n,rfl,B0,hn,k⟩:=h
  have a2:=T.units;have hu:=T.units0;have hg:=T.gd;have b3:=bG100000;refine⟨_,(zg (zF (i:=1) nd rfl 0#a (zi a3 T.m rfl (za (pv 0) (za zj (za zj (za j6 zb))))))
   (zg (zF (i:=2) nd rfl 0#a (zi M T.m rfl (za (pv 0) (za (zw zR rfl B.len boot_len (za (zi L T.m rfl 0#s) zb)) zb))))
   (zg (JJ (i:=3) (j:=4) rfl nd rfl rfl (by decide) rfl rfl (za (zw (Xf hg a2) rfl B.repr Vx (za (qQ (za (pv 1) (za (pv 2) zb))) zb)) (za (zi c T.m rfl (za (pv 1) (za (pv 2) zb))) zb)) (by rfl))
   (zg (qM ju rfl (xm (jB (za (pv 2) (za (ziN (pv 2) (xL (zeV zac zj))) zb)))) (zB (i:=5) nd rfl 0#a)
   (zp (je (PW.pt (yf (jh (qL (zi g T.m rfl (za (pv 1) (za (pv 5) zb))))) (va (qC YA (zw (Xf hg a2) rfl B.repr Vx (za (qQ (za (pv 1) (za (pv 2) zb))) zb)) (pv 3) (z7 _)))))
    (zp (zA j6))
    qe)))
   (zp (zA (zi a0 T.m rfl (za (zi c T.m rfl (za (pv 1) (za (pv 2) zb))) (za (pv 4) zb))))))))),?_⟩
  refine⟨_,rfl,b,12,60,n,true,rfl,B0,by omega,by decide,by decide,by decide,by decide,fun jp J a6 H1 S1 B1 a7 jo=>?_⟩
  refine⟨_,rfl,_,rfl,jp,J,rfl,a7,jo.pl,fun kl ms H2 aa s2 K2 pw mm ml=>?_⟩
  have B2:=B1.same s2;have b8:=B1.nne aa;have ai:=Vl pw;have b6:=zaz jo ai mm;refine⟨kl,_,rfl,.inl (u4 K2),b,_,_,rfl,B2,by omega,by omega,by rw[zv];omega,fun D as H3 S3 B3 b9 ba L3 al am aj=>?_⟩
  rw[zv] at am;have a1:=(a7.same s2).keep (ua B2 S3) (zfy J);have au:=(S1.trans (SameB.of s2)).trans S3;obtain⟨t,O,hq,ql⟩:=zeS (K:=K) as aj;have ak:t.length<=12:=by omega
  have N:ms.length<=t.length:=by rw[ql];exact Int.ofNat_le.mp (am (by omega))
  have mq:∀Y:List Str,Y.Nodup->(∀j,j∈Y↔j∈zJ J)->Y.length<=t.length:=fun Y zn zm=>xa (V9 zn fun x hx=>(mm x).mpr ((zm x).mp hx)) N
  clear S1 s2 S3 B1 B2 K2 aa a7 aj;have ar:=zde jo hq;have a8:=zdg jo ak;have a9:=zdf J t;have an:∀(H':Hp) (u:Addr),Same H3 H'->H' u=some (.lst [.ref jp,.ref D])->Rep K H' (Zb J t) (.ref u):=fun H' u s' e=>⟨u,_,rfl,u4 e,_,_,rfl,a1.same s',_,_,rfl,⟨D,_,rfl,u4 (s' _ _ L3),O.same s'⟩,rfl⟩
  refine⟨_,rfl,_,rfl,le2,fun u1 ae=>⟨.ref u1,Zb J t,rfl,an _ u1 (zd ae) ze,ar,a8,a9,?_⟩⟩
  generalize a4:(Zb J t).py.shown=ag;have s4:=zd (H:=H3) (o:=.lst [.ref jp,.ref D]) ae;generalize upd H3 u1 (.lst [.ref jp,.ref D])=H4 at s4;refine⟨_,rfl,_,rfl,jp,D,J,a6,ms,t,_,rfl,a1.same s4,jo,s4 _ _ L3,O.same s4,hq,by omega,pw,mm,N,fun pt hs f0 u v H5 s5 ah ab az rp=>?_⟩
  have ap:=s4.trans s5;have b2:=ap _ _ L3;refine⟨_,_,rfl,?_⟩
  refine⟨_,rfl,_,rfl,1,rfl,_,rfl,D,_,rfl,rfl,u4 b2,fun U ax=>⟨le2,fun tt ac=>?_⟩⟩
  have s6:=(zd (o:=.lst (as.map V.ref).reverse) ax).trans (zd (o:=.tup [.ref D,.ref U]) ac);have RL:=zd (o:=.tup [.ref D,.ref U]) ac _ _ (ze (H:=H5) (a:=U) (o:=.lst (as.map V.ref).reverse));have TT:upd (upd H5 U (.lst (as.map V.ref).reverse)) tt (.tup [.ref D,.ref U]) tt=some (.tup [.ref D,.ref U]):=ze;generalize upd (upd H5 U (.lst (as.map V.ref).reverse)) tt (.tup [.ref D,.ref U])=H6 at s6 RL TT;have aq:=ap.trans s6;refine⟨tt,rfl,⟨_,u5 TT⟩,ZN (K:=K) (a:=tt) (xs:=[.ref D,.ref U]) (zc0 b jp D ag pt H6) ⟨_,rfl,u6 _⟩ (fun i σ H7 _ ⟨_,_,s7⟩=>u5 (s7 _ _ TT)) ?_ ?_⟩
  ·rintro i x σ H7 hx ⟨v5,rfl,s7⟩
   have l:=aq.trans s7;obtain⟨wl,ws,Y,rfl,hw,b1,aw,lw⟩:∃(wl:Addr) (ws:List V) (Y:List 0#o),x=.ref wl/\H7 wl=some (.lst ws)/\Reps K H7 (Y.map plD) ws/\(∀q∈Y,inB q)/\Y.length=t.length:=by
    have hi:=(zU.mp hx).1;have hi:i<2:=hi;match i,hi with
    | 0,_=>cases hx;exact⟨D,_,t,rfl,l _ _ L3,O.same l,hq,rfl⟩
    | 1,_=>
     cases hx;refine⟨U,_,t.reverse,rfl,s7 _ _ RL,?_,fun q h=>hq q (List.mem_reverse.mp h),List.length_reverse⟩
     rw[List.map_reverse];exact(O.same l).rev
   refine⟨_,rfl,_,rfl,jp,wl,J,a6,Y,ws,rfl,a1.same l,jo,hw,b1,aw,by omega,fun xs h1 h2=>by rw[lw];exact mq xs h1 h2,fun H8 s8=>⟨_,rfl,ifF rfl ?_⟩⟩
   refine⟨_,rfl,_,rfl,le2,fun u2 af=>⟨.ref u2,Zb J t,rfl,an _ u2 ((l.trans s8).trans (zd af)) ze,ar,a8,a9,_,rfl,rfl,_,rfl,ifF (by rw[a4,zT rfl];rfl) ?_⟩⟩
   exact⟨_,rfl,s7.trans (s8.trans (zd af))⟩
  ·rintro σ H7 ⟨v5,rfl,s7⟩
   have l:=aq.trans s7;refine⟨_,rfl,_,rfl,jp,D,J,a6,ms,t,_,rfl,a1.same l,jo,l _ _ L3,O.same l,hq,by omega,pw,mm,N,fun b0 b7 f2 u2 v2 H8 s8 av a5 b4 ao=>?_⟩
   have eh:=av.uniq ah;subst eh;have ff:=a5.at_ ab;have ej:VY J ms t f2=VY J ms t f0:=by
    unfold VY;rw[Zx fun x hx=>?_]
    unfold Q5;rw[ff x (qt.mp hx)]
   rw[ej] at ao;refine⟨_,rfl,vR (VY J ms t f0),.ref b0,.ref pt,rfl,ao,rp.same (s6.trans (s7.trans s8)),zix (zeT jo ai mm hq az.rng),fun H9 s9=>k _ (au.trans (.of (l.trans (s8.trans s9))))⟩
inductive zbM(K:W.Frag)(g:List V)(H:Hp)(Q:VK):Prop
 | mk (a:Addr) (c:List Int) (_:g=[.ref a]) (_:SqL K H a (c.map V.int)) (_:c.length<=63) (_:∀l,Q (.bl true) l):zbM K g H Q
def spLaw(K:W.Frag):Sp:=fun c H Q _=>zbM K c H Q
theorem zhT:zE ["_law_script","_law_cells"] ["_law_script"] (zy (topL 64)):=u0
theorem zi5{f:Addr}{fd:FuncData}(F:Fun K "law" "law" (topL 64) f fd)(B:Blt I)(g:Dfn P w K I G "_law_folded" 1 ["_law_script","_law_size"] (zeq K))(J:Dfn P w K I G "_law_box" 1 ["_law_script","_law_k"] (zhH K))
  (l:Dfn P w K I G "_law_right" 8 ["_law_box_here"] zbE):qA P w K I G CX0 9 f fd ["_law_script"] (spLaw K):=by
 have nd:=zhT.nd;refine F.ok zhT 0#d (fun a1 A U s H vs Q E T h=>?_)
 ·obtain⟨a,ns,rfl,_⟩:=h
  rfl
 ·obtain⟨a,ns,rfl,hS,M,k⟩:=h
  refine⟨_,(zg (zF (i:=1) nd rfl 0#m (zi g T.m rfl 0#p))
   (zp (zA (zw (j4 rfl) rfl B.all boot_all (za (jQ ["_law_cells"] [1] rfl rfl (by kernel_rfl) (qX rfl B.range (za (zw (Qj rfl) rfl B.max Xg (za zj (za (zw zR rfl B.len boot_len 0#s) zb))) zb)) 0#k (fun _ _ _ _=>(zi l T.m rfl (za (zi J T.m rfl (za (pv 1) 0#t)) zb)))) zb))))),?_⟩
  refine⟨_,rfl,a,ns,3,rfl,hS,M,by decide,by decide,fun p t H1 s1 hp hm=>?_⟩
  have L:=bGe;have hl:(t.map V.int).length<=3:=by rw[zv];exact hm
  refine⟨_,rfl,p,_,rfl,.inl hp,_,_,rfl,_,rfl,(by rw[L];split<;>omega),(by rw[L];split<;>omega),?_⟩
  have hN:(if((t.map V.int).length:Int)>2 then((t.map V.int).length:Int) else 2).toNat<=8:=by split<;>omega
  have a0:=bG100;refine YN (fun i Y N=>Y=List.replicate i (V.bl true)/\Same H1 N) ⟨rfl,u6 _⟩ ?_ ?_
  ·rintro i Y N hi ⟨rfl,O⟩
   rw[Int.zero_add];refine⟨rfl,?_⟩
   refine⟨_,rfl,_,rfl,p,t,i,rfl,O.seq hp,by omega,fun q o hq Bq=>⟨q,0,rfl,Bq,by decide,fun H3 s3=>⟨?_,?_,fun c u e=>?_⟩⟩⟩
   ·rw[xF];omega
   ·rw[QQ]
   ·exact s3 c u ((zd hq) c u (O c u e)) (zo (O c u e) hq)
  ·rintro Y N ⟨rfl,O⟩
   refine⟨by rw[xF];omega,fun D hD=>⟨D,List.replicate (if((t.map V.int).length:Int)>2 then((t.map V.int).length:Int) else 2).toNat true,rfl,?_,?_⟩⟩
   ·refine u4 ?_
    rw[ze,zaY]
   ·have:=k (upd N D (.lst (List.replicate (if((t.map V.int).length:Int)>2 then((t.map V.int).length:Int) else 2).toNat (V.bl true))))
    simpa using this
end
theorem all_mk{l:PySem.W.OpenLaw}{w:World}{K:W.Frag}{h:Heap}{mg:Str->Option Value}{fa:Addr}(X:K.In h)(e:zdv zaH zdZ zc5 zhi K=zdL zaH zdZ zc5 zhi)(G:h.Ns mainGlobals mg)(b8:mg "law" = some (.ref fa)) :
  ∃fd:FuncData,(∀(s:Shared) (v:Value),BindsTo s fd ⟨[v],[]⟩ [("_law_script",v)])/\∀as:Heap,K.In as->as.Ns mainGlobals mg->qA l.prog w K mg as CX0 9 fa fd ["_law_script"] (spLaw K):=by
 have Z0:Tp l.prog w K mg h h zaH zdZ zc5:=⟨X,G,congrArg Prod.fst e⟩;have B:Blt mg:=⟨Z0.bl 0 rfl,Z0.bl 1 rfl,Z0.bl 2 rfl,Z0.bl 3 rfl,Z0.bl 4 rfl,Z0.bl 5 rfl,Z0.bl 6 rfl,Z0.bl 7 rfl,Z0.bl 8 rfl,Z0.bl 9 rfl,Z0.bl 10 rfl,Z0.bl 11 rfl,Z0.bl 12 rfl,Z0.bl 13 rfl,Z0.bl 14 rfl,Z0.bl 15 rfl,Z0.bl 16 rfl,Z0.bl 17 rfl,Z0.bl 18 rfl,Z0.bl 19 rfl,Z0.bl 20 rfl⟩;obtain⟨f,fd,a,F⟩:=Z0.fd 52 rfl;cases b8.symm.trans (Wu X G a);refine⟨fd,?_,fun as _ _=>?_⟩
 ·obtain⟨_,_,_,_,_,_,_,_,_,rfl,_,_⟩:=F.ex
  exact fun s v=>.of_eq rfl
 have Z:Tp l.prog w K mg as h zaH zdZ zc5:=⟨X,G,congrArg Prod.fst e⟩;obtain⟨_,b4⟩:=cnS X G e 0 rfl;obtain⟨_,U⟩:=cnI X G e 1 rfl;obtain⟨_,au⟩:=cnI X G e 2 rfl;obtain⟨_,af⟩:=cnI X G e 3 rfl;obtain⟨_,Y⟩:=cnI X G e 4 rfl;obtain⟨_,N⟩:=cnI X G e 5 rfl;obtain⟨_,ag⟩:=cnI X G e 6 rfl;obtain⟨_,a5⟩:=cnI X G e 7 rfl;have Q:=Z.dfn 35 rfl fun _ _ F m b=>zcg F B m b 5
 have b7:=Z.dfn 15 rfl fun _ _ F _ _=>ze6 F B
 have b0:=Z.dfn 16 rfl fun _ _ F _ _=>zgL F B
 have ae:=Z.dfn 17 rfl fun _ _ F _ _=>ze8 F B
 have ac:=Z.dfn 18 rfl fun _ _ F _ _=>zgM F B
 have b1:=Z.dfn 19 rfl fun _ _ F _ _=>zds F B ac
 have b2:=Z.dfn 20 rfl fun _ _ F _ _=>zdr F B b7 b0 ae b1
 have aj:=Z.dfn 0 rfl fun _ _ F _ _=>zi7 F B
 have c:=Z.dfn 1 rfl fun _ _ F _ _=>ziW F B aj
 have av:=Z.dfn 2 rfl fun _ _ F _ _=>zkp F B b4 U
 have I:=Z.dfn 3 rfl fun _ _ F _ _=>zi2 F B c au
 have a4:=Z.dfn 4 rfl fun _ _ F _ _=>ziX F B
 have an:=Z.dfn 5 rfl fun _ _ F _ _=>zi4 F B a4
 have o:=Z.dfn 6 rfl fun _ _ F _ _=>zkl F B
 have t:=Z.dfn 7 rfl fun _ _ F _ _=>zkk F B
 have ai:=Z.dfn 8 rfl fun _ _ F _ _=>zkt F B o av I c N
 have a1:=Z.dfn 9 rfl fun _ _ F _ _=>zi9 F B t ai Y
 have aw:=Z.dfn 10 rfl fun _ _ F _ _=>zkn F B o I
 have ah:=Z.dfn 11 rfl fun _ _ F _ _=>zi0 F B t aw ag
 have ap:=Z.dfn 12 rfl fun _ _ F _ _=>zkv F B o c
 have a6:=Z.dfn 13 rfl fun _ _ F _ _=>zjb F B t ap a5
 have b5:=Z.dfn 14 rfl fun _ _ F _ _=>zi8 F B o I c a1 ah a6 b2 af
 have E:=Z.dfn 21 rfl fun _ _ F _ _=>zgI F B
 have a8:=Z.dfn 22 rfl fun _ _ F _ _=>ze7 F B E
 have b3:=Z.dfn 23 rfl fun _ _ F _ _=>ziZ F B
 have T:=Z.dfn 24 rfl fun _ _ F _ _=>zks F B b3
 have a0:=Z.dfn 25 rfl fun _ _ F _ _=>zkw F B T
 have a7:=Z.dfn 26 rfl fun _ _ F _ _=>zku F B
 have b6:=Z.dfn 27 rfl fun _ _ F _ _=>ziY F B
 have D:=Z.dfn 28 rfl fun _ _ F _ _=>zkq F B a0 a7 b6
 have ao:=Z.dfn 29 rfl fun _ _ F _ _=>zgQ F B an
 have L:=Z.dfn 30 rfl fun _ _ F _ _=>zff F B ao E
 have A:=Z.dfn 31 rfl fun _ _ F _ _=>zi1 F B L D E
 have ax:=Z.dfn 32 rfl fun _ _ F _ _=>zja F B
 have g:=Z.dfn 33 rfl fun _ _ F _ _=>zgJ F B
 have aa:=Z.dfn 34 rfl fun _ _ F _ _=>zgO F B
 have a3:=Z.dfn 36 rfl fun _ _ F _ _=>ze9 F B
 have ar:=Z.dfn 37 rfl fun _ _ F _ _=>zi3 F B g a3
 have ak:=Z.dfn 38 rfl fun _ _ F _ _=>zfc F B ar
 have u:=Z.dfn 39 rfl fun _ _ F _ _=>zfb F B g
 have ab:=Z.dfn 40 rfl fun _ _ F _ _=>zdt F B u
 have H:=Z.dfn 41 rfl fun _ _ F _ _=>zgK F B g
 have a2:=Z.dfn 42 rfl fun _ _ F _ _=>zgP F B g H u
 have a9:=Z.dfn 43 rfl fun _ _ F _ _=>zdu F B g H
 have ay:=Z.dfn 44 rfl fun _ _ F _ _=>zi6 F B g ak u ab a2 a9
 have az:=Z.dfn 45 rfl fun _ _ F _ _=>zgN F B
 have O:=Z.dfn 46 rfl fun _ _ F _ _=>zkr F B
 have M:=Z.dfn 47 rfl fun _ _ F _ _=>zfe F B
 have am:=Z.dfn 48 rfl fun _ _ F _ _=>zfa F B g u
 have aq:=Z.dfn 49 rfl fun _ _ F _ _=>zfd F B az
 have J:=Z.dfn 50 rfl fun _ _ F _ _=>zko F B M A Q L D aq O b5 a8
 have al:=Z.dfn 51 rfl fun _ _ F _ _=>zkm F B ay M am A J Q
 exact zi5 F B aa ax al
end L2
open PySem PySem.W PyProof.Rows
set_option maxRecDepth 100000 in
set_option maxHeartbeats 0 in
theorem PySem.Challenge.cw_pickboard_k36_jobs_placed_holds : PySem.Challenge.rw_pickboard_k36_jobs_placed.Holds := by
 refine L2.ownHead (d:=L2.defRec "law" (L2.topL 64)) 9999 L2.head1 L2.head2 (by kernel_rfl) (by kernel_rfl) (by kernel_rfl) L2.head3 ⟨rfl,rfl,rfl,rfl,rfl,by decide +kernel⟩ (by w_witness2) ?_
 exact L2.walkS (n:=63) (k:=9) (x:= "_law_script") (sp:=L2.spLaw) rfl (by decide) (by kernel_rfl) ⟨rfl,by decide,by decide,rfl⟩ (fun _ _ _ _ _ X e G m=>L2.all_mk X e G m) fun _ _ a ns hl _ hS=>⟨a,ns,rfl,hS,hl,fun _=>rfl⟩
