import PyProof.Rows.All
import Wide.All
import OpenK.AllK
import Wide.FinOn
import Lean
import PyProof.EqAt
import PyProof.EqKinds
import PyProof.TupleCall
import PyProof.NeKinds
import PyProof.ReprRoads
import PyProof.ReprBulk
import PyProof.SumWalk
import PyProof.FString5
import PyProof.StrBlock2
import PyProof.StrBlockI
import PyProof.StrBlockH
import PyProof.StrWalks
import PyProof.StrLawsIn
import PyProof.AutoListH
import PyProof.CompUse
import PyProof.ListRange
import PyProof.CallFns
import PyProof.ListTruth
import PyProof.Rows.Range3
import PyProof.SeqI3
import KE.KRevSl
import PyProof.DictIter
import PyProof.DictWalks
import PyProof.DictCompW
import PyProof.Cells
import OpenK.KOwn
import PyProof.ExcClass3
import PyProof.ExcInit
import PyProof.ExcBaseAll.ValueError
import PyProof.ExcArgsOwn
import PyProof.ExcAttrAll.ValueError
import PyProof.Rows.SortWalk
import PyProof.Rows.SortStr
import PyProof.MeetsDict
import PyProof.DictUpdate
import PyProof.FactsAll.dict_3
import KE.KDictList
import PyProof.FactsAll.dict_4
import KE.KDictSum
import PyProof.IsiH_list
import PyProof.Rows.Exc
import KE.KDictOf
import PyProof.SetKind
import PyProof.Rows.SetFrom
import PyProof.FactsAll.set_1
import PyProof.FactsAll.set_2
import KE.KSortTup
import KE.KItemsList
import PyProof.Rows.SortRev
import PyProof.Rows.StrCase
import PyProof.Rows.StrLen
import KE.KPairComp
import KE.KMinKey
import PyProof.CallStr
import PyProof.StrCalls2
import PyProof.StrLawsTight
import PyProof.FString
import PyProof.StrBlock
import KE.KUnpack
import PyProof.Rows.TupMore
import PyProof.DictItems
import PySem.Challenge.RW_pickboard_k16_shortest_trips
set_option Elab.async false
set_option linter.all false
set_option maxRecDepth 100000
def zc:=@PySem.wpAny_bind
def zm:=@List.length_map
def zg:=@PySem.wpAny_pure
def zO:=@List.getElem?_eq_some_iff
def zH:=@PySem.Heap.get?_push_of_some
def zR:=@List.mem_singleton
def zx:=@Nat.le_refl
def qo:=@PySem.Heap.get?_push_size
def qu:=@List.length_append
def zK:=@PySem.Heap.lt_size
def zZ:=@List.mem_append_right
def zG:=@List.map_append
def zA:=@List.mem_map
def zT:=@List.getElem?_map
def qy:=@Option.map_eq_some_iff
def zW:=@List.size_toArray
def qw:=@List.mem_of_getElem?
def zP:=@List.mem_cons
def zq:=@if_neg
def zN:=@Nat.ne_of_lt
def zY:=@decide_eq_true
def jf:=@List.mem_cons_of_mem
def zt:=@if_pos
def qH:=@List.length_cons
def jt:=@Array.length_toList
def qL:=@List.mem_append
def qY:=@List.take_length
def jr:=@Bool.false_ne_true
def jb:=@List.length_take
def jY:=@Array.getElem?_eq_getElem
def jK:=@List.mem_append_left
def z9:=@PySem.wpAny_mono
def jv:=@PySem.wpAny_newObj_type
def xr:=@List.getElem?_append_right
def jC:=@Int.toNat_natCast
def qK:=@List.map_map
def jM:=@Nat.lt_of_lt_of_le
def jG:=@PySem.wpAny_call_entry
def jA:=@decide_eq_false
def jz:=@PySem.PassesOwn.never
def jq:=@PySem.Heap.size_push
def qJ:=@Nat.zero_le
def x6:=@List.getElem?_append_left
def zS:=@Ne.symm
def jO:=@List.lookup_cons
def xG:=@PySem.Heap.get?_update_self
def jL:=@Option.some.inj
def jy:=@PySem.wpAny_holding
def vo:=@List.getElem?_eq_getElem
def vn:=@PySem.wpAny_callSpecial?_slot
def jx:=@Nat.le_trans
def xp:=@List.mem_cons_self
def jX:=@Bool.and_eq_true
def vm:=@PySem.Heap.get?_update_other
def xF:=@of_decide_eq_true
def xE:=@List.append_assoc
def vR:=@Array.getElem?_toList
def vQ:=@List.mem_iff_getElem?
def jR:=@List.map_cons
def x5:=@Bool.false_eq_true
def xD:=@List.all_eq_true
def xC:=@PySem.wpAny_isInstance
def jJ:=@PySem.wpAny_field
def xc:=@PySem.wpAny_seqItems
def xP:=@List.getElem_mem
def xo:=@List.mem_range
def vk:=@List.length_range
def xO:=@List.mem_filter
def xN:=@List.append_nil
def jW:=@Nat.ne_of_gt
def vP:=@Nat.lt_succ_of_lt
def yh:=@List.length_replicate
def vh:=@List.nodup_cons
def Zu:=@List.take_append_getElem
def yg:=@PySem.Around.under_plainId
def vO:=@List.mem_flatMap
def xM:=@Nat.lt_irrefl
def xa:=@Sum.inl.inj
def yf:=@PySem.mem_of_lookup
def xZ:=@PySem.wpAny_standAt
def Je:=@PyProof.Rows.callWith_type1
def ye:=@PySem.Calls.spliced_cons
def yd:=@PySem.wpAny_setField_rec
def j9:=@PySem.wpAny_rule
def wj:=@List.forIn_cons
def yI:=@PySem.Heap.SameBut.update
def wP:=@Nat.lt_succ_self
def Jd:=@List.getD_eq_getElem?_getD
def yc:=@PySem.wpAny_truthy_bool
def XB:=@Array.getD_eq_getD_getElem?
def Qp:=@List.length_filter_le
def wO:=@List.forIn_nil
def Zt:=@Int.emod_lt_of_pos
def xY:=@beq_iff_eq
def wN:=@PySem.wpAny_attempt
def yH:=@PySem.wpAny_specialOf
def Qo:=@Nat.lt_of_le_of_lt
def Qn:=@List.filter_append
def XA:=@PySem.F.plainAttrs_list
def Xz:=@List.filter_cons_of_pos
def Z3:=@List.filter_cons_of_neg
def wy:=@PySem.F.plain_min_loop
def QY:=@List.exists_cons_of_ne_nil
def Z2:=@PySem.Calls.callWith_builtin
def xH:=@Nat.le_succ
def vV:=@PySem.wpAny_setField
def vU:=@List.nodup_nil
def yV:=@Nat.add_le_add_left
def wx:=@PySem.wpAny_updateSeq
def wu:=@List.find?_cons
def wt:=@Int.emod_nonneg
def Z1:=@PySem.F.slot_dict_get
def XT:=@PySem.F.slot_dict_itemiterator_next
def yU:=@PySem.wpAny_tupleItemsOf
def QX:=@PySem.F.slot_list_append
def QW:=@PySem.F.type_list_append
def XS:=@PySem.F.slot_dict_keyiterator_next
def QV:=@PySem.F.plainAttrs_dict
def yT:=@PySem.Calls.spliced_nil
def yS:=@List.pairwise_map
def yR:=@PySem.F.slot_tuple_hash
def vT:=@Nat.le_of_eq
def QU:=@Array.getElem?_eq_none
def vd:=@Int.le_refl
def XR:=@Array.getElem?_eq_some_iff
def ZZ:=@Array.forIn_toList
def ZY:=@decide_eq_true_iff
def ZX:=@PySem.wpAny_eqBool_tuple
def vS:=@PySem.wpAny_of_eq
def yQ:=@List.length_nil
def wq:=@PySem.wpAny_typeOf
def QT:=@PySem.Calls.evalArgs_plain
def yP:=@PySem.F.slot_zip_next
def QS:=@List.mem_of_mem_take
def ZW:=@PySem.wpAny_dictEntries
def ZV:=@List.nodup_append
def ZU:=@Nat.lt_of_succ_lt
def w9:=@List.any_cons
def QR:=@List.map_congr_left
def ZT:=@List.length_drop
def ZR:=@List.any_eq_true
def yO:=@PySem.Value.type.inj
def zb1:=@PyProof.Rows.F.plain_set_update_loop
def ZQ:=@PySem.wpAny_passesOwn
def ZP:=@Bool.eq_iff_iff
def ZO:=@PySem.F.slot_tuple_eq
def Yl:=@PySem.F.slot_tuple_iterator_next
def QQ:=@PySem.wpAny_setState_of
def QP:=@List.Sublist.refl
def XQ:=@List.replicate_succ'
def w8:=@PySem.wpAny_letGo
def yN:=@Nat.le_of_lt
def Yk:=@List.getElem?_take_of_lt
def QO:=@List.not_mem_nil
def QN:=@PySem.wpAny_askSetting
def QM:=@List.filter_cons
def Yj:=@PySem.F.slot_list_getattribute
def yM:=@Nat.zero_add
def yL:=@Int.le_trans
def XO:=@List.getElem_of_mem
def zb0:=@PyProof.Rows.slot_tuple_getitem
def Yi:=@PySem.F.args_dict_get_3
def ZN:=@Bool.not_true
def XN:=@PySem.Obj.data_mapFields
def QL:=@Option.map_some
def QK:=@PySem.wpAny_dictEpoch
def Yh:=@List.getElem?_set_self
def yK:=@PySem.wpAny_throw
def Yg:=@List.take_of_length_le
def Ye:=@PySem.F.entry_dict_get
def yJ:=@Prod.mk.inj
def XM:=@Nat.le_of_lt_succ
def XL:=@List.getElem?_inj
def ZM:=@List.map_nil
def Yd:=@PySem.F.slot_enumerate_next
def QJ:=@PySem.wpAny_tryCatch
def ZL:=@Int.zero_add
def Yc:=@List.getElem?_set_ne
def QI:=@PySem.wpAny_handled
def zbZ:=@List.perm_ext_iff_of_nodup
def Yb:=@List.filterMap_cons
def W9:=@PySem.F.plain_extend_loop
def W8:=@List.length_pos_iff
def W7:=@List.filter_sublist
def XJ:=@List.length_set
def XI:=@Nat.min_eq_left
def zbY:=@PySem.Calls.call_function_entry
def XH:=@List.nil_append
def zbX:=@List.mem_of_find?_eq_some
def zbW:=@PySem.F.args_tuple_add_2
def W6:=@List.getElem?_drop
def zgC:=@PyProof.Rows.F.entry_set_update_loop
def W5:=@List.zip_cons_cons
def ZK:=@Nat.mod_lt
def XG:=@Nat.mul_le_mul
def zbV:=@PySem.F.entry_tuple_add
def zbU:=@List.length_eq_zero_iff
def W4:=@PySem.F.args_zip_next_1
def W3:=@Option.isSome_map
def W1:=@List.flatMap_cons
def zbT:=@PySem.F.slot_tuple_add
def zbS:=@List.length_pos_of_mem
def XF:=@PySem.Paired.length
def W0:=@PySem.F.entry_zip_next
def WZ:=@Nat.le_add_right
def WY:=@PySem.F.entry_min_loop
def WW:=@List.nil_sublist
def zbR:=@PySem.Obj.isFreed_of_fields
def zbQ:=@PySem.F.type_dict_get
def zgB:=@PySem.F.args_dict_itemiterator_next_1
def WV:=@Bool.or_eq_true
def QH:=@PySem.Walks.list
def zbP:=@List.mem_iff_getElem
def XE:=@Nat.lt_trans
def zgA:=@PySem.F.args_dict_keyiterator_next_1
def WU:=@Nat.not_lt_zero
def zgz:=@PySem.F.entry_dict_itemiterator_next
def XD:=@Nat.succ_pos
def zbO:=@Int.add_le_add_right
def zbN:=@Nat.pow_le_pow_right
def XC:=@Int.add_zero
def zgy:=@PySem.F.entry_dict_keyiterator_next
def ZJ:=@Prod.ext
def zgx:=@PySem.F.args_tuple_iterator_next_1
def zgw:=@PySem.F.slot_dict_setdefault
def WT:=@List.take_zero
def zbM:=@List.mem_filterMap
def zgv:=@PySem.F.entry_tuple_iterator_next
def zbL:=@List.pairwise_cons
def zbK:=@List.find?_eq_none
def zbJ:=@List.map_replicate
def zgu:=@PySem.Calls.Name_function_global
def zgt:=@Int.fdiv_eq_ediv_of_nonneg
def zgs:=@Int.fmod_eq_emod_of_nonneg
def zgr:=@List.perm_append_singleton
def zbI:=@List.take_sublist
def zbH:=@PySem.Obj.cls_mapFields
def zbG:=@Option.some.injEq
def zbF:=@Array.toList_push
def zbE:=@List.foldl_append
def zgq:=@List.getElem?_zip_eq_some
def zgp:=@PySem.F.slot_dict_getitem
def zgo:=@List.drop_eq_getElem_cons
def zgn:=@List.mem_drop_iff_getElem
def zgm:=@PySem.F.plain_extend_loop
def zbD:=@List.getElem_inj
def zbC:=@List.cons_append
def zbB:=@Bool.not_eq_true
def zbA:=@List.ext_getElem
def zbz:=@List.flatMap_nil
def zby:=@List.of_mem_zip
def zbx:=@List.find?_some
def zbw:=@List.range_succ
def WS:=@Sum.inr.inj
def zbv:=@List.drop_zero
local macro_rules | `({$x:term,$xs:term,*})=>`(⟨$x,$xs,*⟩) | `(())=>`(by omega) | `(1e1)=>`(by decide) | `(1e2)=>`(by rfl) | `(1e3)=>`(by simp)
set_option hygiene false
local macro_rules|`(0#a)=>`((@pv _ 1 _ _ 1e2 (by first| exact Or.inl rfl | exact Or.inr (Or.inl rfl) | exact Or.inr (Or.inr rfl)) 1e1 1e1))
local macro_rules|`(0#b)=>`((@pv _ 0 _ _ 1e2 (by first| exact Or.inl rfl | exact Or.inr (Or.inl rfl) | exact Or.inr (Or.inr rfl)) 1e1 1e1))
local macro_rules|`(0#c)=>`((@pv _ 7 _ _ 1e2 (by first| exact Or.inl rfl | exact Or.inr (Or.inl rfl) | exact Or.inr (Or.inr rfl)) 1e1 1e1))
local macro_rules|`(0#d)=>`((λ_ _=>rfl))
local macro_rules|`(0#e)=>`((model X.prog X.w))
local macro_rules|`(0#f)=>`((@pv _ 2 _ _ 1e2 (by first| exact Or.inl rfl | exact Or.inr (Or.inl rfl) | exact Or.inr (Or.inr rfl)) 1e1 1e1))
local macro_rules|`(0#g)=>`((@za _ _ _ _ _ (@pv _ 3 _ _ 1e2 (by first| exact Or.inl rfl | exact Or.inr (Or.inl rfl) | exact Or.inr (Or.inr rfl)) 1e1 1e1) ze 1e2))
local macro_rules|`(0#h)=>`((λ_ _=>False))
local macro_rules|`(0#i)=>`((λvs H Q E h=>?_))
local macro_rules|`(0#j)=>`((zB X (own++fr) scope C { s2 with heap:=h3,toks:=s2.toks } H2 (D::U)))
local macro_rules|`(0#k)=>`((jV X ([x]++fr) scope x C { s2 with heap:=h3 } H2 (D::fp)))
local macro_rules|`(0#l)=>`((compEnvC scope (qX X.env.cells scope.names []) C X.env))
local macro_rules|`(0#m)=>`((.ref s.heap.objs.size))
local macro_rules|`(0#n)=>`((model f w))
local macro_rules|`(0#o)=>`((λq=>hc (by simp[q])))
local macro_rules|`(0#p)=>`((Addr×Obj))
local macro_rules|`(0#q)=>`((@pv _ 6 _ _ 1e2 (by first| exact Or.inl rfl | exact Or.inr (Or.inl rfl) | exact Or.inr (Or.inr rfl)) 1e1 1e1))
local macro_rules|`(0#r)=>`((@pv _ 5 _ _ 1e2 (by first| exact Or.inl rfl | exact Or.inr (Or.inl rfl) | exact Or.inr (Or.inr rfl)) 1e1 1e1))
local macro_rules|`(0#s)=>`((@pv _ 4 _ _ 1e2 (by first| exact Or.inl rfl | exact Or.inr (Or.inl rfl) | exact Or.inr (Or.inr rfl)) 1e1 1e1))
local macro_rules|`(0#t)=>`((k==NameKind.free&&f.scope.kind==.function&&f.kindOf n==some .cell))
local macro_rules|`(0#u)=>`((qA (K:=K) rfl))
local macro_rules|`(0#v)=>`((λ_ _ _ _=>jd))
local macro_rules|`(0#w)=>`((model e w))
local macro_rules|`(0#x)=>`((zw X.prog X.w))
local macro_rules|`(0#y)=>`((List Int))
local macro_rules|`(0#z)=>`((Or.inl rfl))
local macro_rules|`(0#A)=>`((@zu _ _ _ _ _ _ _ zF 0#a zf 0#d))
local macro_rules|`(0#B)=>`((zu zF (pv 0) zf 0#d))
local macro_rules|`(0#C)=>`((model o w))
local macro_rules|`(0#D)=>`((zB X (own++fr) scope C { s2 with heap:=h3,toks:=s2.toks } (upd H2 D (mk D)) fp))
local macro_rules|`(0#E)=>`((@vK _ _ _ _ (@JT _ _ _ _ _ _ _ _ _ _ _ _ zcL Y1 zf (@zu _ _ _ _ _ _ _ zF 0#f zf 0#d) (@zr _ _ _ _ _ _ _ _ _ zC rfl B.len boot_len (@za _ _ _ _ _ (@zu _ _ _ _ _ _ _ zF 0#b zf 0#d) ze 1e2) 1e1 1e1 1e2 1e2) (by with_unfolding_all rfl))))
local macro_rules|`(0#F)=>`((za (pv 0) (za zf ze)))
local macro_rules|`(0#G)=>`((e.2.1+zQ e.1.2 (gate J),e.2.2))
local macro_rules|`(0#H)=>`((@za _ _ _ _ _ (@y6 _ _ (.ty "tuple") _ _ rfl B.tuple ja rfl 1e1 1e1) ze 1e2))
local macro_rules|`(0#I)=>`((upd (upd O W (dP P w W oW [])) tk (.tup (C.map V.str))))
local macro_rules|`(0#J)=>`((model Y.prog Y.w))
local macro_rules|`(0#K)=>`((za (pv 1) ze))
local macro_rules|`(0#L)=>`((decide (o∈zL t)&&!decide (o∈zL st.2.1)))
local macro_rules|`(0#M)=>`((dTr P w W o' [(t3K ([],[],gate J),k1,0,t)]))
local macro_rules|`(0#N)=>`((wN (vn (name:=Str.ofString "__next__") hT yP (jG yP hT W0 ?_ (W4 _)))))
local macro_rules|`(0#O)=>`((s.heap.objs.size+1))
local macro_rules|`(0#P)=>`((@zp _ _ _ (@zJ _ _ _ _ wB)))
local macro_rules|`(0#Q)=>`((I.ok.hd hc))
local macro_rules|`(0#R)=>`((upS own.length js σ))
local macro_rules|`(0#S)=>`((qI I q 1e3))
local macro_rules|`(0#T)=>`((@pv _ 11 _ _ 1e2 (by first| exact Or.inl rfl | exact Or.inr 0#z | exact Or.inr (Or.inr rfl)) 1e1 1e1))
local macro_rules|`(tactic|fail"a")=>`(tactic|(refine{λi m f o=>m=xs.length-i/\i<=xs.length/\Pv i f o,{_,rfl,qJ _,h0},?_}))
local macro_rules|`(tactic|fail"b")=>`(tactic|(refine{λi m σ H=>m=xs.length-i/\i<=xs.length/\Pv i σ H,{xs.length,1e3,qJ _,h0},?_}))
local macro_rules|`(tactic|fail"c")=>`(tactic|(obtain⟨a,rfl,D⟩:=vt e;obtain⟨b,rfl,hb⟩:=vt o;refine{_,(zp (zJ (zr (QE rfl) rfl B.max Xt (za (zr wL rfl B.abs wM (za (zE yw 0#B (zu zF (pv 1) zf 0#d)) ze)) (za (zr wL rfl B.abs wM (za (zE yw 0#B (zu zF (pv 1) zf 0#d)) ze)) ze))))),?_}))
local macro_rules|`(tactic|omega)=>`(tactic|lia)
namespace L2
open PySem PySem.Spec PyProof.Rows
theorem bG100000:100000<sizeLine:=by rw[sizeLine_eq];decide
theorem bG1000000:1000000<sizeLine:=by rw[sizeLine_eq];decide
theorem bG100:100<sizeLine:=by rw[sizeLine_eq];decide
theorem bGe:(2:Int)^62=4611686018427387904:=1e1
abbrev Key:=Sum Int Str
def Xh:Key->Value->Bool
 | .inl k,v=>Value.isInt k v
 | .inr x,v=>Value.isStrOf x v
def zlm(w:World):Key->Int
 | .inl k=>hashInt k
 | .inr x=>hashStr w x
theorem jm:∀{k:Key} {v:Value},Xh k v=true->(∃i t,k=Sum.inl i/\v=Value.int i t)\/(∃x t,k=Sum.inr x/\v=Value.str x t)
 | .inl i,v,h=>by
  obtain⟨t,e⟩:=Value.isInt_shape (k:=i) (v:=v) h;exact .inl ⟨i,t,rfl,e⟩
 | .inr x,v,h=>by
  obtain⟨t,e⟩:=Value.isStrOf_shape (x:=x) (v:=v) h;exact .inr ⟨x,t,rfl,e⟩
theorem zd7(i:Int)(t:Tok):Xh (.inl i) (.int i t)=true:=by simp[Xh,Value.isInt]
theorem zd6(x:Str)(t:Tok):Xh (.inr x) (.str x t)=true:=by simp[Xh,Value.isStrOf]
theorem zjF(a b:Int):decide ((Sum.inl a:Key)=Sum.inl b)=(a==b):=by
 by_cases e:a=b
 .subst e;simp
 .have h:¬(Sum.inl a:Key)=Sum.inl b:=λq=>e (xa q)
  rw[jA h];exact(beq_eq_false_iff_ne.mpr e).symm
theorem zjC(a b:Str):decide ((Sum.inr a:Key)=Sum.inr b)=decide (a=b):=by
 by_cases e:a=b
 .subst e;simp
 .have h:¬(Sum.inr a:Key)=Sum.inr b:=λq=>e (WS q)
  rw[jA h,jA e]
theorem zjE(a:Int)(b:Str):decide ((Sum.inl a:Key)=Sum.inr b)=false:=jA (λq=>nomatch q)
theorem zjD(a:Str)(b:Int):decide ((Sum.inr a:Key)=Sum.inl b)=false:=jA (λq=>nomatch q)
def zw(f:Program)(w:World):PySem.KeyKind f w Key where
 is:=Xh
 hash:=zlm w
 inj:=λv a b A hb=>by
  rcases jm A with ⟨i,t,rfl,rfl⟩ | ⟨x,t,rfl,rfl⟩
  .rcases jm hb with ⟨j,u,rfl,e⟩ | ⟨y,u,rfl,e⟩
   .injection e with e1 _;rw[e1]
   .exact nomatch e
  .rcases jm hb with ⟨j,u,rfl,e⟩ | ⟨y,u,rfl,e⟩
   .exact nomatch e
   .injection e with e1 _;rw[e1]
 byValue:=λk v h=>by
  rcases jm h with ⟨i,t,rfl,rfl⟩ | ⟨x,t,rfl,rfl⟩<;>rfl
 pyHash:=λo h=>by
  rcases jm o with ⟨i,t,rfl,rfl⟩ | ⟨x,t,rfl,rfl⟩
  .exact wpAny_pyHash_int h
  .exact wpAny_pyHash_str h
 eqBool:=λhu o h=>by
  rcases jm hu with ⟨i,t,rfl,rfl⟩ | ⟨x,t,rfl,rfl⟩
  .rcases jm o with ⟨j,u,rfl,rfl⟩ | ⟨y,u,rfl,rfl⟩
   .rw[zjF] at h;exact wpAny_eqBool_int h
   .rw[zjE] at h;exact SeqAt.EqAt.int_str i t y u _ _ _ _ h
  .rcases jm o with ⟨j,u,rfl,rfl⟩ | ⟨y,u,rfl,rfl⟩
   .rw[zjD] at h;exact SeqAt.EqAt.str_int x t j u _ _ _ _ h
   .rw[zjC] at h;exact wpAny_eqBool_str h
 «strs»:=λk x t v h=>by
  rcases jm h with ⟨i,u,rfl,e⟩ | ⟨y,u,rfl,e⟩
  .exact nomatch e
  .injection e with e1 _
   subst e1;cases v<;>rfl
theorem zbb(e:Program)(w:World)(k:Key)(v:Value):(zw e w).is k v=Xh k v:=rfl
theorem Y7(e:Program)(w:World)(i:Int)(t:Tok):(zw e w).is (.inl i) (.int i t)=true:=zd7 i t
theorem Y6(e:Program)(w:World)(x:Str)(t:Tok):(zw e w).is (.inr x) (.str x t)=true:=zd6 x t
inductive V where
 | non | bl (b:Bool) | int (i:Int) | str (x:Str) | byt (b:Array UInt8) | flt (b:UInt64) | ref (a:Addr) | ty (n:String)
 deriving DecidableEq
def RelV:V->Value->Prop
 | .non,u=>u=Value.none
 | .bl b,u=>u=Value.bool b
 | .int i,u=>∃t,u=Value.int i t
 | .str x,u=>∃t,u=Value.str x t
 | .byt b,u=>∃t,u=Value.bytes b t
 | .flt b,u=>∃t,u=Value.float b t
 | .ref a,u=>u=Value.ref a
 | .ty n,u=>u=Value.type n
abbrev Vals:List V->List Value->Prop:=Paired RelV
theorem Vals.length{f:List V}{e:List Value}(r:Vals f e):f.length=e.length:=XF r
theorem Vals.get:∀{o:List V} {f:List Value} {i:Nat} {x:V},Vals o f->o[i]? =some x->∃u,f[i]? =some u/\RelV x u
 | _,_,_,_,.nil,e=>by simp at e
 | _,_,0,_,.cons r _,e=>by simp at e;subst e;exact{_,rfl,r}
 | _,_,i+1,x,.cons _ t,e=>by
  obtain⟨u,h1,h2⟩:=Vals.get (i:=i) (x:=x) t (by simpa using e)
  exact{u,by simpa using h1,h2}
theorem Vals.set{x:V}{u:Value}(r:RelV x u):∀{f:List V} {e:List Value} (i:Nat),Vals f e->Vals (f.set i x) (e.set i u)
 | _,_,_,.nil=>.nil
 | _,_,0,.cons _ t=>.cons r t
 | _,_,i+1,.cons q t=>.cons q (Vals.set r i t)
theorem Vals.append:∀{o u:List V} {e f:List Value},Vals o e->Vals u f->Vals (o++u) (e++f)
 | _,_,_,_,.nil,s=>s
 | _,_,_,_,.cons r t,s=>.cons r (Vals.append t s)
theorem Vals.take:∀{f:List V} {e:List Value} (n:Nat),Vals f e->Vals (f.take n) (e.take n)
 | _,_,0,_=>.nil
 | _,_,_+1,.nil=>.nil
 | _,_,n+1,.cons r t=>.cons r (Vals.take n t)
theorem Vals.drop:∀{f:List V} {e:List Value} (n:Nat),Vals f e->Vals (f.drop n) (e.drop n)
 | _,_,0,r=>r
 | _,_,_+1,.nil=>.nil
 | _,_,n+1,.cons _ t=>Vals.drop n t
def RelO:Option V->Option Value->Prop
 | some v,some u=>RelV v u
 | none,none=>True
 | _,_=>False
def KV{κ:Type}:List (κ×V)->List (κ×Value)->Prop:=Paired λ(p:κ×V) (q:κ×Value)=>p.1=q.1/\RelV p.2 q.2
def kV:Key->V
 | .inl i=>.int i
 | .inr x=>.str x
inductive HO where
  | lst (w:List V)
  | tup (w:List V)
  | dK (e:List (Key×V)) | dT (e:List (List Key×V))
  | set (S:Int->Bool) (n:Nat)
  | ins (C A:Addr) (t:List (Str×V))
  | own (x:Addr)
  | xd (t:List (Str×V))
  | met (f x:Addr)
  | rng (lo B:Int)
  | frz (o:Obj) (u:HO)
  | tbl (D:Array Value)
  | ext (φ:Heap->Prop)
abbrev Hp:=Addr->Option HO
def upd(H:Hp)(a:Addr)(o:HO):Hp:=λb=>if b=a then some o else H b
theorem zd{H:Hp}{a:Addr}{o:HO}:upd H a o a=some o:=by unfold upd;rw[zt rfl]
theorem zj{H:Hp}{a b:Addr}{o:HO}(h:b≠a):upd H a o b=H b:=by unfold upd;rw[zq h]
theorem zcO{H:Hp}{a b:Addr}{o u:HO}(h:H a=some o)(f:H b=some u)(d:o≠u):a≠b:=by
 intro e;subst e;rw[h] at f;exact d (jL f)
theorem zk{H:Hp}{a b:Addr}{o:HO}(h:H a=some o)(f:H b=none):a≠b:=by
 intro e;subst e;rw[h] at f;cases f
section
variable(P:Program)(w:World)
def TupX(h:Heap)(a:Addr)(e:Array Value):Prop:=IsTup h a e/\∃o,h.get? a=some o/\o.dict=none
theorem TupX.by{h:Heap}{a:Addr}{f:Array Value}{n:Nat}(e:h.get? a=some { cls:=.type "tuple",data:=.seq f n }):TupX h a f:={{_,e,rfl,n,rfl},_,e,rfl}
def ObjOk(H:Hp)(h:Heap)(a:Addr):HO->Prop
 | .lst B=>B.length<=sizeLine/\∃(e:List Value) (n:Nat),Vals B e/\h.get? a=some { cls:=.type "list",data:=.seq e.toArray n }
 | .tup B=>B.length<=sizeLine/\∃e:List Value,Vals B e/\TupX h a e.toArray
 | .dK A=>A.length<=sizeLine/\(a==sysModules)=false/\∃J,KV A J/\h.DictOf (zw P w) a J
 | .dT A=>A.length<=sizeLine/\(a==sysModules)=false/\∃B:List (List Key×Addr×Value),
   Paired (λ(p:List Key×V) (q:List Key×Addr×Value)=>p.1=q.1/\H q.2.1=some (.tup (p.1.map kV))/\RelV p.2 q.2.2) A B /\
   ∃o I L,h.get? a=some o/\o.ExactDict/\o.data=.dict I L/\I.toList=B.map (entryOfKey (tupleKind (zw P w)))/\(B.map (·.1)).Nodup
 | .set S n=>h.SetOf (intKind P w) a S n
 | .ins C G E=>H G=some (.own a)/\E.length<=1000/\G≠a/\h.get? a=some (PySem.W.instObj C G) /\
   ∃D,h.Ns1 G D/\(∀f,RelO (E.lookup f) (D f))/\PySem.Within D (E.map (·.1))
 | .own _=>∃o,h.get? a=some o
 | .xd E=>∃D,h.Ns1 a D/\∀f,RelO (E.lookup f) (D f)
 | .rng lo M=>∃t u v,h.get? a=some { cls:=.type "range",data:=.fields #[.int lo t,.int M u,.int 1 v] }
 | .frz o u=>h.get? a=some o/\ObjOk H h a u
 | .tbl N=>h.get? a=some { cls:=.none,data:=.fields N }
 | .met f x=>h.get? a=some (PySem.W.methodObj (.ref f) (.ref x))
 | .ext φ=>φ h/\(∃o,h.get? a=some o)/\∀h1 h2:Heap,φ h1->(∀o,h1.get? a=some o->h2.get? a=some o)->φ h2
def HOk(H:Hp)(h:Heap):Prop:=∀a o,H a=some o->ObjOk P w H h a o
end
section
variable{P:Program}{w:World}{H A:Hp}{h h':Heap}{a:Addr}{o:HO}
theorem ObjOk.lt(x:ObjOk P w H h a o):a<h.objs.size:=by
 cases o with
 | lst D=>obtain⟨_,_,_,_,e⟩:=x;exact zK e
 | tup D=>obtain⟨_,_,_,p⟩:=x;exact p.1.lt
 | dK t=>obtain⟨_,_,_,_,o,_,_,e,_⟩:=x;exact zK e
 | dT t=>obtain⟨_,_,_,_,o,_,_,e,_⟩:=x;exact zK e
 | set S n=>obtain⟨o,_,_,_,e,_⟩:=x;exact zK e
 | ins C E B=>obtain⟨_,_,_,e,_⟩:=x;exact zK e
 | own y=>obtain⟨_,e⟩:=x;exact zK e
 | xd B=>obtain⟨_,⟨_,_,_,e,_⟩,_⟩:=x;exact zK e
 | rng lo G=>obtain⟨_,_,_,e⟩:=x;exact zK e
 | frz I u=>obtain⟨e,_⟩:=x;exact zK e
 | tbl J=>exact zK (show h.get? a=some _ from x)
 | met f y=>exact zK (show h.get? a=some _ from x)
 | ext φ=>obtain⟨_,⟨_,e⟩,_⟩:=x;exact zK e
theorem Paired.mapP{α β:Type}{F G:α->β->Prop}:∀{e:List α} {u:List β},Paired F e u->(∀a b,F a b->G a b)->Paired G e u
 | _,_,.nil,_=>.nil
 | _,_,.cons r t,f=>.cons (f _ _ r) (Paired.mapP t f)
theorem ObjOk.stay(x:ObjOk P w H h a o)(k:∀b u,(b=a\/H b=some (.own a))->h.get? b=some u->h'.get? b=some u)
  (U:∀b,H b=some (.own a)->A b=some (.own a)) (Y:∀b I,H b=some (.tup I)->A b=some (.tup I)):ObjOk P w A h' a o:=by
 induction o with
 | lst I=>obtain⟨z,G,n,r,e⟩:=x;exact{z,G,n,r,k _ _ (.inl rfl) e}
 | tup I=>obtain⟨z,G,r,⟨B,e,c⟩,o2,e2,O⟩:=x;exact{z,G,r,{B,k _ _ (.inl rfl) e,c},o2,k _ _ (.inl rfl) e2,O}
 | dK J=>obtain⟨z,y,vs,r,B,E,D,e,c⟩:=x;exact{z,y,vs,r,B,E,D,k _ _ (.inl rfl) e,c}
 | dT J=>
  obtain⟨z,y,I,r,B,E,D,e,c⟩:=x;exact{z,y,I,Paired.mapP r λp q z=>{z.1,Y _ _ z.2.1,z.2.2},B,E,D,k _ _ (.inl rfl) e,c}
 | set S n=>obtain⟨B,E,D,t,e,c⟩:=x;exact{B,E,D,t,k _ _ (.inl rfl) e,c}
 | ins C dx Q=>
  obtain⟨d,z,ne,e,L,⟨M,E,D,e2,c⟩,r⟩:=x;exact{U _ d,z,ne,k _ _ (.inl rfl) e,L,{M,E,D,k _ _ (.inr d) e2,c},r}
 | own y=>obtain⟨B,e⟩:=x;exact{B,k _ _ (.inl rfl) e}
 | xd Q=>obtain⟨L,⟨M,E,D,e,c⟩,r⟩:=x;exact{L,{M,E,D,k _ _ (.inl rfl) e,c},r}
 | rng lo hi=>obtain⟨t,u,v,e⟩:=x;exact{t,u,v,k _ _ (.inl rfl) e}
 | frz B u ih=>obtain⟨e,q⟩:=x;exact{k _ _ (.inl rfl) e,ih q}
 | tbl N=>
  have e:h.get? a=some { cls:=.none,data:=.fields N }:=x;show h'.get? a=some { cls:=.none,data:=.fields N };exact k a _ (.inl rfl) e
 | met f y=>
  have e:h.get? a=some (PySem.W.methodObj (.ref f) (.ref y)):=x;show h'.get? a=some (PySem.W.methodObj (.ref f) (.ref y));exact k a _ (.inl rfl) e
 | ext φ=>obtain⟨p,⟨o,e⟩,st⟩:=x;exact{st _ _ p λo q=>k _ _ (.inl rfl) q,{o,k _ _ (.inl rfl) e},st}
theorem HOk.lt(x:HOk P w H h)(e:H a=some o):a<h.objs.size:=(x a o e).lt
theorem HOk.fresh(x:HOk P w H h)(e:h.objs.size<=a):H a=none:=by
 cases q:H a with
 | none=>rfl
 | some u=>exact absurd (jM (x.lt q) e) (xM _)
theorem HOk.kept(x:HOk P w H h)(k:∀b u,h.get? b=some u->h'.get? b=some u):HOk P w H h':=λa o e=>
 (x a o e).stay (λb u _ q=>k b u q) (λ_ q=>q) λ_ _ q=>q
theorem HOk.laid(x:HOk P w H h)(k:∀b u,h.get? b=some u->h'.get? b=some u)(hp:h.objs.size<=a)(f:ObjOk P w (upd H a o) h' a o):HOk P w (upd H a o) h':=λb u e=>by
 have t:=x.fresh hp;by_cases hb:b=a
 .subst hb;rw[zd] at e;cases e;exact f
 .rw[zj hb] at e
  exact(x b u e).stay (λc v _ q=>k c v q) (λc q=>by rw[zj (zk q t)];exact q) λc B q=>by rw[zj (zk q t)];exact q
end
def Rd(H:Hp)(a:Addr)(u:HO):Prop:=H a=some u\/∃o,H a=some (.frz o u)
theorem Rd.ok{P:Program}{w:World}{H:Hp}{h:Heap}{a:Addr}{u:HO}(r:Rd H a u)(x:HOk P w H h):ObjOk P w H h a u:=by
 rcases r with r | ⟨o,r⟩
 .exact x a u r
 .obtain⟨_,q⟩:=x a _ r
  exact q
def Mut:Option HO->Prop
 | some (.lst _)=>True
 | some (.dK _)=>True
 | some (.dT _)=>True
 | some (.set _ _)=>True
 | some (.ins _ _ _)=>True
 | some (.ext _)=>True
 | _=>False
section
variable{P:Program}{w:World}{H:Hp}{h f:Heap}{x e:Addr}{o:HO}
theorem HOk.write(ok:HOk P w H h)(C:Mut (H x))(I:e=x\/H e=some (.own x))(k:∀b u,b≠e->h.get? b=some u->f.get? b=some u)(E:∃u,f.get? e=some u)
  (G:ObjOk P w (upd H x o) f x o):HOk P w (upd H x o) f:=λb u q=>by
 have A:∀c y,H c=some (.own y)->c≠x:=λc y r z=>by subst z;rw[r] at C;exact C
 have B:∀c D,H c=some (.tup D)->c≠x:=λc D r z=>by subst z;rw[r] at C;exact C
 by_cases hb:b=x
 .subst hb;rw[zd] at q;cases q;exact G
 .rw[zj hb] at q
  by_cases t:b=e
  .have J:H b=some (.own x):=by
    rcases I with z | z
    .exact absurd (t.trans z) hb
    .rw[t];exact z
   rw[q] at J;cases J
   obtain⟨v,L⟩:=E;exact{v,by rw[t];exact L}
  .refine(ok b u q).stay (λc v hc r=>k c v ?_ r) (λc r=>by rw[zj (A c b r)];exact r) λc D r=>by rw[zj (B c D r)];exact r
   rcases hc with rfl | hc
   .exact t
   .rintro rfl
    rcases I with z | z
    .exact A c b hc z
    .rw[hc] at z;cases z;exact hb rfl
end
structure Un(fs ex:List Addr)(H H':Hp)(h h':Heap):Prop where
 keep:∀b o,h.get? b=some o->H b=none->b∉fs->b∉ex->h'.get? b=some o
 slot:∀b o,h.get? b=some o->H b=none->b∈fs->b∉ex->∃sl,h'.get? b=some { o with slots:=sl }
 free:∀b o,h.get? b=some o->H b=none->b∉ex->H' b=none
 there:∀b o,h.get? b=some o->b∉ex->∃o',h'.get? b=some o'
 tups:∀b xs,H b=some (.tup xs)->H' b=some (.tup xs)
 frzs:∀b o u,H b=some (.frz o u)->H' b=some (.frz o u)
 tbls:∀b ps,H b=some (.tbl ps)->∃more,H' b=some (.tbl (ps++more))
section
variable{t B f A:List Addr}{H w C:Hp}{h h1 h2 h':Heap}{a x e:Addr}{o:HO}
theorem Un.any(u:Un t f H w h h1){b:Addr}{D:Obj}(q:h.get? b=some D)(n:H b=none)(hx:b∉f):∃E,h1.get? b=some { D with slots:=E }:=by
 by_cases hb:b∈t
 .exact u.slot b D q n hb hx
 .exact{D.slots,u.keep b D q n hb hx}
theorem Un.trans(a:Un t f H w h h1)(b:Un t f w C h1 h2):Un t f H C h h2 where
 keep:=λc u q n hc hx=>b.keep c u (a.keep c u q n hc hx) (a.free c u q n hx) hc hx
 slot:=λc u q n hc hx=>by
  obtain⟨L,e1⟩:=a.slot c u q n hc hx;obtain⟨E,e2⟩:=b.slot c _ e1 (a.free c u q n hx) hc hx;exact⟨E,e2⟩
 free:=λc u q n hx=>by
  obtain⟨D,e1⟩:=a.there c u q hx;exact b.free c D e1 (a.free c u q n hx) hx
 there:=λc u q hx=>by
  obtain⟨D,e1⟩:=a.there c u q hx;exact b.there c D e1 hx
 tups:=λc xs q=>b.tups c xs (a.tups c xs q)
 frzs:=λc u xs q=>b.frzs c u xs (a.frzs c u xs q)
 tbls:=λc J q=>by
  obtain⟨G,e1⟩:=a.tbls c J q;obtain⟨I,e2⟩:=b.tbls c _ e1;exact{G++I,by rw[e2,Array.append_assoc]}
theorem Un.kept(k:∀b u,h.get? b=some u->h'.get? b=some u):Un t f H H h h':=
 {λb D q _ _ _=>k b D q,λb D q _ _ _=>{D.slots,k b D q},λ_ _ _ n _=>n,λb D q _=>{D,k b D q},λ_ _ q=>q,λ_ _ _ q=>q,λ_ E q=>{#[],by rw[q];simp}}
theorem Un.refl:Un t f H H h h:=Un.kept λ_ _ q=>q
theorem Un.laid(k:∀b u,h.get? b=some u->h'.get? b=some u)(hp:h.objs.size<=a)(D:H a=none):Un t f H (upd H a o) h h' where
 keep:=λb u q _ _ _=>k b u q
 slot:=λb u q _ _ _=>{u.slots,k b u q}
 free:=λb u q n _=>by rw[zj (zN (jM (zK q) hp))];exact n
 there:=λb u q _=>{u,k b u q}
 tups:=λb E q=>by rw[zj (zk q D)];exact q
 frzs:=λb u E q=>by rw[zj (zk q D)];exact q
 tbls:=λb G q=>{#[],by rw[zj (zk q D),q];simp}
theorem Un.write(E:Mut (H x))(I:e=x\/H e=some (.own x))(k:∀b u,b≠e->h.get? b=some u->h'.get? b=some u)(G:∃u,h'.get? e=some u):Un t f H (upd H x o) h h':=by
 have hx:∀b,H b=none->b≠x:=λb n z=>by subst z;rw[n] at E;exact E
 have hb:∀b,H b=none->b≠e:=λb n z=>by
  subst z;rcases I with r | r
  .exact hx b n r
  .rw[n] at r;cases r
 have hm:∀b u,H b=some u->¬Mut (some u)->b≠x:=λb u q J z=>by subst z;rw[q] at E;exact J E
 refine{λb u q n _ _=>k b u (hb b n) q,λb u q n _ _=>{u.slots,k b u (hb b n) q},λb u q n _=>by rw[zj (hx b n)];exact n,λb u q _=>?_,
  λb L q=>by rw[zj (hm b _ q λz=>z)];exact q,λb u L q=>by rw[zj (hm b _ q λz=>z)];exact q,λb M q=>{#[],by rw[zj (hm b _ q λz=>z),q];simp}}
 by_cases D:b=e
 .subst D;exact G
 .exact{u,k b u D q}
theorem Un.mono(u:Un t f H w h h1)(G:∀b∈t,b∈B)(hx:∀b∈f,b∈A):Un B A H w h h1:=
 {λb E q n hb D=>u.keep b E q n (λz=>hb (G b z)) λz=>D (hx b z),λ_ _ q n _ D=>u.any q n λz=>D (hx _ z),λb E q n D=>u.free b E q n λz=>D (hx b z),λb E q D=>u.there b E q λz=>D (hx b z),u.tups,u.frzs,u.tbls}
end
def trk(h:Heap)(H:Hp):List Addr:=(List.range h.objs.size).filter λa=>(H a).isSome
def WA(h:Heap)(H:Hp):Heap:=PySem.W.hideAll h (trk h H)
theorem zea(h:Heap)(H:Hp):(WA h H).objs.size=h.objs.size:=PySem.W.hideAll_size _ _
theorem zf8{h:Heap}{H:Hp}{b:Addr}{o:Obj}(e:h.get? b=some o)(n:H b=none):(WA h H).get? b=some o:=
 PySem.W.hideAll_get _ e λhm=>by
  have q:(H b).isSome=true:=(xO.mp hm).2;rw[n] at q;simp at q
theorem zhv{h:Heap}{H:Hp}{b:Addr}{o:Obj}(e:(WA h H).get? b=some o):h.get? b=some o/\H b=none:=by
 have f:h.get? b=some o:=PySem.W.of_hideAll (trk h H) e;refine{f,?_}
 cases q:H b with
 | none=>rfl
 | some x=>
  have hm:b∈trk h H:=xO.mpr {xo.mpr (zK f),by simp[q]}
  have z:(WA h H).get? b=none:=PySem.W.hideAll_none (trk h H) hm;rw[z] at e;cases e
def zh0(g h:Heap)(L:Addr):List 0#p:=(List.range h.objs.size).filterMap λa=>if a=L\/(g.get? a).isSome=true then none else(h.get? a).map λo=>(a,o)
def rest(g h:Heap)(L d:Addr):List 0#p:=(zh0 g h L).filter λp=>decide (p.1≠d)
structure Mod(K:W.Frag)(mg:Str->Option Value)(base:Heap):Prop where
 kin:K.In base
 glob:base.Ns mainGlobals mg
 blt:∃mb,base.Ns builtinsNs mb/\∀x:Str,x ≠ "__name__" -> mb x=bootBuiltins x
 nolimit:base.NoLimit
structure Cx where
 prog:Program
 w:World
 K:PySem.W.Frag
 mg:Str->Option Value
 base:Heap
 A:Around
 N:List Str
 s₀:Shared
 H₀:Hp
 env:Env
 outer:List Env
 stack:List Env
 ex:List Addr
 fn:Str->Bool
 calm:Bool
 pn:List 0#p
 xe:Value->Shared->Prop
def frs(l:List Env):List Addr:=l.filterMap (·.frame)
abbrev Cx.fs(X:Cx):List Addr:=frs X.outer
def Vis(e:Scope)(x:Str):Prop:=e.names.lookup x=some .local\/e.names.lookup x=some .cell\/e.names.lookup x=some .free
def Loc(e:Scope)(x:Str):Prop:=e.names.lookup x=some .local\/e.names.lookup x=some .cell
def zlt(e:Env)(h:Heap)(m:Str->Option Value)(x:Str)(u:Value):Prop:=
 (e.kindOf x=some .local/\m x=some u)\/((e.kindOf x=some .cell\/e.kindOf x=some .free)/\∃c,e.cells.lookup x=some c/\h.IsCell c (some u))
structure Cx.Ok(X:Cx):Prop where
 mod:Mod X.K X.mg X.base
 kind:X.env.scope.kind=.function
 glob:X.env.globals=mainGlobals
 blt:X.env.builtins=builtinsNs
 above:X.s₀.heap.objs.size<=X.env.locals
 inj:∀x y c,X.env.cells.lookup x=some c->X.env.cells.lookup y=some c->x=y
 has:∀x,(X.env.kindOf x=some .cell\/X.env.kindOf x=some .free)->∃c,X.env.cells.lookup x=some c
 cab:∀x c,X.fn x=true->X.env.cells.lookup x=some c->X.s₀.heap.objs.size<=c
 hd:X.calm=true->X.A.handled=none
 frames:X.A.frames=some X.stack
 stk:X.stack=X.outer\/(X.stack=X.env::X.outer/\X.env.frame=some X.env.locals)
 exf:∀b∈X.ex,b≠X.env.locals/\∀x c,X.env.cells.lookup x=some c->c≠b
 bs:∀b o,X.base.get? b=some o->X.s₀.heap.get? b=some o/\X.H₀ b=none
 bsz:X.base.objs.size<=X.s₀.heap.objs.size
 noex:∀b o,X.base.get? b=some o->b∉X.ex
 exfs:∀b∈X.ex,b∉X.fs
 funs:X.s₀.heap.FunFrames X.base X.outer
 frf:∀b∈X.fs,X.H₀ b=none
structure Inv(X:Cx)(pins:List 0#p)(σ:List (Option V))(H:Hp)(s:Shared):Prop where
 ok:X.Ok
 os:s.os=X.s₀.os
 bare:AllBare s.gens
 base:Un X.fs X.ex X.H₀ H X.s₀.heap s.heap
 loc:∃m,s.heap.Ns X.env.locals m/\∀(i:Nat) (x:Str) (v:V),X.N[i]? =some x->σ[i]? =some (some v)->Vis X.env.scope x->∃u,RelV v u/\zlt X.env s.heap m x u
 cell:∀x c,X.env.cells.lookup x=some c->∃v,s.heap.IsCell c v
 free:H X.env.locals=none
 freeC:∀x c,X.env.cells.lookup x=some c->H c=none
 pin:∀p∈X.pn++pins,s.heap.get? p.1=some p.2/\H p.1=none/\p.1≠X.env.locals/\p.1∉X.fs/\∀v,p.2.data≠.cell v
 hok:HOk X.prog X.w H s.heap
 len:σ.length=X.N.length
section
variable{X:Cx}{f:List (Addr×Obj)}{σ:List (Option V)}{H B:Hp}{s:Shared}{h':Heap}
theorem Cx.Ok.nofr(ok:X.Ok){b:Addr}{o:Obj}(e:X.base.get? b=some o):b∉X.fs:=λhb=>by
 have:=(ok.funs.mem hb).1;rw[e] at this;cases this
theorem Inv.bs(I:Inv X f σ H s):∀b o,X.base.get? b=some o->s.heap.get? b=some o/\H b=none:=λb o e=>
 {I.base.keep b o (I.ok.bs b o e).1 (I.ok.bs b o e).2 (I.ok.nofr e) (I.ok.noex b o e),I.base.free b o (I.ok.bs b o e).1 (I.ok.bs b o e).2 (I.ok.noex b o e)}
theorem Inv.bk(I:Inv X f σ H s):∀b o,X.base.get? b=some o->s.heap.get? b=some o:=λb o e=>(I.bs b o e).1
theorem Inv.mod(I:Inv X f σ H s):Mod X.K X.mg X.base:=I.ok.mod
theorem Inv.kIn(I:Inv X f σ H s):X.K.In s.heap:=I.ok.mod.kin.keeps I.bk
theorem Inv.lt(I:Inv X f σ H s):X.env.locals<s.heap.objs.size:=let ⟨_,e,_⟩:=I.loc;e.lt
theorem Inv.sz(I:Inv X f σ H s):X.s₀.heap.objs.size<=s.heap.objs.size:=jx I.ok.above (yN I.lt)
theorem Inv.nofs(I:Inv X f σ H s){a:Addr}(h:s.heap.objs.size<=a):a∉X.fs:=λhb=>by
 obtain⟨_,o,e,_⟩:=I.ok.funs.mem hb;exact absurd (jM (zK e) (jx I.sz h)) (xM _)
theorem Inv.cne(I:Inv X f σ H s):∀x c,X.env.cells.lookup x=some c->c≠X.env.locals:=λx c e z=>by
 obtain⟨v,o,w,hd⟩:=I.cell x c e;obtain⟨m,⟨D,C,A,u,t,_⟩,_⟩:=I.loc;rw[z,u] at w;cases w;rw[t] at hd;cases hd
theorem Inv.funs(I:Inv X f σ H s):s.heap.FunFrames X.base X.outer:=by
 have all:∀(l:List Env),(∀b∈frs l,b∈X.fs)->X.s₀.heap.FunFrames X.base l->s.heap.FunFrames X.base l:=by
  intro l;induction l with
  | nil=>intro _ _;trivial
  | cons A r J=>
   intro w C;obtain⟨hk,⟨L,o,u,D,E,hd⟩,G⟩:=C;have t:L∈X.fs:=w L (by unfold frs;rw[Yb,u];exact xp)
   obtain⟨M,e⟩:=I.base.slot L o E (I.ok.frf L t) t λz=>I.ok.exfs L z t
   exact{hk,{L,_,u,D,e,hd},J (λb hb=>w b (by unfold frs;rw[Yb,u];exact jf _ hb)) G}
 exact all X.outer (λ_ hb=>hb) I.ok.funs
theorem Inv.stack(I:Inv X f σ H s):s.heap.FunFrames X.base X.stack:=by
 rcases I.ok.stk with e | ⟨e,o⟩
 .rw[e];exact I.funs
 .rw[e]
  obtain⟨m,t,_⟩:=I.loc;refine .cons (by rw[I.ok.kind];decide) o t ?_ I.funs
  exact Heap.get?_none_of_le (jx I.ok.bsz I.ok.above)
theorem Inv.stkSub(I:Inv X f σ H s):∀b∈frs X.stack,b∈X.env.locals::X.fs:=λb hb=>by
 rcases I.ok.stk with e | ⟨e,o⟩
 .rw[e] at hb;exact jf _ hb
 .rw[e] at hb
  unfold frs at hb;rw[Yb,o] at hb;exact hb
theorem Inv.stkFree(I:Inv X f σ H s):∀b∈frs X.stack,H b=none:=λb hb=>by
 rcases zP.mp (I.stkSub b hb) with e | hb
 .rw[e];exact I.free
 .obtain⟨_,o,t,_⟩:=I.ok.funs.mem hb
  exact I.base.free b o t (I.ok.frf b hb) λz=>I.ok.exfs b z hb
theorem Inv.step{g':Array GenState}{t':Nat}{d':Drawn}{ch:List Addr}(I:Inv X f σ H s)
  (A:∀b∈ch,(b∈X.ex\/X.s₀.heap.objs.size<=b)/\b≠X.env.locals/\(∀x c,X.env.cells.lookup x=some c->c≠b)/\∀p∈X.pn++f,p.1≠b)
  (C:∀b o,b≠X.env.locals->b∉X.fs->b∉ch->s.heap.get? b=some o->H b=none->h'.get? b=some o)
  (G:∀b o,b≠X.env.locals->b∈X.fs->b∉ch->s.heap.get? b=some o->H b=none->∃sl,h'.get? b=some { o with slots:=sl }) (t:∀b o,b∉ch->s.heap.get? b=some o->H b=none->B b=none)
  (L:∀b o,b∉ch->s.heap.get? b=some o->∃Q,h'.get? b=some Q)
  (Y:∀b J,H b=some (.tup J)->B b=some (.tup J)) (N:∀b o u,H b=some (.frz o u)->B b=some (.frz o u)) (U:∀b ps,H b=some (.tbl ps)->∃more,B b=some (.tbl (ps++more)))
  (ns:∀m,s.heap.Ns X.env.locals m->h'.Ns X.env.locals m) (aa:HOk X.prog X.w B h') (hg:AllBare g') :
  Inv X f σ B { s with heap:=h',gens:=g',drawn:=d',toks:=t' }:=by
 have O:∀b o,X.s₀.heap.get? b=some o->b≠X.env.locals:=λb o e=>zN (jM (zK e) I.ok.above)
 have E:∀b o,X.s₀.heap.get? b=some o->b∉X.ex->b∉ch:=λb o e hx hb=>by
  rcases(A b hb).1 with z | z
  .exact hx z
  .exact absurd (jM (zK e) z) (xM _)
 have w:∀x c,X.env.cells.lookup x=some c->∀v,s.heap.IsCell c v->h'.IsCell c v:=λx c e v ⟨o,M,hd⟩=>by
  have D:c∉ch:=λz=>(A c z).2.2.1 x c e rfl
  by_cases hc:c∈X.fs
  .obtain⟨sl,q⟩:=G c o (I.cne x c e) hc D M (I.freeC x c e)
   exact{_,q,hd}
  .exact{o,C c o (I.cne x c e) hc D M (I.freeC x c e),hd}
 refine{I.ok,I.os,hg,{λb o e n hb hx=>?_,λb o e n hb hx=>?_,λb o e n hx=>?_,λb o e hx=>?_,λb J e=>Y b J (I.base.tups b J e),λb o J e=>N b o J (I.base.frzs b o J e),λb ps e=>?_},?_,λx c e=>?_,?_,λx c e=>?_,λp hp=>?_,aa,I.len}
 .exact C b o (O b o e) hb (E b o e hx) (I.base.keep b o e n hb hx) (I.base.free b o e n hx)
 .obtain⟨sl,e1⟩:=I.base.slot b o e n hb hx
  obtain⟨ab,e2⟩:=G b _ (O b o e) hb (E b o e hx) e1 (I.base.free b o e n hx);exact⟨ab,e2⟩
 .obtain⟨Q,e1⟩:=I.base.there b o e hx
  exact t b Q (E b o e hx) e1 (I.base.free b o e n hx)
 .obtain⟨Q,e1⟩:=I.base.there b o e hx
  exact L b Q (E b o e hx) e1
 .obtain⟨m1,e1⟩:=I.base.tbls b ps e
  obtain⟨m2,e2⟩:=U b _ e1;exact{m1++m2,by rw[e2,Array.append_assoc]}
 .obtain⟨m,hn,hl⟩:=I.loc
  refine{m,ns m hn,λi x v e1 e2 e3=>?_}
  obtain⟨u,r,l⟩:=hl i x v e1 e2 e3;refine{u,r,?_}
  rcases l with l | ⟨k,c,e,z⟩
  .exact .inl l
  .exact .inr {k,c,e,w x c e _ z}
 .obtain⟨v,z⟩:=I.cell x c e
  exact{v,w x c e v z}
 .obtain⟨m,⟨o,_,_,M,_⟩,_⟩:=I.loc
  exact t _ o (λz=>(A _ z).2.1 rfl) M I.free
 .obtain⟨v,o,M,hd⟩:=I.cell x c e
  exact t c o (λz=>(A c z).2.2.1 x c e rfl) M (I.freeC x c e)
 .obtain⟨e,n,ne,nf,d⟩:=I.pin p hp
  have D:p.1∉ch:=λz=>(A p.1 z).2.2.2 p hp rfl
  exact{C p.1 p.2 ne nf D e n,t p.1 p.2 D e n,ne,nf,d}
theorem Inv.un{t':Nat}(I:Inv X f σ H s)(u:Un X.fs [] H B s.heap h')(C:HOk X.prog X.w B h'):Inv X f σ B { s with heap:=h',toks:=t' }:=by
 obtain⟨m,⟨o,N,M,D,r⟩,_⟩:=id I.loc;obtain⟨Y,E⟩:=u.any D I.free 1e3
 exact I.step (g':=s.gens) (d':=s.drawn) (ch:=[]) (λ_ z=>nomatch z) (λb o _ hb _ e n=>u.keep b o e n hb 1e3) (λb o _ hb _ e n=>u.slot b o e n hb 1e3) (λb o _ e n=>u.free b o e n 1e3) (λb o _ e=>u.there b o e 1e3) u.tups u.frzs u.tbls (λQ hm=>by
  obtain⟨U,A,w,t,G⟩:=hm;rw[D] at t;cases t
  exact{_,A,w,E,G}) C I.bare
theorem Inv.call{g':Array GenState}{t':Nat}{d':Drawn}{ch:List Addr}(I:Inv X f σ H s)(u:Un (frs X.stack) ch H B s.heap h')(E:HOk X.prog X.w B h')(J:AllBare g')
  (t:∀b∈ch,(b∈X.ex\/X.s₀.heap.objs.size<=b)/\b≠X.env.locals/\(∀x c,X.env.cells.lookup x=some c->c≠b)/\∀p∈X.pn++f,p.1≠b) :
  Inv X f σ B { s with heap:=h',gens:=g',drawn:=d',toks:=t' }:=by
 obtain⟨m,⟨o,N,M,G,r⟩,_⟩:=id I.loc;obtain⟨U,D⟩:=u.any G I.free λz=>(t _ z).2.1 rfl
 exact I.step (ch:=ch) t (λb o D hb hc e n=>u.keep b o e n (λz=>(zP.mp (I.stkSub b z)).elim D hb) hc) (λb o _ _ hc e n=>u.any e n hc) (λb o hc e n=>u.free b o e n hc) (λb o hc e=>u.there b o e hc) u.tups u.frzs u.tbls (λO hm=>by
  obtain⟨Q,C,A,w,L⟩:=hm;rw[G] at w;cases w
  exact{_,C,A,D,L}) E J
theorem Inv.turned{t':Nat}{it:Addr}(I:Inv X f σ H s)(k:∀b o,b≠it->s.heap.get? b=some o->h'.get? b=some o)(D:H it=none)(w:it≠X.env.locals)
  (h1:it∈X.ex\/X.s₀.heap.objs.size<=it) (h2:∀x c,X.env.cells.lookup x=some c->c≠it) (h3:∀p∈X.pn++f,p.1≠it):Inv X f σ H { s with heap:=h',toks:=t' }:=by
 have t:∀b u,H b=some u->b≠it:=λb u e z=>by rw[z,D] at e;cases e
 refine I.step (g':=s.gens) (d':=s.drawn) (ch:=[it]) (λb hb=>?_) (λb o _ _ hc e _=>k b o (λz=>hc (by simp[z])) e) (λb o _ _ hc e _=>{o.slots,k b o (λz=>hc (by simp[z])) e}) (λ_ _ _ _ n=>n)
  (λb o hc e=>{o,k b o (λz=>hc (by simp[z])) e}) (λ_ _ e=>e) (λ_ _ _ e=>e) (λb M e=>{#[],by rw[e];simp}) (λm hm=>?_) (λb u e=>?_) I.bare
 .have e:b=it:=by simpa using hb
  subst e;exact⟨h1,w,h2,h3⟩
 .obtain⟨o,C,A,E,r⟩:=hm
  exact{o,C,A,k _ o (zS w) E,r}
 .refine(I.hok b u e).stay (λc v hc q=>k c v ?_ q) (λ_ q=>q) λ_ _ q=>q
  rcases hc with z | z
  .rw[z];exact t b u e
  .exact t c _ z
theorem Inv.tok(I:Inv X f σ H s)(t:Nat):Inv X f σ H { s with toks:=t }:=I.un (h':=s.heap) (t':=t) Un.refl I.hok
theorem Inv.kept{t':Nat}(I:Inv X f σ H s)(k:∀b u,s.heap.get? b=some u->h'.get? b=some u):Inv X f σ H { s with heap:=h',toks:=t' }:=I.un (Un.kept k) (I.hok.kept k)
theorem Inv.laid{a:Addr}{o:HO}{t':Nat}(I:Inv X f σ H s)(k:∀b u,s.heap.get? b=some u->h'.get? b=some u)(hp:s.heap.objs.size<=a)(e:ObjOk X.prog X.w (upd H a o) h' a o) :
  Inv X f σ (upd H a o) { s with heap:=h',toks:=t' }:=I.un (Un.laid k hp (I.hok.fresh hp)) (I.hok.laid k hp e)
theorem Inv.write{x e:Addr}{o:HO}{D:Nat}(I:Inv X f σ H s)(C:Mut (H x))(A:e=x\/H e=some (.own x))(k:∀b u,b≠e->s.heap.get? b=some u->h'.get? b=some u)(t:∃u,h'.get? e=some u)
  (w:ObjOk X.prog X.w (upd H x o) h' x o):Inv X f σ (upd H x o) { s with heap:=h',toks:=D }:=I.un (Un.write C A k t) (I.hok.write C A k t w)
theorem Inv.weak{o:List (Option V)}(I:Inv X f σ H s)(u:o.length=σ.length)(w:∀(i:Nat) v,o[i]? =some (some v)->σ[i]? =some (some v)):Inv X f o H s:=
 {I.ok,I.os,I.bare,I.base,let ⟨m,A,e⟩:=I.loc;{m,A,λi x v e1 e2 t=>e i x v e1 (w i v e2) t},I.cell,I.free,I.freeC,I.pin,I.hok,u.trans I.len}
theorem Inv.pins_of{pins':List (Addr×Obj)}(I:Inv X f σ H s)(h:∀p∈pins',s.heap.get? p.1=some p.2/\H p.1=none/\p.1≠X.env.locals/\p.1∉X.fs/\∀v,p.2.data≠.cell v):Inv X pins' σ H s:=
 {I.ok,I.os,I.bare,I.base,I.loc,I.cell,I.free,I.freeC,λp hp=>(qL.mp hp).elim (λz=>I.pin p (jK _ z)) (h p),I.hok,I.len}
theorem Y3{N:List Str}(e:N.Nodup){i j:Nat}{x:Str}(a:N[i]? =some x)(b:N[j]? =some x):i=j:=by
 obtain⟨h1,e1⟩:=zO.mp a;obtain⟨h2,e2⟩:=zO.mp b;exact(zbD e).mp (e1.trans e2.symm)
theorem zdD{M:Model}{A:Around}{E:Value->Shared->Prop}{i:Nat}{x:Str}{v:V}{u:Value}{Q:Unit->Shared->Prop}(I:Inv X f σ H s)(hN:X.N.Nodup)(U:X.N[i]? =some x)(hx:Loc X.env.scope x)(r:RelV v u)
  (h:∀s',Inv X f (σ.set i (some v)) H s'->(∃a,Heap.SameBut a s.heap s'.heap/\(a=X.env.locals\/X.env.cells.lookup x=some a))->Q Unit.unit s') (hf:X.fn x=true\/X.env.scope.names.lookup x=some .local:=by first| exact .inl rfl | exact .inr rfl | assumption):wpAny M A (storeName X.env x u) Q E s:=by
 obtain⟨m,hn,hl⟩:=id I.loc;have O:(X.env.scope.kind==.class||(X.env.scope.kind==.module&&X.env.locals != X.env.globals))=false:=by rw[I.ok.kind];rfl
 have Y:i<σ.length:=by rw[I.len];exact(zO.mp U).1
 have D:=I.cne;have w:∀{a:Addr} {h':Heap},(∃o,s.heap.get? a=some o/\H a=none)->Heap.SameBut a s.heap h'->HOk X.prog X.w H h':=λ{a h'} ha t b ob e=>by
  obtain⟨_,_,C⟩:=ha;refine(I.hok b ob e).stay (λc w' hc q=>(t.2 c ?_).trans q) (λ_ q=>q) λ_ _ q=>q
  rintro rfl;rcases hc with rfl | hc
  .rw[C] at e;cases e
  .rw[C] at hc;cases hc
 rcases hx with hk | hk
 .refine wpAny_storeName_local hk hn (λh' ac t=>?_) O
  obtain⟨oL,_,_,ae,_⟩:=id hn;refine h _ {I.ok,I.os,I.bare,{λb o e n hb hx=>?_,λb o e n hb hx=>?_,I.base.free,λb o e hx=>?_,I.base.tups,I.base.frzs,I.base.tbls},{_,ac,λj y v' e1 e2 e3=>?_},λy c e=>?_,I.free,I.freeC,λp hp=>?_,w ⟨oL,ae,I.free⟩ t,by simpa using I.len} {_,t,.inl rfl}
  .exact(t.2 b (zN (jM (zK e) I.ok.above))).trans (I.base.keep b o e n hb hx)
  .obtain⟨sl,e1⟩:=I.base.slot b o e n hb hx
   exact{sl,(t.2 b (zN (jM (zK e) I.ok.above))).trans e1}
  .obtain⟨o',e1⟩:=I.base.there b o e hx
   exact{o',(t.2 b (zN (jM (zK e) I.ok.above))).trans e1}
  .by_cases J:j=i
   .subst J
    rw[U] at e1;cases e1
    rw[Yh Y] at e2;cases e2;exact{u,r,.inl {hk,1e3}}
   .rw[Yc (zS J)] at e2
    obtain⟨u',r',q⟩:=hl j y v' e1 e2 e3;refine{u',r',?_}
    rcases q with ⟨k,e⟩ | ⟨k,c,e,z⟩
    .refine .inl {k,?_}
     have:y≠x:=λe=>J (Y3 hN e1 (e▸U))
     simp[this,e]
    .exact .inr {k,c,e,z.sameBut t (D y c e)}
  .obtain⟨w',z⟩:=I.cell y c e
   exact{w',z.sameBut t (D y c e)}
  .obtain⟨e,n,ne,nf,d⟩:=I.pin p hp
   exact{(t.2 p.1 ne).trans e,n,ne,nf,d}
 .have G:X.fn x=true:=by
   rcases hf with z | z
   .exact z
   .rw[z] at hk;cases hk
  obtain⟨c,hc⟩:=I.ok.has x (.inl hk);obtain⟨w',z⟩:=I.cell x c hc;refine wpAny_storeName_cell I.ok.kind hk hc z (λh' L t=>?_)
  obtain⟨oc,aa,ab⟩:=id z;refine h { s with heap:=h' } {I.ok,I.os,I.bare,{λb o e n hb hx=>?_,λb o e n hb hx=>?_,I.base.free,λb o e hx=>?_,I.base.tups,I.base.frzs,I.base.tbls},{m,hn.sameBut t (zS (D x c hc)),λj y v' e1 e2 e3=>?_},λy c' e=>?_,I.free,I.freeC,λp hp=>?_,w {oc,aa,I.freeC x c hc} t,by simpa using I.len} {c,t,.inr hc}
  .exact(t.2 b (zN (jM (zK e) (I.ok.cab x c G hc)))).trans (I.base.keep b o e n hb hx)
  .obtain⟨sl,e1⟩:=I.base.slot b o e n hb hx
   exact{sl,(t.2 b (zN (jM (zK e) (I.ok.cab x c G hc)))).trans e1}
  .obtain⟨o',e1⟩:=I.base.there b o e hx
   exact{o',(t.2 b (zN (jM (zK e) (I.ok.cab x c G hc)))).trans e1}
  .by_cases J:j=i
   .subst J
    rw[U] at e1;cases e1
    rw[Yh Y] at e2;cases e2;exact{u,r,.inr {.inl hk,c,hc,L}}
   .rw[Yc (zS J)] at e2
    obtain⟨u',r',q⟩:=hl j y v' e1 e2 e3;refine{u',r',?_}
    rcases q with q | ⟨k,c',e,z'⟩
    .exact .inl q
    .refine .inr {k,c',e,z'.sameBut t ?_}
     rintro rfl;exact J (Y3 hN e1 (I.ok.inj _ _ _ e hc▸U))
  .by_cases N:c'=c
   .subst N;exact{_,L}
   .obtain⟨w2,z2⟩:=I.cell y c' e
    exact{w2,z2.sameBut t N}
  .obtain⟨e,n,ne,nf,d⟩:=I.pin p hp
   refine{(t.2 p.1 ?_).trans e,n,ne,nf,d}
   intro q;rw[q,aa] at e;have q':oc=p.2:=jL e;exact d w' (by rw[<- q'];exact ab)
theorem Qb{M:Model}{A:Around}{E:Value->Shared->Prop}{i:Nat}{x:Str}{v:V}{u:Value}{Q:Unit->Shared->Prop}(I:Inv X f σ H s)(t:X.N.Nodup)(C:X.N[i]? =some x)(hx:Loc X.env.scope x)(r:RelV v u)
  (h:∀e,Inv X f (σ.set i (some v)) H e->Q Unit.unit e) (w:X.fn x=true\/X.env.scope.names.lookup x=some .local:=by first| exact .inl rfl | exact .inr rfl | assumption):wpAny M A (storeName X.env x u) Q E s:=
 zdD I t C hx r (λe o _=>h e o) w
theorem Inv.call'{s':Shared}{ch:List Addr}(I:Inv X f σ H s)(E:s'.os=s.os)(u:Un (frs X.stack) ch H B s.heap s'.heap)(t:HOk X.prog X.w B s'.heap)(D:AllBare s'.gens)
  (o:∀b∈ch,(b∈X.ex\/X.s₀.heap.objs.size<=b)/\b≠X.env.locals/\(∀x c,X.env.cells.lookup x=some c->c≠b)/\∀p∈X.pn++f,p.1≠b):Inv X f σ B s':=by
 obtain⟨h',A,w,C,G⟩:=s';have e:G=s.os:=E;subst e;exact I.call (g':=A) (t':=C) (d':=w) u t D o
end
abbrev XK:=Value->Option Addr->Hp->Prop
abbrev St:=List (Option V)
abbrev VK:=V->Hp->Prop
abbrev TE:=St->Hp->VK->Prop
abbrev TT:=St->Hp->(Bool->Hp->Prop)->Prop
abbrev TA:=St->Hp->(List V->Hp->Prop)->Prop
structure XY where
 nx:St->Hp->Prop
 rt:VK
 bk:St->Hp->Prop:=λ_ _=>False
 ct:St->Hp->Prop:=λ_ _=>False
abbrev TS:=XY->St->Hp->Prop
def EP(X:Cx)(e:List (Addr×Obj))(σ:St)(Q:VK)(u:Value)(o:Shared):Prop:=∃v f,Inv X e σ f o/\RelV v u/\Q v f
def TP(X:Cx)(e:List (Addr×Obj))(σ:St)(Q:Bool->Hp->Prop)(b:Bool)(o:Shared):Prop:=∃f,Inv X e σ f o/\Q b f
def AP(X:Cx)(e:List (Addr×Obj))(σ:St)(Q:List V->Hp->Prop)(u:List Value)(t:Shared):Prop:=∃o f,Inv X e σ f t/\Vals o u/\Q o f
def SP(X:Cx)(e:List (Addr×Obj))(D:XY)(f:Flow)(w:Shared):Prop:=
 match f with
 | .next=>∃t o,Inv X e t o w/\D.nx t o
 | .brk=>∃t o,Inv X e t o w/\D.bk t o
 | .cont=>∃t o,Inv X e t o w/\D.ct t o
 | .ret u=>∃v t o,Inv X e t o w/\RelV v u/\D.rt v o
def PE(X:Cx)(e:Expr)(t:TE):Prop:=
 ∀(f:List 0#p) (s:Shared) (σ:St) (H:Hp) (Q:VK),Inv X f σ H s->t σ H Q->wpAny 0#e X.A (eval e X.env) (EP X f σ Q) X.xe s
def PT(X:Cx)(e:Expr)(t:TT):Prop:=
 ∀(f:List 0#p) (s:Shared) (σ:St) (H:Hp) (Q:Bool->Hp->Prop),Inv X f σ H s->t σ H Q->wpAny 0#e X.A (isTrue e X.env (eval e X.env)) (TP X f σ Q) X.xe s
def PW(X:Cx)(e:Expr)(t:TT):Prop:=
 ∀(o:Sem Value) (f:List 0#p) (s:Shared) (σ:St) (H:Hp) (Q:Bool->Hp->Prop),Inv X f σ H s->t σ H Q->wpAny 0#e X.A (isTrue e X.env o) (TP X f σ Q) X.xe s
theorem PW.pt{X:Cx}{e:Expr}{t:TT}(h:PW X e t):PT X e t:=h _
def PA(X:Cx)(o:List Expr)(t:TA):Prop:=
 ∀(f:Pos) (e:List 0#p) (s:Shared) (σ:St) (H:Hp) (Q:List V->Hp->Prop),Inv X e σ H s->t σ H Q->wpAny 0#e X.A (spliced (backTo f (starEach o X.env))) (AP X e σ Q) X.xe s
def PS(X:Cx)(st:Stmt)(t:TS):Prop:=
 ∀(e:List 0#p) (s:Shared) (σ:St) (H:Hp) (D:XY),Inv X e σ H s->t D σ H->wpAny 0#e X.A (exec st X.env) (SP X e D) X.xe s
def PSs(X:Cx)(st:List Stmt)(t:TS):Prop:=
 ∀(e:List 0#p) (s:Shared) (σ:St) (H:Hp) (D:XY),Inv X e σ H s->t D σ H->wpAny 0#e X.A (execs st X.env) (SP X e D) X.xe s
theorem thn{α:Type}{t:Sem α}{Q e:α->Shared->Prop}{M:Model}{A:Around}{E:Value->Shared->Prop}{s:Shared}(h:wpAny M A t Q E s)(f:∀a s,Q a s->e a s):wpAny M A t e E s:=z9 h f λ_ _ x=>x
section
variable{X:Cx}
inductive IsB(x:V)(H:Hp)(Q:Bool->Hp->Prop):Prop
 | mk (c:Bool) (h:x=.bl c) (q:Q c H):IsB x H Q
inductive IsI(x:V)(H:Hp)(Q:Int->Hp->Prop):Prop
 | mk (i:Int) (h:x=.int i) (q:Q i H):IsI x H Q
inductive zk5(e:List V)(H:Hp)(Q:V->V->Hp->Prop):Prop
 | mk (v w:V) (h:e=[v,w]) (q:Q v w H):zk5 e H Q
inductive ziS(i:Nat)(σ:St)(H:Hp)(Q:VK):Prop
 | mk (v:_) (_:σ[i]? =some (some v)) (_:Q v H):ziS i σ H Q
def tC(v:V):TE:=λ_ H Q=>Q v H
theorem zjg{i:Nat}{x:Str}{f:Pos}(G:X.N[i]? =some x)(M:Vis X.env.scope x)(hd:(x==("__debug__":Str))=false:=by decide)(E:(x==("__classdict__":Str))=false:=by decide):PE X (.Name x f) (ziS i):=by
 intro D s σ H Q I h;obtain⟨v,e,h⟩:=h;obtain⟨m,L,J⟩:=I.loc;obtain⟨u,r,l⟩:=J i x v G e M;have w:EP X D σ Q u s:=⟨v,H,I,r,h⟩;rcases l with ⟨hk,hm⟩ | ⟨hk,c,hc,t⟩
 .exact wpAny_Name (wpAny_loadName_local I.ok.kind hk L hm w) hd
 .rcases hk with hk | hk
  .exact wpAny_Name (wpAny_loadName_cell I.ok.kind hk hc t w) hd
  .exact wpAny_Name (wpAny_loadName_free I.ok.kind hk hc t w E) hd
theorem zf{i j f}:PE X (.Constant (.int i) j f) (tC (.int i)):=λ_ _ _ H _ I h=>wpAny_Constant_int {.int i,H,I.tok _,{_,rfl},h}
theorem wB{b j f}:PE X (.Constant (.bool b) j f) (tC (.bl b)):=λ_ _ _ H _ I h=>Constant_bool {.bl b,H,I,rfl,h}
theorem zfm{x j f}:PE X (.Constant (.str x) j f) (tC (.str x)):=λ_ _ _ H _ I h=>Calls.Constant_str {.str x,H,I.tok _,{_,rfl},h}
def Gl(X:Cx)(x:Str):Prop:=X.env.kindOf x=some .globalImplicit
theorem zhz{E:Value->Shared->Prop}{e:List (Addr×Obj)}{s:Shared}{σ:St}{H:Hp}{x:Str}{u:Value}{f:Pos}{Q:Value->Shared->Prop}(I:Inv X e σ H s)(t:Gl X x)(hm:X.mg x=some u)(h:Q u s)
  (hd:(x==("__debug__":Str))=false:=by decide):wpAny 0#e X.A (eval (.Name x f) X.env) Q E s:=
 zgu I.ok.kind t (Calls.loadGlobal_global (by rw[I.ok.glob];exact I.mod.glob.keeps I.bk) hm h) hd
theorem wn{E:Value->Shared->Prop}{e:List (Addr×Obj)}{s:Shared}{σ:St}{H:Hp}{x:Str}{u:Value}{f:Pos}{Q:Value->Shared->Prop}(I:Inv X e σ H s)(t:Gl X x)(hm:X.mg x=none)(D:bootBuiltins x=some u)(h:Q u s)
  (w:x ≠ "__name__" :=by decide) (hd:(x==("__debug__":Str))=false:=by decide):wpAny 0#e X.A (eval (.Name x f) X.env) Q E s:=by
 obtain⟨G,h1,h2⟩:=I.mod.blt;exact zgu I.ok.kind t (Calls.loadGlobal_builtin (by rw[I.ok.glob];exact I.mod.glob.keeps I.bk) hm (by rw[I.ok.blt];exact h1.keeps I.bk) ((h2 x w).trans D) h) hd
theorem y6{x:Str}{v:V}{u:Value}{f:Pos}(e:Gl X x)(hm:X.mg x=none)(w:bootBuiltins x=some u)(r:RelV v u)(t:x ≠ "__name__" :=by decide)(hd:(x==("__debug__":Str))=false:=by decide):PE X (.Name x f) (tC v):=
 λ_ _ _ H _ I h=>wn I e hm w ⟨v,H,I,r,h⟩ t hd
variable{a b:Expr}{o B:TE}{f:Pos}
def PC(X:Cx)(w:CmpOp)(a b:Expr)(t:TE):Prop:=
 ∀(e:List 0#p) (s:Shared) (σ:St) (H:Hp) (Q:VK),Inv X e σ H s->t σ H Q ->
  wpAny 0#e X.A (eval a X.env) (λv D=>wpAny 0#e X.A (eval b X.env) (λu E=>wpAny 0#e X.A (compareOp w v u) (EP X e σ Q) X.xe E) X.xe D) X.xe s
theorem zfI(b:Expr){e:CmpOp}(h:e≠.In)(h2:e≠.NotIn):behindInMarks e b=false:=by
 have e1:(e==CmpOp.In)=false:=by cases e<;>first| rfl | exact absurd rfl h
 have e2:(e==CmpOp.NotIn)=false:=by cases e<;>first| rfl | exact absurd rfl h2
 cases b<;>simp[behindInMarks,e1,e2]
def tB(t:TE):TT:=λσ H Q=>t σ H λx e=>IsB x e Q
theorem zjb{w:CmpOp}{t:TE}(h:PC X w a b t)(h1:behindInMarks w b=false:=by first| exact zfI _ 1e1 1e1 | rfl):PT X (.Compare a [w] [b] f) (tB t):=by
 intro e s σ H Q I G;refine wpAny_isTrue_Compare1 (thn (h e s σ H _ I G) λv s1 h1=>thn h1 λu s2 h2=>thn h2 λc L ⟨x,D,E,J,q1⟩=>?_) h1
 obtain⟨d,rfl,q⟩:=q1;cases J;exact yc ⟨D,E,q⟩
theorem xQ{e:Expr}{t:TE}(h:PE X e t)(G:∀u,isTrue e X.env u=(do let v<-u;standAt e.pos;holding [v] (truthy v)):=by intro _;rfl):PT X e (tB t):=by
 intro w s σ H Q I J;refine isTrue_plain (thn (h w s σ H _ I J) λv s1 ⟨x,D,E,L,q1⟩=>?_) (G _)
 obtain⟨d,rfl,q⟩:=q1;cases L;exact yc ⟨D,E,q⟩
variable{A C:TT}{rest:List Expr}
def tOr(t u:TT):TT:=λσ H Q=>t σ H λc e=>if c=true then Q true e else u σ e Q
def zlf(t:TT):TT:=λσ H Q=>t σ H λc e=>Q (!c) e
theorem yr(u:PT X a A):PW X (.BoolOp .Or [a] f) A:=by
 intro w t s σ H Q I h;refine isTrue_or (thn (u t s σ H Q I h) λc s1 e=>?_)
 cases c with
 | false=>exact isTrue_or_nil e
 | true=>exact e
theorem ya(w:PT X a A)(hb:PW X (.BoolOp .Or (b::rest) f) C):PW X (.BoolOp .Or (a::b::rest) f) (tOr A C):=by
 intro D e s σ H Q I h;refine isTrue_or (thn (w e s σ H _ I h) λc s1 ⟨t,u,q1⟩=>?_)
 cases c with
 | true=>exact⟨t,u,q1⟩
 | false=>exact hb D e s1 σ t Q u q1
theorem vK(u:PT X a A):PT X (.UnaryOp .Not a f) (zlf A):=by
 intro e s σ H Q I h;exact isTrue_not (u e s σ H (λc t=>Q (!c) t) I h)
def zkh(o B:TE):TE:=λσ H Q=>o σ H λx e=>IsB x e λc e=>if c=true then B σ e Q else Q (.bl false) e
def zj7(o:TE):TE:=λσ H Q=>o σ H λx e=>IsB x e λc e=>Q (.bl (!c)) e
theorem za2{w}{t:TE}(h:PE X a t):PE X (.BoolOp w [a] f) t:=λe s σ H Q I u=>BoolOp_one (h e s σ H Q I u)
theorem za5(w:PE X a o)(hb:PE X (.BoolOp .And (b::rest) f) B):PE X (.BoolOp .And (a::b::rest) f) (zkh o B):=by
 intro e s σ H Q I h;refine BoolOp_and (thn (w e s σ H _ I h) λv s1 ⟨x,t,u,D,q1⟩=>?_)
 obtain⟨c,rfl,q1⟩:=q1;cases D;refine yc ?_
 cases c with
 | true=>exact hb e s1 σ t Q u q1
 | false=>exact{.bl false,t,u,rfl,q1}
theorem zji(w:PE X a o):PE X (.UnaryOp .Not a f) (zj7 o):=by
 intro e s σ H Q I h;refine UnaryOp_ (thn (w e s σ H _ I h) λv s1 ⟨x,t,u,D,q1⟩=>?_)
 obtain⟨c,rfl,q1⟩:=q1;cases D;exact not_of (yc {.bl (!c),t,u,rfl,q1})
def tIf(t:TT)(o B:TE):TE:=λσ H Q=>t σ H λc e=>if c=true then o σ e Q else B σ e Q
theorem yu{c:Expr}(hc:PT X c A)(w:PE X a o)(hb:PE X b B):PE X (.IfExp c a b f) (tIf A o B):=by
 intro e s σ H Q I h;refine wpAny_IfExp (thn (hc e s σ H _ I h) λd s1 ⟨t,u,q1⟩=>?_)
 cases d with
 | true=>exact w e s1 σ t Q u q1
 | false=>exact hb e s1 σ t Q u q1
end
def SqL(K:W.Frag)(H:Hp)(a:Addr)(f:List V):Prop:=
 Rd H a (.lst f) \/
  ∃(o:Obj) (e:Array Value) (n:Nat),K.lookup a=some o/\o.cls=.type "list" /\ o.dict=none/\o.data=.seq e n/\e.size<=sizeLine/\Vals f e.toList
def SqT(K:W.Frag)(H:Hp)(a:Addr)(f:List V):Prop:=
 Rd H a (.tup f) \/
  ∃(o:Obj) (e:Array Value) (n:Nat),K.lookup a=some o/\o.cls=.type "tuple" /\ o.data=.seq e n/\e.size<=sizeLine/\Vals f e.toList
def zlr:Value->Option V
 | .none=>some .non
 | .bool b=>some (.bl b)
 | .int i _=>some (.int i)
 | .str x _=>some (.str x)
 | .bytes b _=>some (.byt b)
 | .float b _=>some (.flt b)
 | .ref a=>some (.ref a)
 | .type n=>some (.ty n)
 | _=>none
theorem RelV.abs{x:V}{u:Value}(r:RelV x u):zlr u=some x:=by
 cases x with
 | non=>cases r;rfl
 | bl _=>cases r;rfl
 | int _=>obtain⟨t,rfl⟩:=r;rfl
 | str _=>obtain⟨t,rfl⟩:=r;rfl
 | byt _=>obtain⟨t,rfl⟩:=r;rfl
 | flt _=>obtain⟨t,rfl⟩:=r;rfl
 | ref _=>cases r;rfl
 | ty _=>cases r;rfl
theorem RelV.inj{x y:V}{u:Value}(r:RelV x u)(q:RelV y u):x=y:=jL (r.abs.symm.trans q.abs)
theorem Vals.inj:∀{f o:List V} {e:List Value},Vals f e->Vals o e->f=o
 | _,_,_,.nil,.nil=>rfl
 | _,_,_,.cons r t,.cons u w=>by rw[r.inj u,Vals.inj t w]
section
variable{X:Cx}{f:List (Addr×Obj)}{σ:St}{H:Hp}{s:Shared}{a:Addr}{t u:List V}
theorem SqL.of{K:W.Frag}(h:H a=some (.lst t)):SqL K H a t:=.inl (.inl h)
def u5:=@SqL.of
theorem SqT.of{K:W.Frag}(h:H a=some (.tup t)):SqT K H a t:=.inl (.inl h)
def u6:=@SqT.of
theorem Inv.list(I:Inv X f σ H s)(h:SqL X.K H a t):∃w:List Value,Vals t w/\PlainL s.heap a w.toArray/\t.length<=sizeLine:=by
 rcases h with h | ⟨o,w,n,hk,hc,hd,A,B,r⟩
 .obtain⟨z,w,n,r,e⟩:=h.ok I.hok
  exact{w,r,{_,n,e,rfl,rfl,rfl},z}
 .refine{w.toList,r,{o,n,I.kIn a o hk,hc,hd,by simpa using A},?_}
  have e:=r.length;simp only[jt] at e;omega
theorem Inv.tuple(I:Inv X f σ H s)(h:SqT X.K H a t):∃w:List Value,Vals t w/\IsTup s.heap a w.toArray/\t.length<=sizeLine:=by
 rcases h with h | ⟨o,w,n,hk,hc,A,B,r⟩
 .obtain⟨z,w,r,p⟩:=h.ok I.hok
  exact⟨w,r,p.1,z⟩
 .refine{w.toList,r,{o,I.kIn a o hk,hc,n,by simpa using A},?_}
  have e:=r.length;simp only[jt] at e;omega
theorem Inv.list_inj(I:Inv X f σ H s)(h:SqL X.K H a t)(E:SqL X.K H a u):t=u:=by
 obtain⟨A,r,⟨o,n,e,_,_,d⟩,_⟩:=I.list h;obtain⟨w,G,⟨L,J,C,_,_,B⟩,_⟩:=I.list E;rw[e] at C;cases C
 rw[d] at B;injection B with D _;have:A=w:=by simpa using congrArg Array.toList D
 subst this;exact r.inj G
theorem Inv.tuple_inj(I:Inv X f σ H s)(h:SqT X.K H a t)(E:SqT X.K H a u):t=u:=by
 obtain⟨A,r,⟨o,e,_,n,d⟩,_⟩:=I.tuple h;obtain⟨w,G,⟨L,C,_,J,B⟩,_⟩:=I.tuple E;rw[e] at C;cases C
 rw[d] at B;injection B with D _;have:A=w:=by simpa using congrArg Array.toList D
 subst this;exact r.inj G
end
abbrev Cx.wish(X:Cx)(E:Value->Shared->Prop):Cx:={ X with xe:=E }
abbrev Cx.nox(X:Cx):Cx:=X.wish λ_ _=>False
theorem Cx.Ok.wish{X:Cx}(ok:X.Ok)(E:Value->Shared->Prop):(X.wish E).Ok:=
 ⟨ok.mod,ok.kind,ok.glob,ok.blt,ok.above,ok.inj,ok.has,ok.cab,ok.hd,ok.frames,ok.stk,ok.exf,ok.bs,ok.bsz,ok.noex,ok.exfs,ok.funs,ok.frf⟩
theorem Cx.Ok.unwish{X:Cx}{E:Value->Shared->Prop}(ok:(X.wish E).Ok):X.Ok:=
 ⟨ok.mod,ok.kind,ok.glob,ok.blt,ok.above,ok.inj,ok.has,ok.cab,ok.hd,ok.frames,ok.stk,ok.exf,ok.bs,ok.bsz,ok.noex,ok.exfs,ok.funs,ok.frf⟩
section
variable{X:Cx}{e:List (Addr×Obj)}{σ:St}{H:Hp}{s:Shared}{E:Value->Shared->Prop}
theorem Inv.wish(I:Inv X e σ H s)(E:Value->Shared->Prop):Inv (X.wish E) e σ H s:={I.ok.wish E,I.os,I.bare,I.base,I.loc,I.cell,I.free,I.freeC,I.pin,I.hok,I.len}
theorem Inv.unwish(I:Inv (X.wish E) e σ H s):Inv X e σ H s:=⟨I.ok.unwish,I.os,I.bare,I.base,I.loc,I.cell,I.free,I.freeC,I.pin,I.hok,I.len⟩
theorem SP.unwish{D:XY}{f:Flow}{w:Shared}(h:SP (X.wish E) e D f w):SP X e D f w:=by
 cases f with
 | next=>obtain⟨t,o,I,q⟩:=h;exact⟨t,o,I.unwish,q⟩
 | brk=>obtain⟨t,o,I,q⟩:=h;exact⟨t,o,I.unwish,q⟩
 | cont=>obtain⟨t,o,I,q⟩:=h;exact⟨t,o,I.unwish,q⟩
 | ret u=>obtain⟨v,t,o,I,r,q⟩:=h;exact⟨v,t,o,I.unwish,r,q⟩
theorem PSs.nox{st:List Stmt}{t:TS}(h:PSs X.nox st t):PSs X st t:=λe s σ H D I f=>
 z9 (h e s σ H D (I.wish _) f) (λ_ _ q=>q.unwish) λ_ _ z=>False.elim z
end
section
variable{X:Cx}{st:Stmt}{rest:List Stmt}{t u:TS}{e:Expr}{w:TE}{o:Pos}
def zb8:TS:=λD σ H=>D.nx σ H
def zdC(t u:TS):TS:=λD σ H=>t { D with nx:=u D } σ H
theorem jk:PSs X [] zb8:=λ_ _ σ H _ I h=>wpAny_execs_nil ⟨σ,H,I,h⟩
theorem zi(h1:PS X st t)(h2:PSs X rest u):PSs X (st::rest) (zdC t u):=by
 intro A s σ H D I h;refine wpAny_execs_cons (thn (h1 A s σ H { D with nx:=u D } I h) λf s1 q=>?_)
 cases f with
 | next=>
  obtain⟨E,B,C,q⟩:=q;exact h2 A s1 E B D C q
 | ret v=>exact q
 | brk=>exact q
 | cont=>exact q
theorem zp(h1:PS X st t):PSs X [st] t:=by
 intro A s σ H D I h;refine wpAny_execs_cons (thn (h1 A s σ H D I h) λf s1 q=>?_)
 cases f with
 | next=>exact wpAny_execs_nil q
 | ret v=>exact q
 | brk=>exact q
 | cont=>exact q
def zkg:TS:=λD σ H=>D.ct σ H
theorem YW:PS X (.Continue o) zkg:=λ_ _ σ H _ I h=>wpAny_Continue ⟨σ,H,I,h⟩
theorem Inv.quiet{f:List (Addr×Obj)}{σ:St}{H:Hp}{s:Shared}(I:Inv X f σ H s):interactive X.env=false:=by simp[interactive,I.ok.kind]
def zkc(w:TE):TS:=λD σ H=>w σ H λ_ f=>D.nx σ f
theorem vY(C:PE X e w)(E:swapsWith e none o.line X.env=pure false:=by rfl):PS X (.Expr e o) (zkc w):=by
 intro f s σ H D I h;exact wpAny_Expr_any (thn (C f s σ H _ I h) λv s1 ⟨x,A,B,G,q1⟩=>⟨σ,A,B,q1⟩) I.quiet E
def zld(w:TE):TS:=λD σ H=>w σ H D.rt
theorem zJ(C:PE X e w):PS X (.Return (some e) o) (zld w):=by
 intro f s σ H D I h;exact wpAny_Return_some (thn (C f s σ H _ I h) λv s1 ⟨x,A,B,E,q1⟩=>⟨x,σ,A,B,E,q1⟩)
def zlh(c:TT)(t u:TS):TS:=λD σ H=>c σ H λb f=>if b=true then t D σ f else u D σ f
theorem xu{c:Expr}{a b:List Stmt}{C:TT}(hc:PT X c C)(E:PSs X a t)(hb:PSs X b u):PS X (.If c a b o) (zlh C t u):=by
 intro f s σ H D I h;refine wpAny_If (thn (hc f s σ H _ I h) λd s1 ⟨A,B,q1⟩=>?_)
 cases d with
 | true=>exact E f s1 σ A D B q1
 | false=>exact hb f s1 σ A D B q1
end
abbrev TG:=V->St->Hp->(St->Hp->Prop)->Prop
abbrev TGs:=List V->St->Hp->(St->Hp->Prop)->Prop
def PG(X:Cx)(e:Expr)(t:TG):Prop:=
 ∀(f:List 0#p) (s:Shared) (σ:St) (H:Hp) (v:V) (u:Value) (Q:St->Hp->Prop),Inv X f σ H s->RelV v u->t v σ H Q ->
  wpAny 0#e X.A (assign e X.env u) (λ_ A=>∃w o,Inv X f w o A/\Q w o) X.xe s
def PGs(X:Cx)(B:List Expr)(t:TGs):Prop:=
 ∀(e:List 0#p) (s:Shared) (σ:St) (H:Hp) (u:List V) (o:List Value) (Q:St->Hp->Prop),Inv X e σ H s->Vals u o->t u σ H Q ->
  wpAny 0#e X.A (assignInOrder ((assignEach B X.env).map (·.2)) o) (λ_ A=>∃w f,Inv X e w f A/\Q w f) X.xe s
abbrev zj0:=V->V->V->Hp->(Hp->Prop)->Prop
def zh3(X:Cx)(t:zj0):Prop:=
 ∀(e:List 0#p) (s:Shared) (σ:St) (H:Hp) (o i v:V) (A w u:Value) (Q:Hp->Prop),Inv X e σ H s->RelV o A->RelV i w->RelV v u->t o i v H Q ->
  wpAny 0#e X.A (setItem A w u) (λ_ B=>∃f,Inv X e σ f B/\Q f) X.xe s
section
variable{X:Cx}{A:Pos}
def j7(i:Nat):TG:=λv σ H Q=>Q (σ.set i (some v)) H
theorem zy{i:Nat}{x:Str}(o:X.N.Nodup)(w:X.N[i]? =some x)(hx:Loc X.env.scope x)(t:X.fn x=true\/X.env.scope.names.lookup x=some .local:=by first| exact .inl rfl | exact .inr rfl | assumption):PG X (.Name x A) (j7 i):=by
 intro e s σ H v u Q I r h;exact wpAny_assign_Name (Qb I o w hx r (λB f=>{_,H,f,h}) t)
def zam:TGs:=λe σ H Q=>e=[]/\Q σ H
inductive vg(t:TG)(u:TGs)(e:List V)(σ:St)(H:Hp)(Q:St->Hp->Prop):Prop
 | mk (v r:_) (_:e=v::r) (_:t v σ H λo f=>u r o f Q):vg t u e σ H Q
theorem jw:PGs X [] zam:=by
 intro f s σ H t o Q I r h;obtain⟨e,h⟩:=h;subst e;cases r;exact assignInOrder_nil ⟨σ,H,I,h⟩
theorem zD{e:Expr}{o:List Expr}{t:TG}{u:TGs}(h1:PG X e t)(h2:PGs X o u)
  (C:(assignEach (e::o) X.env).map (·.2)=assign e X.env::(assignEach o X.env).map (·.2):=by rfl):PGs X (e::o) (vg t u):=by
 intro f s σ H L G Q I r h;obtain⟨v,J,e1,h⟩:=h;subst e1;cases r with
 | cons r D=>
  rw[C];refine assignInOrder_cons (thn (h1 f s σ H _ _ _ I r h) λ_ s1 ⟨E,w,B,q1⟩=>?_)
  exact h2 f s1 E w _ _ Q B D q1
inductive WB(K:W.Frag)(n:Nat)(t:TGs)(v:V)(σ:St)(H:Hp)(Q:St->Hp->Prop):Prop
 | mk (a e:_) (_:v=.ref a) (_:SqT K H a e) (_:e.length=n) (_:t e σ H Q):WB K n t v σ H Q
theorem jP{w:List Expr}{k:Nat}{t:TGs}{n:Nat}(hc:X.calm=true)(h:PGs X w t)
  (L:(assignEach w X.env).length=n:=by rfl) (B:(assignEach w X.env).findIdx? (·.1)=none:=by rfl):PG X (.Tuple w k A) (WB X.K n t):=by
 intro f s σ H v u Q I r C;obtain⟨a,O,e1,hq,J,C⟩:=C;subst e1;cases r;obtain⟨N,D,M,U⟩:=I.tuple hq;refine assign_Tuple_tuple 0#Q M (by simp[L,<- J,D.length]) B λG hx=>?_
 have E:Inv X f σ H { s with heap:=G }:=I.kept (t':=s.toks) λb o e=>hx b o (zN (zK e)) e
 exact h f _ σ H O _ Q E (by simpa using D) C
def zlo(to w:TE)(t:zj0):TG:=λv σ H Q=>to σ H λo e=>w σ e λi f=>t o i v f λu=>Q σ u
theorem za1{o i:Expr}{to B:TE}{t:zj0}(O:PE X o to)(N:PE X i B)(U:zh3 X t)
  (M:∀v,assign (.Subscript o i A) X.env v=(do
   let f<-holding [v] (eval o X.env)
   let w<-holding [v,f] (eval i X.env)
   standAt A
   holding [v,f,w] (setItem f w v)
   release [v,f,w] []):=by intro _;rfl):PG X (.Subscript o i A) (zlo to B t):=by
 intro e s σ H v u Q I r h;rw[M];refine zc (jy (thn (O e s σ H _ I h) λf s1 ⟨x,C,G,Y,q1⟩=>?_))
 refine zc (jy (thn (N e s1 σ C _ G q1) λw s2 ⟨y,D,J,r2,q2⟩=>?_))
 refine zc (xZ (zc (jy (thn (U e s2 σ D x y v f w u _ J Y r2 r q2) λ_ s3 ⟨E,L,q3⟩=>?_))))
 exact wpAny_release ⟨σ,E,L,q3⟩
def Wc(f:TE)(g:TG):TS:=λD σ H=>f σ H λx e=>g x σ e D.nx
theorem JU{o e:Expr}{t:TE}{g:TG}(B:PE X e t)(C:PG X o g)(E:swapsWithSole [o] e A.line X.env=pure false:=by rfl)(G:swappedStores [o] e X.env=pure none:=by rfl)
  (h1:(assignEach [o] X.env).map (·.2)=[assign o X.env]:=by rfl):PS X (.Assign [o] e A) (Wc t g):=by
 intro f s σ H D I h;refine wpAny_Assign_stores (thn (B f s σ H _ I h) λv s1 ⟨x,u,w,J,q1⟩=>?_) E G
 rw[h1];exact thn (C f s1 σ u x v _ w J q1) λ_ s2 q=>q
theorem zI{i:Nat}{x:Str}{e:Expr}{t:TE}{f:Pos}(C:X.N.Nodup)(J:X.N[i]? =some x)(hx:Loc X.env.scope x)(E:PE X e t)(L:swapsWith e (some (.Name x f)) A.line X.env=pure false:=by rfl)(G:X.fn x=true\/X.env.scope.names.lookup x=some .local:=by first| exact .inl rfl | exact .inr rfl | assumption) :
  PS X (.Assign [.Name x f] e A) (Wc t (j7 i)):=by
 intro o s σ H D I h;refine wpAny_Assign_Name (thn (E o s σ H _ I h) λv s1 ⟨y,u,w,M,q1⟩=>?_) L
 exact Qb w C J hx M (λs2 B=>{_,u,B,q1}) G
def zle(i j:Nat)(f:TA):TS:=λD σ H=>f σ H λo e=>zk5 o e λv w e=>D.nx ((σ.set i (some v)).set j (some w)) e
theorem zaW{i j:Nat}{x y:Str}{a b:Expr}{ta:TA}{N O M:Pos}{L J u}(hc:X.calm=true)(hN:X.N.Nodup)(hi:X.N[i]? =some x)(hj:X.N[j]? =some y)(E:i≠j)
  (hx:X.env.scope.names.lookup x=some .local) (hy:X.env.scope.names.lookup y=some .local) (ha:PA X [a,b] ta)
  (hw:swappedStores [.Tuple [.Name x N,.Name y O] L M] (.Tuple [a,b] J u) X.env=pure (some [x,y]))
  (hs:swapsWithSole [.Tuple [.Name x N,.Name y O] L M] (.Tuple [a,b] J u) A.line X.env=pure false:=by rfl) :
  PS X (.Assign [.Tuple [.Name x N,.Name y O] L M] (.Tuple [a,b] J u) A) (zle i j ta):=by
 intro t s σ H D I h;rw[exec_Assign_arm];refine zc (xZ ?_)
 rw[hs];refine zc (zg ?_)
 rw[zq 1e1]
 refine zc (Tuple_ (thn (ha _ t s σ H _ I h) λus s1 ⟨vs,U,I1,r1,q1⟩=>?_))
 obtain⟨v,w,e1,q1⟩:=q1;subst e1;obtain⟨B,C,rfl,rv,Q⟩:∃B C,us=[B,C]/\RelV v B/\RelV w C:=by
  cases r1 with
  | cons p q=>
   cases q with
   | cons p' q'=>
    cases q';exact{_,_,rfl,p,p'}
 refine jv ?_ (by show 2<=sizeLine;decide)
 have I2:Inv X t σ U { s1 with heap:=s1.heap.push { cls:=.type "tuple",data:=.seq [B,C].toArray } }:=I1.kept (t':=s1.toks) λb o e=>zH _ e
 rw[hw];refine zc (zg ?_)
 show wpAny 0#e X.A (do rule "assign.swapped-stores";let f<-unpackItems (.ref s1.heap.objs.size) 2 none;assignInOrder [λv=>bindName X.env y v,λv=>bindName X.env x v] f.reverse;pure Flow.next) _ _ _
 refine zc (j9 (zc (unpackItems_tuple (items:=#[B,C]) 0#Q (IsTup.new s1.heap _) λh' G=>?_)))
 have I3:=I2.kept (h':=h') (t':=s1.toks) λb o e=>G b o (zN (zK e)) e
 show wpAny _ _ (assignInOrder [λv=>bindName X.env y v,λv=>bindName X.env x v] [C,B] >>= λ_=>pure Flow.next) _ _ _
 refine zc (assignInOrder_cons (wpAny_bindName (Qb I3 hN hj (.inl hy) Q (λs2 I4=>?_) (.inr hy))))
 refine assignInOrder_cons (wpAny_bindName (Qb I4 hN hi (.inl hx) rv (λs3 Y=>assignInOrder_nil (zg ?_)) (.inr hx)))
 rw[List.set_comm _ _ (zS E)] at Y;exact{_,U,Y,q1}
def ziR(c:TT)(u:TS):TS:=λD σ H=>∃W:Nat->St->Hp->Prop,(∃m,W m σ H)/\∀m σ H,W m σ H ->
 c σ H λb f=>if b=true then ∃N:St->Hp->Prop,(∀t e,N t e->∃o,o<m/\W o t e)/\u { D with nx:=N,ct:=N,bk:=D.nx } σ f else D.nx σ f
theorem zff{c:Expr}{body:List Stmt}{Y:TT}{U:TS}(hp:PassesOwn 0#e X.A X.env X.xe)(hc:PT X c Y)(hb:PSs X body U):PS X (.While c body [] A) (ziR Y U):=by
 intro e s σ H D I h;obtain⟨W,⟨m0,w0⟩,t⟩:=h;refine wpAny_While (codeAny_whileLoop (λn s'=>∃σ' J,Inv X e σ' J s'/\W n σ' J) ?_ m0 ⟨σ,H,I,w0⟩)
 rintro n s1 ⟨w,L,I1,w1⟩;refine ZQ hp (thn (hc e s1 w L _ I1 (t n w L w1)) λb s2 ⟨M,O,q2⟩=>?_)
 cases b with
 | true=>
  obtain⟨N,Q,q2⟩:=q2;rw[zt rfl];refine ZQ hp (thn (hb e s2 w M _ O q2) λf s3 q3=>?_)
  cases f with
  | next=>
   obtain⟨u,o,B,E⟩:=q3;obtain⟨C,hm,G⟩:=Q u o E;exact⟨C,hm,u,o,B,G⟩
  | cont=>
   obtain⟨u,o,B,E⟩:=q3;obtain⟨C,hm,G⟩:=Q u o E;exact⟨C,hm,u,o,B,G⟩
  | brk=>exact q3
  | ret v=>exact q3
 | false=>
  rw[zq jr];exact wpAny_execs_nil ⟨w,M,O,q2⟩
end
structure It where
 go:Nat->Hp->Prop
 yld:Nat->Hp->V->Hp->Prop
 stop:Nat->Hp->Prop
def jH(X:Cx)(e:List (Addr×Obj))(H:Hp)(b:Addr):Prop:=
 H b=none/\b≠X.env.locals/\b∉X.fs/\(b∈X.ex\/X.s₀.heap.objs.size<=b)/\(∀x c,X.env.cells.lookup x=some c->c≠b)/\∀p∈X.pn++e,p.1≠b
theorem Inv.fpOk{X:Cx}{f:List (Addr×Obj)}{σ:St}{H o:Hp}{s:Shared}{b:Addr}(I:Inv X f σ H s)(hb:s.heap.objs.size<=b)(t:o b=none):jH X f o b:=by
 refine{t,jW (jM I.lt hb),I.nofs hb,.inr (jx I.sz hb),λx c e z=>?_,λp hp z=>?_}
 .obtain⟨v,q⟩:=I.cell x c e
  exact absurd (jM q.lt (by rw[z];exact hb)) (xM _)
 .exact absurd (jM (zK (I.pin p hp).1) (by rw[z];exact hb)) (xM _)
structure Qr(P:Program)(w:World)(K:W.Frag)(tg:Expr)(J:It)(fp:List Addr)(it:Addr)(tn:Nat->Heap->Prop):Prop where
 mem:it∈fp
 obj:∀i h,tn i h->∀b∈fp,∃o,h.get? b=some o/\∀v,o.data≠.cell v
 keep:∀i h h',tn i h->(∀b∈fp,∀o,h.get? b=some o->h'.get? b=some o)->tn i h'
 item:∀(X:Cx),X.prog=P->X.w=w->X.K=K->X.calm=true->∀(i:Nat) (pins:List 0#p) (s:Shared) (σ:St) (H:Hp) (E:Value->Shared->Prop),Inv X pins σ H s->(∀b∈fp,jH X pins H b)->tn i s.heap->J.go i H ->
  wpAny (model P w) X.A (pyNext (.ref it)) (λr s1=>∃u,r=some u /\
   wpAny (model P w) X.A (letOwnedTupleGo tg (.ref it) u) (λ_ s2=>∃x H',Inv X pins σ H' s2/\RelV x u/\J.yld i H x H'/\tn (i+1) s2.heap/\∀b∈fp,H' b=none) E s1) E s
 done:∀(X:Cx),X.prog=P->X.w=w->X.K=K->X.calm=true->∀(i:Nat) (pins:List 0#p) (s:Shared) (σ:St) (H:Hp) (E:Value->Shared->Prop),Inv X pins σ H s->(∀b∈fp,jH X pins H b)->tn i s.heap->J.stop i H ->
  wpAny (model P w) X.A (pyNext (.ref it)) (λr s1=>r=none/\Inv X pins σ H s1) E s
 self:∀(A:Around) (i:Nat) (s:Shared) (Q:Value->Shared->Prop) (E:Value->Shared->Prop),tn i s.heap->Q (.ref it) s->wpAny (model P w) A (pyIter (.ref it)) Q E s
abbrev TI:=St->Hp->(It->Hp->Prop)->Prop
def PIE(X:Cx)(e:List (Addr×Obj))(σ:St)(A:Expr)(R:It->Hp->Prop)(o:Value)(s2:Shared):Prop:=
 ∃(u:Addr) (t:List Addr) (w:Nat->Heap->Prop) (J:It) (f:Hp),o=.ref u/\Inv X e σ f s2/\Qr X.prog X.w X.K A J t u w/\w 0 s2.heap/\(∀b∈t,jH X e f b)/\R J f
def PI(X:Cx)(o f:Expr)(t:TI):Prop:=
 ∀(e:List 0#p) (s:Shared) (σ:St) (H:Hp) (R:It->Hp->Prop),Inv X e σ H s->t σ H R ->
  wpAny 0#e X.A (eval f X.env) (λv s1=>wpAny 0#e X.A (pyIter v) (PIE X e σ o R) X.xe s1) X.xe s
theorem zc0{M:Model}{A:Around}{E:Value->Shared->Prop}{s:Shared}{t:Expr}{f:Addr}{u:Value}{o:Obj}{n:String}{w:Array Value}{Q:Unit->Shared->Prop}(C:s.heap.get? f=some o)(hc:o.cls=.type n)(hd:o.data=.fields w)
  (B:["enumerate", "zip", "dict_itemiterator", "dict_reverseitemiterator", "odict_iterator", "itertools.zip_longest", "itertools.pairwise"].contains n=false) (e:Q Unit.unit s):wpAny M A (letOwnedTupleGo t (.ref f) u) Q E s:=by
 unfold letOwnedTupleGo;cases t<;>first
  | exact zg e
  | (cases u<;>first
    | exact zg e
    | (refine zc (wpAny_load C ?_)
       rw[hc,hd];show wpAny M A (if(["enumerate", "zip", "dict_itemiterator", "dict_reverseitemiterator", "odict_iterator", "itertools.zip_longest", "itertools.pairwise"].contains n&&w[0]? ==some (rawInt _))=true then _ else _) Q E s
       rw[zq (by intro h;rw[B,Bool.false_and] at h;cases h)]
       exact zg e))
def Itl(K:W.Frag)(a:Addr):It:=
 {λi H=>∃e x,SqL K H a e/\e[i]? =some x,λi H x f=>f=H/\∀e,SqL K H a e->e[i]? =some x,λi H=>∃e,SqL K H a e/\e.length<=i}
def Itt(K:W.Frag)(a:Addr):It:=
 {λi H=>∃e x,SqT K H a e/\e[i]? =some x,λi H x f=>f=H/\∀e,SqT K H a e->e[i]? =some x,λi H=>∃e,SqT K H a e/\e.length<=i}
def Itr(lo:Int)(n:Nat):It:={λi _=>i<n,λi H x e=>e=H/\x=.int (lo+i),λi _=>n<=i}
theorem Vm{P:Program}{w:World}{K:W.Frag}{tg:Expr}(a t:Addr):Qr P w K tg (Itl K a) [t] t (λi h=>h.IsListIter t a i) where
 mem:=1e3
 obj:=λi h st b hb=>by
  have e:b=t:=by simpa using hb
  subst e;obtain⟨o,e,c,d⟩:=st;exact{o,e,λv z=>by rw[d] at z;cases z}
 keep:=λi h B st k=>st.at λo e=>k t 1e3 o e
 item:=by
  intro X O U N hc i f s σ H E I C st Q;subst O U N;obtain⟨xs,x,hq,hx⟩:=Q;obtain⟨Y,rv,p,hz⟩:=I.list hq;obtain⟨u,hu,ru⟩:=rv.get hx;obtain⟨D,G,f2,J,L,M⟩:=C t 1e3
  refine wpAny_pyNext_list_item st p.isList (x:=u) (by simpa using hu) λB A sb=>?_
  have I1:Inv X f σ H { s with heap:=B }:=I.turned (t':=s.toks) (λb o hb e=>(sb.2 b hb).trans e) D G J L M
  obtain⟨o,e,c,d⟩:=id A;exact{u,rfl,zc0 (s:={ s with heap:=B }) e c d 1e1 {x,H,I1,ru,{rfl,λys hy=>by rw[I.list_inj hy hq];exact hx},A,λb hb=>(C b hb).1}}
 done:=by
  intro X O U N hc i f s σ H E I C st Q;subst O U N;obtain⟨xs,hq,hx⟩:=Q;obtain⟨Y,rv,p,hz⟩:=I.list hq;obtain⟨D,G,f2,J,L,M⟩:=C t 1e3
  have hl:=rv.length;exact wpAny_pyNext_list_end 0#Q st p.isList (by simp;omega) λB eb=>{rfl,I.turned (t':=s.toks) (λb o hb e=>eb b o hb e) D G J L M}
 self:=λ_ _ _ _ _ st h=>wpAny_pyIter_listiter st h
theorem JM{P:Program}{w:World}{K:W.Frag}{tg:Expr}(a t:Addr):Qr P w K tg (Itt K a) [t] t (λi h=>h.IsTupleIter t a i) where
 mem:=1e3
 obj:=λi h st b hb=>by
  have e:b=t:=by simpa using hb
  subst e;obtain⟨o,e,c,d⟩:=st;exact{o,e,λv z=>by rw[d] at z;cases z}
 keep:=λi h C st k=>st.at λo e=>k t 1e3 o e
 item:=by
  intro X Q Y O hc i f s σ H E I D st U;subst Q Y O;obtain⟨xs,x,hq,hx⟩:=U;obtain⟨A,rv,p,hz⟩:=I.tuple hq;obtain⟨u,hu,ru⟩:=rv.get hx;obtain⟨G,J,f2,L,M,N⟩:=D t 1e3
  refine wpAny_pyNext_tuple_item st (show s.heap.IsTuple a A.toArray from p) (x:=u) (by simpa using hu) λC B sb=>?_
  have I1:Inv X f σ H { s with heap:=C }:=I.turned (t':=s.toks) (λb o hb e=>(sb.2 b hb).trans e) G J L M N
  obtain⟨o,e,c,d⟩:=id B;exact{u,rfl,zc0 (s:={ s with heap:=C }) e c d 1e1 {x,H,I1,ru,{rfl,λys hy=>by rw[I.tuple_inj hy hq];exact hx},B,λb hb=>(D b hb).1}}
 done:=by
  intro X Q Y O hc i f s σ H E I D st U;subst Q Y O;obtain⟨xs,hq,hx⟩:=U;obtain⟨A,rv,p,hz⟩:=I.tuple hq;obtain⟨G,J,f2,L,M,N⟩:=D t 1e3
  have hl:=rv.length;exact wpAny_pyNext_tuple_end 0#Q st (show s.heap.IsTuple a A.toArray from p) (by simp;omega) λC eb=>{rfl,I.turned (t':=s.toks) (λb o hb e=>eb b o hb e) G J L M N}
 self:=λ_ _ _ _ _ st h=>wpAny_pyIter_tupleiter st h
theorem zaL{P:Program}{w:World}{K:W.Frag}{tg:Expr}(f:Addr)(lo:Int)(n:Nat):Qr P w K tg (Itr lo n) [f] f (λi h=>IsRangeIter h f (lo+(i:Nat)*1) ((n:Int)-(i:Nat)) 1) where
 mem:=1e3
 obj:=λi h st b hb=>by
  have e:b=f:=by simpa using hb
  subst e;exact{_,st,λv z=>by
   have z':Data.fields _=Data.cell v:=z;cases z'}
 keep:=λi h B st k=>k f 1e3 _ st
 item:=by
  intro X O U N hc i u s σ H E I C st Q;subst O U N;obtain⟨D,G,f2,J,L,M⟩:=C f 1e3
  have W:=Walks.range (prog:=X.prog) (w:=X.w) 0#Q f lo 1 n;refine W.item i s _ _ Q st λv B tk hv A kk=>?_
  obtain⟨t,rfl⟩:=hv;have I1:Inv X u σ H { s with heap:=B,toks:=tk }:=I.turned (λb o hb e=>kk b o (by simpa using hb) e) D G J L M
  refine{_,rfl,zc0 (s:={ s with heap:=B,toks:=tk }) (n:= "range_iterator") A rfl rfl 1e1 {.int (lo+i),H,I1,{t,?_},⟨rfl,rfl⟩,A,λb hb=>(C b hb).1}}
  rw[Int.mul_one]
 done:=by
  intro X O U N hc i u s σ H E I C st Q;subst O U N;obtain⟨D,G,f2,J,L,M⟩:=C f 1e3
  exact wpAny_pyNext_range_end 0#Q st (by have:n<=i:=Q;omega) λB eb=>{rfl,I.turned (t':=s.toks) (λb o hb e=>eb b o hb e) D G J L M}
 self:=λ_ _ _ _ _ st h=>wpAny_pyIter_rangeiter st h
section
variable{X:Cx}{w:Expr}
inductive InL(K:W.Frag)(x:V)(H:Hp)(R:It->Hp->Prop):Prop
 | mk (a:Addr) (h:x=.ref a) (e:∃f,SqL K H a f) (r:R (Itl K a) H):InL K x H R
inductive InT(K:W.Frag)(x:V)(H:Hp)(R:It->Hp->Prop):Prop
 | mk (a:Addr) (h:x=.ref a) (e:∃f,SqT K H a f) (r:R (Itt K a) H):InT K x H R
def ziK(K:W.Frag)(f:TE):TI:=λσ H R=>f σ H λx e=>InL K x e R
def zln(K:W.Frag)(f:TE):TI:=λσ H R=>f σ H λx e=>InT K x e R
theorem qW{l:Expr}{u:TE}(B:PE X l u):PI X w l (ziK X.K u):=by
 intro f s σ H R I h;refine thn (B f s σ H _ I h) λv s1 ⟨x,A,t,D,q1⟩=>?_
 obtain⟨a,e,⟨L,hq⟩,q⟩:=q1;subst e;cases D;obtain⟨C,G,p,E⟩:=t.list hq;refine wpAny_pyIter_list p.isList ?_
 refine{s1.heap.objs.size,[s1.heap.objs.size],_,_,A,rfl,t.kept (t':=s1.toks) λb o e=>zH _ e,Vm a _,{_,qo _ rfl,rfl,rfl},λb hb=>?_,q}
 have e:b=s1.heap.objs.size:=by simpa using hb
 subst e;exact t.fpOk (zx _) (t.hok.fresh (zx _))
theorem xx{l:Expr}{A:TE}(C:PE X l A):PI X w l (zln X.K A):=by
 intro f s σ H R I h;refine thn (C f s σ H _ I h) λv s1 ⟨x,B,t,D,q1⟩=>?_
 obtain⟨a,e,⟨L,hq⟩,q⟩:=q1;subst e;cases D;obtain⟨u,G,p,E⟩:=t.tuple hq;refine wpAny_pyIter_tuple (show s1.heap.IsTuple a u.toArray from p) ?_
 refine{s1.heap.objs.size,[s1.heap.objs.size],_,_,B,rfl,t.kept (t':=s1.toks) λb o e=>zH _ e,JM a _,{_,qo _ rfl,rfl,rfl},λb hb=>?_,q}
 have e:b=s1.heap.objs.size:=by simpa using hb
 subst e;exact t.fpOk (zx _) (t.hok.fresh (zx _))
theorem ze9{A:List (Addr×Obj)}{σ:St}{H:Hp}{s:Shared}{R:It->Hp->Prop}{E:Value->Shared->Prop}{lo f:Int}{t u v:Tok}{C:Nat}(I:Inv X A σ H s)(h1:-(2^62)<=lo)(h2:lo<2^62)(h3:-(2^62)<=f)(D:f<2^62)
  (q:R (Itr lo (f-lo).toNat) H):wpAny 0#e X.A (pyIter 0#m) (PIE X A σ w R) E { s with heap:=s.heap.push { cls:=.type "range",data:=.fields #[.int lo t,.int f u,.int 1 v] },toks:=C }:=by
 refine wpAny_pyIter_range (IsRange.new ..) (small_one h1 h2 h3 D) ?_
 have B:Inv X A σ H { s with heap:=s.heap.push { cls:=.type "range",data:=.fields #[.int lo t,.int f u,.int 1 v] },toks:=C }:=I.kept λb o e=>zH _ e
 refine{(s.heap.push { cls:=.type "range",data:=.fields #[.int lo t,.int f u,.int 1 v] }).objs.size,[(s.heap.push { cls:=.type "range",data:=.fields #[.int lo t,.int f u,.int 1 v] }).objs.size],_,_,H,rfl,
  B.kept (t':=C) λb o e=>zH _ e,zaL _ lo (f-lo).toNat,?_,λb hb=>?_,q}
 .have e1:lo+((0:Nat):Int)*1=lo:=1e3
  have e2:(((f-lo).toNat:Nat):Int)-((0:Nat):Int)=Builtin.Range.rangeSize lo f 1:=by rw[rangeSize_one];split<;>omega
  show IsRangeIter _ _ (lo+((0:Nat):Int)*1) ((((f-lo).toNat:Nat):Int)-((0:Nat):Int)) 1;rw[e1,e2];exact qo _ rfl
 .have e:b=(s.heap.push { cls:=.type "range",data:=.fields #[.int lo t,.int f u,.int 1 v] }).objs.size:=by simpa using hb
  subst e;exact B.fpOk (zx _) (B.hok.fresh (zx _))
inductive zk6(e:List V)(H:Hp)(R:It->Hp->Prop):Prop
 | mk (j:Int) (h:e=[.int j]) (h1:-(2^62)<=j) (h2:j<2^62) (r:R (Itr 0 j.toNat) H):zk6 e H R
def zkV(f:TA):TI:=λσ H R=>f σ H λo e=>zk6 o e R
theorem qS{a:Expr}{u:TA}{p o:Pos}(C:Gl X "range")(hm:X.mg "range" = none)(B:PA X [a] u)(D:starEach [a] X.env=[(false,eval a X.env)]:=by rfl):PI X w (.Call (.Name "range" p) [a] [] o) (zkV u):=by
 intro f s σ H R I h;refine Call_ (wn I C hm boot_range (Je (thn (B o f s σ H _ I h) λL s1 ⟨M,J,A,E,q1⟩=>?_) D rfl))
 obtain⟨j,e,q1,q2,q⟩:=q1;subst e;cases E with
 | cons r G=>
  cases G;obtain⟨t,rfl⟩:=r;exact call_range_1 (ze9 A () () q1 q2 (by simpa using q))
def zli(B:TI)(g:TG)(A:TS):TS:=λD σ H=>B σ H λJ t=>∃W:Nat->Nat->St->Hp->Prop,(∃m,W 0 m σ t)/\∀i m σ H,W i m σ H ->
 (J.stop i H/\D.nx σ H)\/(J.go i H/\∃N:St->Hp->Prop,(∀o e,N o e->∃f,f<m/\W (i+1) f o e)/\∀x e,J.yld i H x e->g x σ e λC u=>A { D with nx:=N,ct:=N,bk:=D.nx } C u)
def zX(e:List Addr)(h:Heap):List 0#p:=e.filterMap λb=>(h.get? b).map λo=>(b,o)
theorem qP{f:List Addr}{h:Heap}{b:Addr}{o:Obj}(hb:b∈f)(e:h.get? b=some o):(b,o)∈zX f h:=zbM.mpr {b,hb,by rw[e];rfl}
theorem vC{f:List Addr}{h:Heap}{p:Addr×Obj}(hp:p∈zX f h):p.1∈f/\h.get? p.1=some p.2:=by
 obtain⟨b,hb,e⟩:=zbM.mp hp;cases q:h.get? b with
 | none=>rw[q] at e;cases e
 | some o=>
  rw[q] at e;have t:(b,o)=p:=jL e;subst t;exact⟨hb,q⟩
theorem Inv.pinned{f:List (Addr×Obj)}{σ:St}{H:Hp}{s:Shared}{fp:List Addr}(I:Inv X f σ H s)(C:∀b∈fp,jH X f H b)(D:∀b∈fp,∃o,s.heap.get? b=some o/\∀v,o.data≠.cell v):Inv X (f++zX fp s.heap) σ H s:=
 I.pins_of λp hp=>(qL.mp hp).elim (λz=>I.pin p (zZ _ z)) λz=>by
  obtain⟨hb,e⟩:=vC z;obtain⟨u,A,B,_⟩:=C p.1 hb;obtain⟨o,t,d⟩:=D p.1 hb;rw[e] at t;cases t
  exact⟨e,u,A,B,d⟩
theorem Inv.unpinned{e f:List 0#p}{σ:St}{H:Hp}{s:Shared}(I:Inv X (e++f) σ H s):Inv X e σ H s:=I.pins_of λp hp=>I.pin p (zZ _ (jK _ hp))
theorem qM{C:Expr}{body:List Stmt}{wi:TI}{g:TG}{tb:TS}{af:Pos}(hp:PassesOwn 0#e X.A X.env X.xe)(hc:X.calm=true)(hi:PI X w C wi)(hg:PG X w g)(hb:PSs X body tb)
  (hs:∀x,foldedSetIterable C X.env x=pure x:=by intro _;rfl):PS X (.For w C body [] af) (zli wi g tb):=by
 intro t s σ H D I h;refine wpAny_For (thn (hi t s σ H _ I h) λv s1 h1=>thn h1 λah s2 h2=>?_) hs
 obtain⟨it,Q,tn,J,H2,e,I2,T,ag,f2,W,⟨m0,w0⟩,ab⟩:=h2;subst e;have E:∀{L:Hp},(∀b∈Q,L b=none)->∀b∈Q,jH X t L b:=λhn b hb=>{hn b hb,(f2 b hb).2}
 refine codeAny_forLoop_any (λn s'=>∃i σ' L,Inv X t σ' L s'/\tn i s'.heap/\(∀b∈Q,L b=none)/\W i n σ' L) ?_ m0 {0,σ,H2,I2,ag,λb hb=>(f2 b hb).1,w0}
 rintro n s3 ⟨i,σ3,H3,I3,aa,U,w3⟩;rcases ab i n σ3 H3 w3 with ⟨stop,qn⟩ | ⟨go,N,hN,step⟩
 .refine ZQ hp (thn (T.done X rfl rfl rfl hc i t s3 σ3 H3 X.xe I3 (E U) aa stop) λr s4 ⟨hr,I4⟩=>?_)
  subst hr;exact wpAny_execs_nil ⟨σ3,H3,I4,qn⟩
 .refine ZQ hp (thn (T.item X rfl rfl rfl hc i t s3 σ3 H3 X.xe I3 (E U) aa go) λr s4 ⟨u,hr,h4⟩=>?_)
  subst hr;refine ZQ hp (thn h4 λ_ s5 ⟨x,H5,I5,r5,y5,O,ae⟩=>?_)
  have ac:=I5.pinned (E ae) (T.obj _ _ O);refine ZQ hp (thn (hg _ s5 σ3 H5 x u _ ac r5 (step x H5 y5)) λ_ s6 ⟨σ6,H6,I6,q6⟩=>?_)
  refine ZQ hp (thn (hb _ s6 σ6 H6 _ I6 q6) λf s7 M=>?_)
  have again:∀{G:St} {A:Hp},Inv X (t++zX Q s5.heap) G A s7->N G A->∃m,m<n/\∃i σ' L,Inv X t σ' L s7/\tn i s7.heap/\(∀b∈Q,L b=none)/\W i m σ' L:=λ{G A} B Y=>by
   obtain⟨m',hm,w7⟩:=hN G A Y;refine{m',hm,i+1,G,A,B.unpinned,T.keep _ _ _ O λb hb o e=>(B.pin (b,o) (zZ _ (zZ _ (qP hb e)))).1,λb hb=>?_,w7}
   obtain⟨o,e,d⟩:=T.obj _ _ O b hb;exact(B.pin (b,o) (zZ _ (zZ _ (qP hb e)))).2.1
  cases f with
  | next=>obtain⟨G,A,B,Y⟩:=M;exact again B Y
  | cont=>obtain⟨G,A,B,Y⟩:=M;exact again B Y
  | brk=>obtain⟨G,A,B,M⟩:=M;exact⟨G,A,B.unpinned,M⟩
  | ret v=>obtain⟨x7,G,A,B,r7,M⟩:=M;exact⟨x7,G,A,B.unpinned,r7,M⟩
end
theorem j8{K:W.Frag}{a:Addr}{xs:List V}{g:TG}{B:TS}{D:XY}{σ:St}{H:Hp}(Pv:Nat->St->Hp->Prop)(h0:Pv 0 σ H)(E:∀i σ H,i<=xs.length->Pv i σ H->SqL K H a xs)
  (G:∀i x σ H,xs[i]? =some x->Pv i σ H->g x σ H λw t=>B { D with nx:=Pv (i+1),ct:=Pv (i+1),bk:=D.nx } w t) (hd:∀σ H,Pv xs.length σ H->D.nx σ H) :
  ∃W:Nat->Nat->St->Hp->Prop,(∃m,W 0 m σ H)/\∀i m σ H,W i m σ H ->
   ((Itl K a).stop i H/\D.nx σ H)\/((Itl K a).go i H/\∃N:St->Hp->Prop,(∀u f,N u f->∃A,A<m/\W (i+1) A u f)/\∀x f,(Itl K a).yld i H x f->g x σ f λw t=>B { D with nx:=N,ct:=N,bk:=D.nx } w t):=by
 fail"b"
 rintro i m σ H ⟨rfl,C,p⟩;have q:=E i σ H C p;by_cases o:i<xs.length
 .refine .inr {{xs,xs[i],q,by simp[o]},Pv (i+1),λu f I=>{xs.length-(i+1),(),rfl,o,I},λx f y=>?_}
  obtain⟨e,y⟩:=y;subst e;exact G i x σ _ (y xs q) p
 .have e:i=xs.length:=()
  subst e;exact .inl {{xs,q,zx _},hd σ H p}
theorem JE{K:W.Frag}{a:Addr}{xs:List V}{g:TG}{B:TS}{D:XY}{σ:St}{H:Hp}(Pv:Nat->St->Hp->Prop)(h0:Pv 0 σ H)(E:∀i σ H,i<=xs.length->Pv i σ H->SqT K H a xs)
  (G:∀i x σ H,xs[i]? =some x->Pv i σ H->g x σ H λw t=>B { D with nx:=Pv (i+1),ct:=Pv (i+1),bk:=D.nx } w t) (hd:∀σ H,Pv xs.length σ H->D.nx σ H) :
  ∃W:Nat->Nat->St->Hp->Prop,(∃m,W 0 m σ H)/\∀i m σ H,W i m σ H ->
   ((Itt K a).stop i H/\D.nx σ H)\/((Itt K a).go i H/\∃N:St->Hp->Prop,(∀u f,N u f->∃A,A<m/\W (i+1) A u f)/\∀x f,(Itt K a).yld i H x f->g x σ f λw t=>B { D with nx:=N,ct:=N,bk:=D.nx } w t):=by
 fail"b"
 rintro i m σ H ⟨rfl,C,p⟩;have q:=E i σ H C p;by_cases o:i<xs.length
 .refine .inr {{xs,xs[i],q,by simp[o]},Pv (i+1),λu f I=>{xs.length-(i+1),(),rfl,o,I},λx f y=>?_}
  obtain⟨e,y⟩:=y;subst e;exact G i x σ _ (y xs q) p
 .have e:i=xs.length:=()
  subst e;exact .inl {{xs,q,zx _},hd σ H p}
theorem ju{lo:Int}{n:Nat}{g:TG}{B:TS}{D:XY}{σ:St}{H:Hp}(Pv:Nat->St->Hp->Prop)(h0:Pv 0 σ H)
  (C:∀i σ H,i<n->Pv i σ H->g (.int (lo+i)) σ H λw t=>B { D with nx:=Pv (i+1),ct:=Pv (i+1),bk:=D.nx } w t) (hd:∀σ H,Pv n σ H->D.nx σ H) :
  ∃W:Nat->Nat->St->Hp->Prop,(∃m,W 0 m σ H)/\∀i m σ H,W i m σ H ->
   ((Itr lo n).stop i H/\D.nx σ H)\/((Itr lo n).go i H/\∃N:St->Hp->Prop,(∀u f,N u f->∃A,A<m/\W (i+1) A u f)/\∀x f,(Itr lo n).yld i H x f->g x σ f λw t=>B { D with nx:=N,ct:=N,bk:=D.nx } w t):=by
 refine{λi m σ H=>m=n-i/\i<=n/\Pv i σ H,{n,1e3,qJ _,h0},?_}
 rintro i m σ H ⟨rfl,G,p⟩;by_cases o:i<n
 .refine .inr {o,Pv (i+1),λu f E=>{n-(i+1),(),rfl,o,E},λx f y=>?_}
  obtain⟨e,y⟩:=y;subst e y;exact C i σ _ o p
 .have e:i=n:=()
  subst e;exact .inl {zx _,hd σ H p}
abbrev R2:=V->V->Hp->VK->Prop
def OpR(X:Cx)(f:Value->Value->Sem Value)(r:R2):Prop:=
 ∀(e:List 0#p) (s:Shared) (σ:St) (H:Hp) (x y:V) (v u:Value) (Q:VK),Inv X e σ H s->RelV x v->RelV y u->r x y H Q ->
  wpAny 0#e X.A (f v u) (EP X e σ Q) X.xe s
def jD(X:Cx)(f:Value)(r:List V->Hp->VK->Prop):Prop:=
 ∀(e:List 0#p) (s:Shared) (σ:St) (H:Hp) (t:List V) (o:List Value) (Q:VK),Inv X e σ H s->Vals t o->r t H Q ->
  wpAny 0#e X.A (call f o) (EP X e σ Q) X.xe s
def tOp(r:R2)(o t:TE):TE:=λσ H Q=>o σ H λx e=>t σ e λy f=>r x y f Q
inductive rI(C:Int->Int->Prop)(g:Int->Int->V)(x:V)(y:V)(H:Hp)(Q:VK):Prop
 | mk (i j:_) (_:x=.int i) (_:y=.int j) (_:C i j) (_:Q (g i j) H):rI C g x y H Q
inductive rI0(g:Int->Int->V)(x:V)(y:V)(H:Hp)(Q:VK):Prop
 | mk (i j:_) (_:x=.int i) (_:y=.int j) (_:Q (g i j) H):rI0 g x y H Q
section
variable{X:Cx}{a b c:Expr}{e o A:TE}{w:Pos}
theorem zjZ(G:PE X a e)(hb:PE X b o){t:List 0#p}{s:Shared}{σ:St}{H:Hp}{R:V->V->Hp->Prop}(I:Inv X t σ H s)
  (h:e σ H λx C=>o σ C λy B=>R x y B) {Q:Value->Shared->Prop} {f:Value->Value->Sem Value}
  (J:∀v u s2 x y B,Inv X t σ B s2->RelV x v->RelV y u->R x y B->wpAny 0#e X.A (f v u) Q X.xe s2) :
  wpAny 0#e X.A (eval a X.env) (λv N=>wpAny 0#e X.A (eval b X.env) (λu O=>wpAny 0#e X.A (f v u) Q X.xe O) X.xe N) X.xe s:=by
 refine thn (G t s σ H _ I h) λv s1 ⟨x,C,D,L,q1⟩=>?_
 refine thn (hb t s1 σ C _ D q1) λu s2 ⟨y,B,E,M,q2⟩=>?_
 exact J v u s2 x y B E L M q2
theorem zE{t:Operator}{r:R2}(E:OpR X (binaryOp t) r)(D:PE X a e)(hb:PE X b o):PE X (.BinOp a t b w) (tOp r e o):=by
 intro f s σ H Q I h;exact wpAny_BinOp (zjZ D hb I h λv u s2 x y B C G J q=>E f s2 σ B x y v u Q C G J q)
theorem opI{f:Value->Value->Sem Value}{C:Int->Int->Prop}{g:Int->Int->Int}
  (rule:∀(i j:Int) (t u:Tok) (s:Shared) (Q:Value->Shared->Prop) (E:Value->Shared->Prop),C i j->Q (.int (g i j) s.toks) { s with toks:=s.toks+1 }->wpAny 0#e X.A (f (.int i t) (.int j u)) Q E s) :
  OpR X f (rI C λi j=>.int (g i j)):=by
 intro B s σ H x y v u Q I D G h;obtain⟨i,j,rfl,rfl,hc,q⟩:=h;obtain⟨t,rfl⟩:=D;obtain⟨J,rfl⟩:=G;exact rule i j t J s _ _ hc {.int (g i j),H,I.tok _,{_,rfl},q}
theorem zkH{f:Value->Value->Sem Value}{g:Int->Int->Int}
  (rule:∀(i j:Int) (t u:Tok) (s:Shared) (Q:Value->Shared->Prop) (E:Value->Shared->Prop),Q (.int (g i j) s.toks) { s with toks:=s.toks+1 }->wpAny 0#e X.A (f (.int i t) (.int j u)) Q E s) :
  OpR X f (rI0 λi j=>.int (g i j)):=by
 intro B s σ H x y v u Q I C D h;obtain⟨i,j,rfl,rfl,q⟩:=h;obtain⟨t,rfl⟩:=C;obtain⟨G,rfl⟩:=D;exact rule i j t G s _ _ {.int (g i j),H,I.tok _,{_,rfl},q}
theorem zhk{f:Value->Value->Sem Value}{g:Int->Int->Bool}
  (rule:∀(i j:Int) (t u:Tok) (s:Shared) (Q:Value->Shared->Prop) (E:Value->Shared->Prop),Q (.bool (g i j)) s->wpAny 0#e X.A (f (.int i t) (.int j u)) Q E s) :
  OpR X f (rI0 λi j=>.bl (g i j)):=by
 intro B s σ H x y v u Q I C D h;obtain⟨i,j,rfl,rfl,q⟩:=h;obtain⟨t,rfl⟩:=C;obtain⟨G,rfl⟩:=D;exact rule i j t G s _ _ {.bl (g i j),H,I,rfl,q}
def zk9(i j:Int):Prop:=0<j/\j<1073741824
def zlu(i j:Int):Prop:=0<=j/\j<=1000000/\i.natAbs<2^64
def CMul(i j:Int):Prop:=(-(2^64)<i/\i<2^64)\/(-(2^64)<j/\j<2^64)
theorem CMul.ok{i j:Int}(h:CMul i j):IntMulOk i j:=by
 rcases h with ⟨h1,h2⟩ | ⟨h1,h2⟩
 .exact .of_left (intBits_le_64 h1 h2)
 .exact .of_right (intBits_le_64 h1 h2)
theorem qN:OpR X (binaryOp .Add) (rI0 λi j=>.int (i+j)):=zkH λ_ _ _ _ _ _ _ q=>add_int q
theorem yw:OpR X (binaryOp .Sub) (rI0 λi j=>.int (i-j)):=zkH λ_ _ _ _ _ _ _ q=>sub_int q
theorem xR:OpR X (binaryOp .Mult) (rI CMul λi j=>.int (i*j)):=opI λ_ _ _ _ _ _ _ hc q=>mul_int q hc.ok
theorem zcM:OpR X (binaryOp .FloorDiv) (rI zk9 λi j=>.int (i/j)):=opI λi j _ _ _ _ _ hc q=>by
 have h1:(0:Int)<j:=hc.1;have h2:j<1073741824:=hc.2;exact floordiv_int () (by rw[zgt i ()];exact q) (.inl (PyProof.noPylong_small ()))
theorem vc:OpR X (binaryOp .Mod) (rI (λ_ j=>0<j) λi j=>.int (i % j)):=opI λi j _ _ _ _ _ hc q=>by
 have h1:(0:Int)<j:=hc;exact mod_int' () (by rw[zgs i ()];exact q)
theorem zfw:OpR X (binaryOp .Pow) (rI zlu λi j=>.int (i^j.toNat)):=opI λ_ _ _ _ _ _ _ hc q=>pow_int_small hc.1 hc.2.1 hc.2.2 q
end
def zkl:V->V->Bool
 | .non,.non=>true | .non,.int _=>true | .int _,.non=>true | .non,.bl _=>true | .bl _,.non=>true | .non,.str _=>true | .str _,.non=>true
 | .int _,.int _=>true | .bl _,.bl _=>true | .str _,.str _=>true | .byt _,.byt _=>true
 | .int _,.str _=>true | .str _,.int _=>true | .bl _,.str _=>true | .str _,.bl _=>true
 | _,_=>false
def rEq:R2:=λx y H Q=>zkl x y=true/\Q (.bl (decide (x=y))) H
def rNe:R2:=λx y H Q=>zkl x y=true/\Q (.bl (!decide (x=y))) H
theorem zdb{i j:Int}:decide (V.int i=V.int j)=(i==j):=by
 rw[ZP];simp
theorem zge{i j:Bool}:decide (V.bl i=V.bl j)=(i==j):=by
 rw[ZP];simp
theorem zda{i j:Str}:decide (V.str i=V.str j)=(i==j):=by
 rw[ZP];simp
theorem zdc{i j:Array UInt8}:decide (V.byt i=V.byt j)=(i.toList==j.toList):=by
 rw[ZP];cases i;cases j;simp
section
variable{X:Cx}{a b c:Expr}{f w B:TE}{A:Pos}
theorem qI{o:List (Addr×Obj)}{σ:St}{H:Hp}{s:Shared}{Q:VK}{k t:Bool}(I:Inv X o σ H s)(q:Q (.bl k) H)(e:k=t):EP X o σ Q (.bool t) s:=by
 subst e;exact{.bl k,H,I,rfl,q}
theorem Zm:OpR X (compareOp .Eq) rEq:=by
 intro E s σ H x y v u Q I D e h;obtain⟨C,q⟩:=h;cases x with
 | non=>
  cases D;cases y with
  | non=>cases e;exact PySem.EqNone.eq_none_none 0#S
  | bl j=>cases e;exact PySem.EqNone.eq_none_bool 0#S
  | int j=>obtain⟨o,rfl⟩:=e;exact PySem.EqNone.eq_none_int 0#S
  | str j=>obtain⟨o,rfl⟩:=e;exact PySem.EqNone.eq_none_str 0#S
  | _=>exact absurd (show false=true from C) jr
 | bl i=>
  cases D;cases y with
  | non=>cases e;exact PySem.EqNone.eq_bool_none 0#S
  | bl j=>cases e;exact eq_bool (qI I q zge)
  | str j=>obtain⟨o,rfl⟩:=e;exact PySem.EqMixed.eq_bool_str 0#S
  | _=>exact absurd (show false=true from C) jr
 | int i=>
  obtain⟨t,rfl⟩:=D;cases y with
  | non=>cases e;exact PySem.EqNone.eq_int_none 0#S
  | int j=>obtain⟨o,rfl⟩:=e;exact eq_int (qI I q zdb)
  | str j=>obtain⟨o,rfl⟩:=e;exact PySem.EqMixed.eq_int_str 0#S
  | _=>exact absurd (show false=true from C) jr
 | str i=>
  obtain⟨t,rfl⟩:=D;cases y with
  | non=>cases e;exact PySem.EqNone.eq_str_none 0#S
  | bl j=>cases e;exact PySem.EqMixed.eq_str_bool 0#S
  | int j=>obtain⟨o,rfl⟩:=e;exact PySem.EqMixed.eq_str_int 0#S
  | str j=>obtain⟨o,rfl⟩:=e;exact eq_str (qI I q zda)
  | _=>exact absurd (show false=true from C) jr
 | byt i=>
  obtain⟨t,rfl⟩:=D;cases y with
  | byt j=>obtain⟨o,rfl⟩:=e;exact PySem.W.eq_bytes (qI I q zdc)
  | _=>exact absurd (show false=true from C) jr
 | _=>cases y<;>exact absurd (show false=true from C) jr
theorem Zl:OpR X (compareOp .NotEq) rNe:=by
 intro E s σ H x y v u Q I D e h;obtain⟨C,q⟩:=h;cases x with
 | non=>
  cases D;cases y with
  | non=>cases e;exact PySem.EqNone.ne_none_none 0#S
  | bl j=>cases e;exact PySem.EqNone.ne_none_bool 0#S
  | int j=>obtain⟨o,rfl⟩:=e;exact PySem.EqNone.ne_none_int 0#S
  | str j=>obtain⟨o,rfl⟩:=e;exact PySem.EqNone.ne_none_str 0#S
  | _=>exact absurd (show false=true from C) jr
 | bl i=>
  cases D;cases y with
  | non=>cases e;exact PySem.EqNone.ne_bool_none 0#S
  | bl j=>cases e;exact ne_bool (qI I q (congrArg not zge))
  | str j=>obtain⟨o,rfl⟩:=e;exact PySem.EqMixed.ne_bool_str 0#S
  | _=>exact absurd (show false=true from C) jr
 | int i=>
  obtain⟨t,rfl⟩:=D;cases y with
  | non=>cases e;exact PySem.EqNone.ne_int_none 0#S
  | int j=>obtain⟨o,rfl⟩:=e;exact ne_int (qI I q (congrArg not zdb))
  | str j=>obtain⟨o,rfl⟩:=e;exact PySem.EqMixed.ne_int_str 0#S
  | _=>exact absurd (show false=true from C) jr
 | str i=>
  obtain⟨t,rfl⟩:=D;cases y with
  | non=>cases e;exact PySem.EqNone.ne_str_none 0#S
  | bl j=>cases e;exact PySem.EqMixed.ne_str_bool 0#S
  | int j=>obtain⟨o,rfl⟩:=e;exact PySem.EqMixed.ne_str_int 0#S
  | str j=>obtain⟨o,rfl⟩:=e;exact ne_str (qI I q (congrArg not zda))
  | _=>exact absurd (show false=true from C) jr
 | byt i=>
  obtain⟨t,rfl⟩:=D;cases y with
  | byt j=>obtain⟨o,rfl⟩:=e;exact PySem.W.ne_bytes (qI I q (congrArg not zdc))
  | _=>exact absurd (show false=true from C) jr
 | _=>cases y<;>exact absurd (show false=true from C) jr
theorem Y1:OpR X (compareOp .Lt) (rI0 λi j=>.bl (decide (i<j))):=zhk λ_ _ _ _ _ _ _ q=>lt_int q
theorem zcL:OpR X (compareOp .LtE) (rI0 λi j=>.bl (decide (i<=j))):=zhk λ_ _ _ _ _ _ _ q=>le_int q
theorem ziE:OpR X (compareOp .Gt) (rI0 λi j=>.bl (decide (j<i))):=zhk λ_ _ _ _ _ _ _ q=>gt_int q
theorem zkG:OpR X (compareOp .GtE) (rI0 λi j=>.bl (decide (j<=i))):=zhk λ_ _ _ _ _ _ _ q=>ge_int q
theorem qO(b:Expr){e:CmpOp}(h:e≠.In:=by decide)(h2:e≠.NotIn:=by decide):behindInMarks e b=false:=by
 have e1:(e==CmpOp.In)=false:=by cases e<;>first| rfl | exact absurd rfl h
 have e2:(e==CmpOp.NotIn)=false:=by cases e<;>first| rfl | exact absurd rfl h2
 cases b<;>simp[behindInMarks,e1,e2]
theorem xz{o:CmpOp}{r:R2}(E:OpR X (compareOp o) r)(D:PE X a f)(hb:PE X b w)(hm:behindInMarks o b=false):PE X (.Compare a [o] [b] A) (tOp r f w):=by
 intro e s σ H Q I h;exact wpAny_Compare1 (zjZ D hb I h λv u s2 x y t C G J q=>E e s2 σ t x y v u Q C G J q) hm
def zia(t:TE):TT:=λσ H Q=>t σ H λx e=>IsB x e Q
theorem qG{t:CmpOp}{r:R2}(N:OpR X (compareOp t) r)(M:PE X a f)(hb:PE X b w)(hm:behindInMarks t b=false):PT X (.Compare a [t] [b] A) (zia (tOp r f w)):=by
 intro o s σ H Q I h;refine wpAny_isTrue_Compare1 (thn (M o s σ H _ I h) λv s1 ⟨x,C,G,O,q1⟩=>thn (hb o s1 σ C _ G q1) λu s2 ⟨y,D,J,U,q2⟩=>
  thn (N o s2 σ D x y v u _ J O U q2) λc s3 ⟨z,E,L,Y,k,e,q3⟩=>?_) hm
 subst e;cases Y;exact yc ⟨E,L,q3⟩
def ziY(r C:R2)(f w B:TE):TE:=λσ H Q=>f σ H λx o=>w σ o λy t=>r x y t λz e=>∃k,z=.bl k /\
 (if k=true then B σ e λD u=>C y D u Q else Q (.bl false) e)
theorem JT{D t:CmpOp}{r J:R2}(ho:OpR X (compareOp D) r)(C:OpR X (compareOp t) J)(ha:PE X a f)(hb:PE X b w)(hc:PE X c B)
  (hm:lastMarks [D,t] [b,c]=false:=by with_unfolding_all rfl):PT X (.Compare a [D,t] [b,c] A) (zia (ziY r J f w B)):=by
 intro o s σ H Q I h;refine isTrue_chain (thn (ha o s σ H _ I h) λv s1 ⟨x,M,Y,r1,q1⟩=>test_link (thn (hb o s1 σ M _ Y q1) λu s2 ⟨y,N,I2,L,q2⟩=>
  thn (ho o s2 σ N x y v u _ I2 r1 L q2) λd s3 ⟨z,E,G,r3,k,e,q3⟩=>?_)) hm
 subst e;cases r3;refine yc ?_
 cases k with
 | false=>
  obtain⟨k',e',q'⟩:=q3;cases e';exact ite_ff ⟨E,G,q'⟩
 | true=>
  refine ite_tt (test_last (thn (hc o s3 σ E _ G q3) λw' s4 ⟨z',O,I4,r4,q4⟩=>thn (C o s4 σ O y z' u w' _ I4 L r4 q4) λd' s5 ⟨z2,U,I5,r5,k2,e2,q5⟩=>?_))
  subst e2;cases r5;exact yc ⟨U,I5,q5⟩
theorem Xa:(sizeLine:Nat)<2^63:=by rw[sizeLine_eq];decide
inductive Qs(x:V)(y:V)(H:Hp)(Q:VK):Prop
 | mk (i j:_) (_:x=.str i) (_:y=.str j) (_:i.length+j.length<=sizeLine) (_:Q (.str (i++j)) H):Qs x y H Q
theorem za7:OpR X (binaryOp .Add) (Qs):=by
 intro e s σ H x y v u Q I C D h;obtain⟨i,j,rfl,rfl,o,q⟩:=h;obtain⟨t,rfl⟩:=C;obtain⟨E,rfl⟩:=D;exact add_str (λE G=>{.str (i++j),H,I.tok _,{_,rfl},q}) o
theorem vX{x:V}{e:List Value}(r:Vals [x] e):∃u,e=[u]/\RelV x u:=by
 cases r with
 | cons o t=>cases t;exact{_,rfl,o}
theorem JK{x y:V}{e:List Value}(r:Vals [x,y] e):∃u o,e=[u,o]/\RelV x u/\RelV y o:=by
 cases r with
 | cons t C=>
  cases C with
  | cons D E=>cases E;exact{_,_,rfl,t,D}
inductive XW(e:List V)(H:Hp)(Q:VK):Prop
 | mk (i:_) (_:e=[.int i]) (_:Q (.int (if i<0 then -i else i)) H):XW e H Q
theorem wL:jD X (.builtin "abs") (XW):=by
 intro e s σ H D C Q I r h;obtain⟨i,rfl,q⟩:=h;obtain⟨u,rfl,t,rfl⟩:=vX r;exact call_abs_int λu o=>{.int (if i<0 then -i else i),H,I.tok _,{_,rfl},q}
inductive Jl(e:List V)(H:Hp)(Q:VK):Prop
 | mk (i j:_) (_:e=[.int i,.int j]) (_:Q (.int (if j>i then j else i)) H):Jl e H Q
theorem QE(hc:X.calm=true):jD X (.builtin "max") (Jl):=by
 intro o s σ H L G Q I r h;obtain⟨i,j,rfl,q⟩:=h;obtain⟨u,J,rfl,⟨t,rfl⟩,⟨D,rfl⟩⟩:=JK r;refine max_two_ints 0#Q λC E k=>{_,H,I.kept k,?_,q}
 by_cases e:j>i
 .rw[zt e,zt e];exact{_,rfl}
 .rw[zq e,zq e];exact{_,rfl}
inductive Jk(e:List V)(H:Hp)(Q:VK):Prop
 | mk (i j:_) (_:e=[.int i,.int j]) (_:Q (.int (if j<i then j else i)) H):Jk e H Q
theorem VW(hc:X.calm=true):jD X (.builtin "min") (Jk):=by
 intro o s σ H L G Q I r h;obtain⟨i,j,rfl,q⟩:=h;obtain⟨u,J,rfl,⟨t,rfl⟩,⟨D,rfl⟩⟩:=JK r;refine min_two_ints 0#Q λC E k=>{_,H,I.kept k,?_,q}
 by_cases e:j<i
 .rw[zt e,zt e];exact{_,rfl}
 .rw[zq e,zq e];exact{_,rfl}
theorem Zg:jD X (.type "int") (λe H Q=>(∃i,e=[.int i]/\Q (.int i) H)\/∃k,e=[.bl k]/\Q (.int (if k then 1 else 0)) H):=by
 intro o s σ H e D Q I r h;rcases h with ⟨i,rfl,q⟩ | ⟨k,rfl,q⟩
 .obtain⟨u,rfl,t,rfl⟩:=vX r
  exact call_int_int {.int i,H,I,{_,rfl},q}
 .obtain⟨u,rfl,C⟩:=vX r
  cases C;exact call_int_bool {.int (if k then 1 else 0),H,I.tok _,{_,rfl},q}
inductive Zx(e:List V)(H:Hp)(Q:VK):Prop
 | mk (i j:_) (_:e=[.int i,.int j]) (_:zk9 i j) (_:∀p,H p=none->Q (.ref p) (upd H p (.tup [.int (i/j),.int (i % j)]))):Zx e H Q
theorem zau:jD X (.builtin "divmod") (Zx):=by
 intro C s σ H L G Q I r h;obtain⟨i,j,rfl,⟨h1,h2⟩,q⟩:=h;obtain⟨u,J,rfl,⟨t,rfl⟩,⟨E,rfl⟩⟩:=JK r;refine divmod_int () ?_ (.inl (PyProof.noPylong_small ()))
 rw[zgt i (),zgs i ()]
 have D:H s.heap.objs.size=none:=I.hok.fresh (zx _);refine{.ref s.heap.objs.size,_,?_,rfl,q _ D}
 refine I.laid (λb o e=>zH _ e) (zx _) {by simp only[qH,yQ];rw[sizeLine_eq];decide,[.int (i/j) s.toks,.int (i % j) (s.toks+1)],.cons {_,rfl} (.cons {_,rfl} .nil),?_}
 exact{{_,qo s.heap rfl,rfl,0,rfl},_,qo s.heap rfl,rfl}
end
structure ObjM(h:Heap)(x dx C:Addr)(mA:Str->Option Value):Prop where
 obj:h.get? x=some (PySem.W.instObj C dx)
 ns:h.Ns1 dx mA
 ne:dx≠x
section
variable{o:Program}{w:World}{A:Around}{E:Value->Shared->Prop}{s:Shared}{K:W.Frag}{x t C f:Addr}{u:Str->Option Value}{e:Str}{v:Value}
end
theorem RelO.some_of{v:V}{o:Option Value}(r:RelO (some v) o):∃u,o=some u/\RelV v u:=by
 cases o with
 | none=>exact(show False from r).elim
 | some u=>exact⟨u,rfl,r⟩
section
variable{P:Program}{w:World}{H f:Hp}{h u:Heap}{a C o:Addr}{t e:List (Str×V)}
end
structure Cls(K:W.Frag)(C:Addr):Prop where
 pg:PySem.W.plainGet K C Str.empty=true
 hd:PySem.W.hasDictIn K C=true
 po:PySem.W.plainOver K C=true
 sa:PySem.W.findIn K (.ref C) "__setattr__" = some (some (.builtin "object.__setattr__"))
structure Con(K:W.Frag)(C:Addr)(f:Str)(v:V)(u:Value):Prop where
 at_:PySem.W.findIn K (.ref C) f=some (some u)
 rel:RelV v u
 get:PySem.W.specialIn K u "__get__" = some none
 cp:PySem.W.copiedNames.contains f=false
structure Meth(K:W.Frag)(C:Addr)(m:Str)(f:Addr):Prop where
 at_:PySem.W.findIn K (.ref C) m=some (some (.ref f))
 fn:PySem.W.isFn K (.ref f)=true
 kp:PySem.W.keepIn K (.ref f)=true
section
variable{X:Cx}{e:List (Addr×Obj)}{σ:St}{H:Hp}{s:Shared}{a C o:Addr}{t:List (Str×V)}{f:Str}{v:V}{A:Around}{E:Value->Shared->Prop}
end
section
variable{X:Cx}{o e t:Expr}{f:Str}{A u w:Pos}{B C:TE}
end
section
variable{X:Cx}{f:List (Addr×Obj)}{σ:St}{H:Hp}{s:Shared}{A:Around}{E:Value->Shared->Prop}{Q:Value->Shared->Prop}{c:Value}{b:Bool}
inductive XV(K:W.Frag)(H:Hp):V->Value->Prop where
 | non:XV K H .non (.type "NoneType")
 | bl (x:Bool):XV K H (.bl x) (.type "bool")
 | int (i:Int):XV K H (.int i) (.type "int")
 | str (x:Str):XV K H (.str x) (.type "str")
 | flt (x:UInt64):XV K H (.flt x) (.type "float")
 | lst {a:Addr} {u:List V} (e:H a=some (.lst u)):XV K H (.ref a) (.type "list")
 | frz {a:Addr} {o:Obj} {u:List V} (e:H a=some (.frz o (.lst u))):XV K H (.ref a) (.type "list")
 | tup {a:Addr} {u:List V} (e:H a=some (.tup u)):XV K H (.ref a) (.type "tuple")
 | dK {a:Addr} {t:List (Key×V)} (e:H a=some (.dK t)):XV K H (.ref a) (.type "dict")
 | dT {a:Addr} {t:List (List Key×V)} (e:H a=some (.dT t)):XV K H (.ref a) (.type "dict")
 | ins {a C w:Addr} {B:List (Str×V)} (e:H a=some (.ins C w B)) (G:Cls K C) (I:PySem.W.findIn K (.ref C) "__class__" = some (some (.builtin "object.__class__")))
   (J:PySem.W.specialIn K (.builtin "object.__class__") "__get__" = some (some (.builtin "getset_descriptor.__get__"))) (D:PySem.W.takesIn K (.builtin "object.__class__")=some true)
   (hm:PySem.W.mroIn K C (.type "object")=some true):XV K H (.ref a) (.ref C)
end
structure Room(k:Nat)(A:Around):Prop where
 hd:A.handled=none
 dp:A.depth+3*k+5<recursionLimit
 un:A.units+16*k+200<cLine
 gd:A.guards=some []
theorem Room.mono{j k:Nat}{A:Around}(r:Room k A)(h:j<=k):Room j A:={r.hd,by have:=r.dp;omega,by have:=r.un;omega,r.gd}
theorem Room.m{j k:Nat}{A:Around}(r:Room k A)(h:j<=k:=by decide):Room j A:=r.mono h
theorem Room.deeper{k:Nat}{A:Around}(r:Room (k+1) A)(e:Env):Room k (A.deeper e):=
 {r.hd,by have:=r.dp;show A.depth+1+3*k+5<_;omega,by have:=r.un;show A.units+3+16*k+200<_;omega,r.gd}
theorem Room.depth{k:Nat}{A:Around}(r:Room k A):A.depth<recursionLimit:=by have:=r.dp;omega
theorem Room.units{k:Nat}{A:Around}(r:Room k A):A.units+64<cLine:=by have:=r.un;omega
theorem Room.units0{k:Nat}{A:Around}(r:Room k A):A.units<cLine:=by have:=r.un;omega
def zj8:TA:=λ_ H Q=>Q [] H
def Vo(o:TE)(t:TA):TA:=λσ H Q=>o σ H λx e=>t σ e λu f=>Q (x::u) f
section
variable{X:Cx}{e:Expr}{o:List Expr}{w:TE}{t:TA}{f:Pos}
theorem ze:PA X [] zj8:=λ_ _ _ _ H Q I h=>yT {[],H,I,.nil,h}
theorem za(G:PE X e w)(J:PA X o t)(L:starEach (e::o) X.env=(false,eval e X.env)::starEach o X.env:=by rfl):PA X (e::o) (Vo w t):=by
 intro f A s σ H Q I h;rw[L];show wpAny _ _ (spliced ((false,eval e X.env)::backTo f (starEach o X.env))) _ _ s;refine ye (thn (G A s σ H _ I h) λu s1 ⟨x,B,D,M,q1⟩=>?_)
 exact thn (J f A s1 σ B _ D q1) λU s2 ⟨O,C,E,N,q2⟩=>{x::O,C,E,.cons M N,q2}
def zlc(t:TA):TE:=λσ H Q=>t σ H λA u=>A.length<=sizeLine/\∀p,u p=none->Q (.ref p) (upd u p (.tup A))
def zlg(t:TA):TE:=λσ H Q=>t σ H λA u=>A.length<=sizeLine/\∀p,u p=none->Q (.ref p) (upd u p (.lst A))
theorem qD{G}(h:PA X o t):PE X (.Tuple o G f) (zlc t):=by
 intro A s σ H Q I hq;refine wpAny_Tuple_spliced (thn (h f A s σ H _ I hq) λE s1 ⟨J,B,C,r,z,q⟩=>{by rw[<- r.length];exact z,?_})
 have D:B s1.heap.objs.size=none:=C.hok.fresh (zx _);refine{.ref s1.heap.objs.size,upd B s1.heap.objs.size (.tup J),C.laid (t':=s1.toks) (λb u e=>zH _ e) (zx _) ?_,rfl,q _ D}
 exact{z,E,r,{_,qo _ rfl,rfl,_,rfl},_,qo _ rfl,rfl}
theorem je(h:PA X o t):PE X (.List o f) (zlg t):=by
 intro A s σ H Q I hq;refine wpAny_List_spliced (thn (h f A s σ H _ I hq) λE s1 ⟨G,B,C,r,z,q⟩=>{by rw[<- r.length];exact z,?_})
 have D:B s1.heap.objs.size=none:=C.hok.fresh (zx _);refine{.ref s1.heap.objs.size,upd B s1.heap.objs.size (.lst G),C.laid (t':=s1.toks) (λb u e=>zH _ e) (zx _) ?_,rfl,q _ D}
 exact{z,E,0,r,qo _ rfl}
end
abbrev Sp:=List V->Hp->VK->XK->Prop
abbrev CXT:=List Env->Hp->Shared->XK->Value->Shared->Prop
structure zh6(P:Program)(w:World)(K:W.Frag)(mg:Str->Option Value)(base:Heap)(A:Around)(outer:List Env)(s:Shared)(H:Hp):Prop where
 frames:A.frames=some outer
 mod:Mod K mg base
 bs:∀b o,base.get? b=some o->s.heap.get? b=some o/\H b=none
 bsz:base.objs.size<=s.heap.objs.size
 funs:s.heap.FunFrames base outer
 frf:∀b∈frs outer,H b=none
 hok:HOk P w H s.heap
 bare:AllBare s.gens
def CE(e:List Env)(P:Program)(w:World)(H:Hp)(s:Shared)(Q:VK)(u:Value)(f:Shared):Prop:=
 ∃v o,f.os=s.os/\AllBare f.gens/\Un (frs e) [] H o s.heap f.heap/\HOk P w o f.heap/\RelV v u/\Q v o
def CR(t:CXT)(f:List Env)(P:Program)(w:World)(H:Hp)(s:Shared)(Q:VK)(E:XK)(r:Result)(o:Shared):Prop:=
 match r with
 | .ok (.ret u)=>CE f P w H s Q u o
 | .ok _=>False
 | .error e=>t f H s E e o
structure FnOk(P:Program)(w:World)(K:W.Frag)(mg:Str->Option Value)(base:Heap)(CX:CXT)(k:Nat)(f:Addr)(fd:FuncData)(ps:List Str)(sp:Sp):Prop where
 len:∀vs H Q E,sp vs H Q E->vs.length=ps.length
 run:∀(A:Around) (outer:List Env) (s:Shared) (H:Hp) (args:Args) (us:List Value) (vs:List V) (Q:VK) (E:XK),Room k A->zh6 P w K mg base A outer s H->BindsTo s fd args (ps.zip us)->Vals vs us->sp vs H Q E ->
  codeAny (model P w) A (.call (.ref f) args) (CR CX outer P w H s Q E) s
theorem FnOk.mono{P:Program}{w:World}{K:W.Frag}{B:Str->Option Value}{e:Heap}{t:CXT}{j k:Nat}{f:Addr}{u:FuncData}{C:List Str}{D:Sp}(F:FnOk P w K B e t j f u C D)(h:j<=k) :
  FnOk P w K B e t k f u C D:={F.len,λA o s H args I J Q E G=>F.run A o s H args I J Q E (G.mono h)}
section
variable{X:Cx}{e:List (Addr×Obj)}{σ:St}{H:Hp}{s f:Shared}
theorem Inv.env0(I:Inv X e σ H s):zh6 X.prog X.w X.K X.mg X.base X.A X.stack s H:=
 {I.ok.frames,I.ok.mod,I.bs,jx I.ok.bsz I.sz,I.stack,I.stkFree,I.hok,I.bare}
theorem Inv.after{Q:VK}{u:Value}(I:Inv X e σ H s)(h:CE X.stack X.prog X.w H s Q u f):EP X e σ Q u f:=by
 obtain⟨v,B,os,o,un,w,r,q⟩:=h;obtain⟨C,g,d,t,A⟩:=f;obtain rfl:A=s.os:=os;exact{v,B,I.call (h':=C) (g':=g) (d':=d) (t':=t) (ch:=[]) un w o (λb z=>absurd z 1e3),r,q}
end
def zic(o:Sp)(e:List V)(E:XK)(t:TA):TE:=λσ H Q=>t σ H λu f=>o (u++e) f Q E
def Binds(K:W.Frag)(t:FuncData)(o:List Str)(f:List Value):Prop:=
 ∀(s:Shared) (e:List Value),K.In s.heap->(e++f).length=o.length->BindsTo s t {e,[]} (o.zip (e++f))
theorem Binds.all{K:W.Frag}{o:FuncData}{f:List Str}(h:∀e:List Value,e.length=f.length->bindArgs o {e,[]}=pure (f.zip e)):Binds K o f []:=λs e _ t=>by
 rw[xN] at t ⊢;exact .of_eq (h e t)
def zb4(t:CXT)(X:Cx)(E:XK):Prop:=∀(f:List (Addr×Obj)) (σ:St) (H:Hp) (s:Shared) (e:Value) (o:Shared),Inv X f σ H s->t X.stack H s E e o->X.xe e o
section
variable{X:Cx}{J:CXT}{k:Nat}{f C:Addr}{L:FuncData}{G:List Str}{M:Sp}{w:List V}{A:List Value}{E:XK}{x m:Str}{p B N:Pos}{e o:Expr}{D:List Expr}{O:TE}{t:TA}
theorem zi5{U:List (Addr×Obj)}{σ:St}{H:Hp}{s:Shared}{Q:VK}{Y:List Value}{vs:List V}(F:FnOk X.prog X.w X.K X.mg X.base J k f L G M)(hr:Room k X.A)(hb:Binds X.K L G A)(hd:Vals w A)(hx:zb4 J X E)
  (I:Inv X U σ H s) (r:Vals vs Y) (h:M (vs++w) H Q E):wpAny 0#e X.A (call (.ref f) Y) (EP X U σ Q) X.xe s:=by
 have r2:Vals (vs++w) (Y++A):=r.append hd;have hl:(Y++A).length=G.length:=by rw[<- r2.length];exact F.len _ _ _ _ h
 refine wpAny_call (codeAny_mono (F.run X.A X.stack s H {Y,[]} (Y++A) (vs++w) Q E hr I.env0 (hb s Y I.kIn hl) r2 h) λr s' hq=>?_)
 cases r with
 | error e=>exact hx U σ H s e s' I hq
 | ok fl=>
  cases fl with
  | ret u=>exact I.after hq
  | next=>exact False.elim hq
  | brk=>exact False.elim hq
  | cont=>exact False.elim hq
theorem zhf(F:FnOk X.prog X.w X.K X.mg X.base J k f L G M)(hr:Room k X.A)(hg:Gl X x)(hm:X.mg x=some (.ref f))(hk:PySem.W.keepIn X.K (.ref f)=true)(hb:Binds X.K L G A)(hd:Vals w A)(hx:zb4 J X E)
  (ha:PA X (e::D) t) (U:(x==("__debug__":Str))=false:=by decide) (he:starEach (e::D) X.env=(false,eval e X.env)::starEach D X.env:=by rfl) (Y:(backTo B (starEach D X.env)).any (·.1)=false:=by rfl) :
  PE X (.Call (.Name x p) (e::D) [] B) (zic M w E t):=by
 intro u s σ H Q I h;refine wpAny_Call_Name_kw (zhz I hg hm ?_ U)
 refine PySem.W.callWith_K (h₀:=X.base) I.ok.mod.kin hk (thn (ha B u s σ H _ I h) λus s1 ⟨vs,H1,I1,r,q⟩=>{I1.kIn,?_}) he Y
 exact zi5 F hr hb hd hx I1 r q
structure Mk(K:W.Frag)(C f:Addr):Prop where
 makes:PySem.W.makesIn K C=true
 init:PySem.W.findIn K (.ref C) "__init__" = some (some (.ref f))
 fn:PySem.W.isFn K (.ref f)=true
 kp:PySem.W.keepIn K (.ref C)=true
end
section
variable{X:Cx}{D:CXT}{k:Nat}{f C:Addr}{fd:FuncData}{ps ks:List Str}{I:Sp}{E:XK}{x m:Str}{p B u w:Pos}{e o:Expr}{G:List Expr}{A:List Keyword}{L J:TE}{t M:TA}{H:Option Str}
structure KBinds(K:W.Frag)(fd:FuncData)(ps ks:List Str)(g:List Value->List Value->List Value)(gV:List V->List V->List V):Prop where
 to:∀(s:Shared) (us ws:List Value),K.In s.heap->(g us ws).length=ps.length->BindsTo s fd {us,ks.zip ws} (ps.zip (g us ws))
 rel:∀{vs:List V} {us:List Value} {zs:List V} {ws:List Value},Vals vs us->Vals zs ws->Vals (gV vs zs) (g us ws)
variable{g:List Value->List Value->List Value}{gV:List V->List V->List V}
end
structure zM(N P:List Str)(sc:Scope):Prop where
 kind:sc.kind=.function
 co:sc.isCoroutine=false
 gen:sc.isGenerator=false
 nd:N.Nodup
 pre:N.take P.length=P
 par:∀x∈P,sc.names.lookup x=some .local\/sc.names.lookup x=some .cell
 nofree:∀y∈sc.names,y.2≠.free
theorem VY{kindOf:Str->Option NameKind}{x:Str}:∀{e:List (Str×Value)} {m:Str->Option Value},(∀v,(x,v)∉e)->bindL kindOf e m x=m x
 | [],_,_=>rfl
 | (n,v)::r,m,h=>by
  unfold bindL;rw[VY λw f=>h w (jf _ f)]
  split
  .have:x≠n:=by rintro rfl;exact h v xp
   simp[this]
  .rfl
theorem V0{kindOf:Str->Option NameKind}{x:Str}:∀{e:List (Str×Value)} {m:Str->Option Value},(∀v,(x,v)∉e)->bindC kindOf e m x=m x
 | [],_,_=>rfl
 | (n,v)::r,m,h=>by
  unfold bindC;rw[V0 λw f=>h w (jf _ f)]
  split
  .rfl
  .have:x≠n:=by rintro rfl;exact h v xp
   simp[this]
theorem VZ{kindOf:Str->Option NameKind}{x:Str}{v:Value}:∀{P:List Str} {e:List Value} {i:Nat} {m:Str->Option Value},P.Nodup->P[i]? =some x->e[i]? =some v->kindOf x=some .local ->
  bindL kindOf (P.zip e) m x=some v
 | [],_,_,_,_,h,_,_=>by simp at h
 | _::_,[],_,_,_,_,h,_=>by simp at h
 | p::P,w::e,0,m,f,h1,h2,hk=>by
  simp at h1 h2;subst h1;subst h2
  show bindL kindOf ((p,w)::P.zip e) m p=_;unfold bindL;rw[VY λv o=>(vh.mp f).1 (zby o).1,zt hk]
  simp
 | p::P,w::e,i+1,m,f,h1,h2,hk=>by
  show bindL kindOf ((p,w)::P.zip e) m x=_;unfold bindL;exact VZ (i:=i) (vh.mp f).2 (by simpa using h1) (by simpa using h2) hk
theorem V1{kindOf:Str->Option NameKind}{x:Str}{v:Value}:∀{P:List Str} {e:List Value} {i:Nat} {m:Str->Option Value},P.Nodup->P[i]? =some x->e[i]? =some v->kindOf x≠some .local ->
  bindC kindOf (P.zip e) m x=some v
 | [],_,_,_,_,h,_,_=>by simp at h
 | _::_,[],_,_,_,_,h,_=>by simp at h
 | p::P,w::e,0,m,f,h1,h2,hk=>by
  simp at h1 h2;subst h1;subst h2
  show bindC kindOf ((p,w)::P.zip e) m p=_;unfold bindC;rw[V0 λv o=>(vh.mp f).1 (zby o).1,zq hk]
  simp
 | p::P,w::e,i+1,m,f,h1,h2,hk=>by
  show bindC kindOf ((p,w)::P.zip e) m x=_;unfold bindC;exact V1 (i:=i) (vh.mp f).2 (by simpa using h1) (by simpa using h2) hk
def Q4(N:List Str)(e:List V):St:=e.map some++List.replicate (N.length-e.length) none
def zbp(u:CXT)(P:Program)(w:World)(K:W.Frag)(mg:Str->Option Value)(base:Heap)(N:List Str)(qual:Str)(scope:Scope)(f:Addr)(t:Value)(A:Around)(outer:List Env)(s:Shared)(H:Hp)(E:XK):Cx where
 prog:=P
 w:=w
 K:=K
 mg:=mg
 base:=base
 A:=A.deeper (envOfC qual scope s.heap.objs.size f t)
 N:=N
 s₀:=s
 H₀:=H
 env:=envOfC qual scope s.heap.objs.size f t
 outer:=outer
 stack:=envOfC qual scope s.heap.objs.size f t::outer
 ex:=[]
 calm:=true
 fn:=λ_=>true
 pn:=[]
 xe:=λe C=>wpAny (model P w) (A.deeper (envOfC qual scope s.heap.objs.size f t)) (leaving (envOfC qual scope s.heap.objs.size f t) e) (λ_ o=>u outer H s E e o) (λB o=>u outer H s E B o) C
theorem zar{e:Scope}{n:Nat}{x:Str}(h:e.names.lookup x=some .cell):∃c,(cellsFrom n e.names []).lookup x=some c:=by
 have q:=PySem.W.cellsFrom_some e.names n [] (.inl h);exact Option.isSome_iff_exists.mp q
theorem zd9{Q:CXT}{P:Program}{w:World}{K:W.Frag}{M:Str->Option Value}{t:Heap}{N D:List Str}{qual:Str}{scope:Scope}{f:Addr}{J:Value}{A:Around}{o:List Env}{s s1:Shared}{H:Hp}{E:XK}{O:List Value}{G:List V}
  (S:zM N D scope) (hd:A.handled=none) (B:zh6 P w K M t A o s H) (hl:G.length=D.length) (r:Vals G O)
  (x:InCallC s s.heap.objs.size (bindL (envOfC qual scope s.heap.objs.size f J).kindOf (D.zip O) λ_=>none) (cellsFrom 0#O scope.names []) (bindC (envOfC qual scope s.heap.objs.size f J).kindOf (D.zip O) λ_=>none) s1) :
  Inv (zbp Q P w K M t N qual scope f J A o s H E) [] (Q4 N G) H s1:=by
 have Y:D.length<=N.length:=by have:=congrArg List.length S.pre;rw[jb] at this;omega
 obtain⟨h1,tk,rfl,hk⟩:=x.done;have C:∀b:Addr,b∉(zbp Q P w K M t N qual scope f J A o s H E).ex:=λb z=>absurd (show b∈([]:List Addr) from z) 1e3
 refine{{B.mod,S.kind,rfl,rfl,zx _,λy z c h1 h2=>?_,λy hy=>?_,λy c _ h=>?_,λ_=>hd,Around.frames_deeper B.frames,.inr ⟨rfl,rfl⟩,λb z=>absurd z (C b),B.bs,B.bsz,λb _ _=>C b,λb z=>absurd z (C b),B.funs,B.frf},
  rfl,B.bare,Un.kept hk,{_,x.toInCall.ns,λi y v h1 h2 h3=>?_},λy c h=>{_,x.cell y c h},B.hok.fresh (zx _),λy c h=>?_,λp hp=>absurd (show p∈([]:List 0#p) from hp) 1e3,B.hok.kept hk,?_}
 .exact name_of_addr x.apart (yf h1) (yf h2)
 .have hy:scope.names.lookup y=some .cell\/scope.names.lookup y=some .free:=hy
  rcases hy with hy | hy
  .exact zar hy
  .exact absurd rfl (S.nofree _ (yf hy))
 .exact yN (x.above y c (yf h))
 .have L:i<G.length:=by
   unfold Q4 at h2;by_cases L:i<G.length
   .exact L
   .rw[xr (by simpa using L)] at h2
    rw[List.getElem?_replicate] at h2
    split at h2<;>cases h2
  have U:G[i]? =some v:=by
   unfold Q4 at h2;rw[x6 (by simpa using L),zT] at h2
   cases e:G[i]? with
   | none=>rw[e] at h2;cases h2
   | some a=>rw[e] at h2;cases h2;rfl
  obtain⟨u,hu,rv⟩:=r.get U;have hp:D[i]? =some y:=by
   rw[<- S.pre,Yk ()];exact h1
  have I:D.Nodup:=by rw[<- S.pre];exact S.nd.sublist (zbI _ _)
  refine{u,rv,?_}
  rcases S.par y (qw hp) with k | k
  .exact .inl {k,VZ I hp hu k}
  .obtain⟨c,e⟩:=zar (n:=s.heap.objs.size+1) k
   refine .inr {.inl k,c,e,?_}
   have q:=x.cell y c e;rw[V1 I hp hu (by show scope.names.lookup y≠_;rw[k];decide)] at q
   exact q
 .exact B.hok.fresh (yN (x.above y c (yf h)))
 .unfold Q4
  show _=N.length;rw[qu,zm,yh];omega
theorem zkZ{CX:CXT}{P:Program}{w:World}{K:W.Frag}{mg:Str->Option Value}{D:Heap}{k:Nat}{f:Addr}{O qual:Str}{G:Arguments}{body:List Stmt}{scope:Scope}{dV kV aa pm C ct oc:Value}{an od:Option Addr}
  {ah:Array (Option Value)} {N ps:List Str} {sp:Sp} (lk:K.lookup f=some {oc,od,.func (PySem.W.fnOf O qual G body scope dV kV aa pm an C ct),ah}) (af:PySem.W.codeIn K C qual=true) (S:zM N ps scope)
  (ae:∀L H Q E,sp L H Q E->L.length=ps.length)
  (U:∀(A:Around) (B:List Env) (s:Shared) (H:Hp) (L:List V) (Q:VK) (E:XK),Room k (A.deeper (envOfC qual scope s.heap.objs.size f C))->sp L H Q E ->
   ∃t,PSs (zbp CX P w K mg D N qual scope f C A B s H E) body t/\t { nx:=λ_ M=>Q .non M,rt:=Q } (Q4 N L) H) :
  FnOk P w K mg D CX (k+1) f (PySem.W.fnOf O qual G body scope dV kV aa pm an C ct) ps sp:=by
 refine{ae,λA B s H args us L Q E hr e0 hb r ac=>?_}
 have hl:=ae _ _ _ _ ac;have KX:K.In s.heap:=e0.mod.kin.keeps λb o e=>(e0.bs b o e).1
 have ag:s.heap.NoLimit:=e0.mod.nolimit.keeps λb o e=>(e0.bs b o e).1
 have Y:∀y∈ps.zip us,scope.names.lookup y.1=some .local\/(scope.names.lookup y.1=some .cell/\((cellsFrom 0#O scope.names []).lookup y.1).isSome=true):=λ⟨n,v⟩ hy=>by
  rcases S.par n (zby hy).1 with q | q
  .exact .inl q
  .exact .inr {q,PySem.W.cellsFrom_some _ _ _ (.inl q)}
 refine codeAny_call_function hr.depth (KX _ _ lk) rfl S.co S.gen rfl (PySem.W.codeRec_of KX af) (hb _ _ _ _ ?_)
 refine wpAny_newFunctionEnv_cells S.kind Y λai he s1 x=>?_
 subst he;refine{ag.keeps x.toInCall.keep,codeAny_func ?_}
 obtain⟨t,ht,hq⟩:=U A B s H L Q E (hr.deeper _) ac;have I:Inv (zbp CX P w K mg D N qual scope f C A B s H E) [] (Q4 N L) H s1:=zd9 S hr.hd e0 hl r x;refine z9 (ht [] s1 (Q4 N L) H _ I hq) (λfl s' hs=>?_) λe s' hs=>hs
 have ab:∀{σ':St} {M:Hp} {v:V} {u:Value},Inv (zbp CX P w K mg D N qual scope f C A B s H E) [] σ' M s'->RelV v u->Q v M->CE B P w H s Q u s':=
  λ{σ' M v u} J rv q=>⟨v,M,J.os,J.bare,J.base,J.hok,rv,q⟩
 cases fl with
 | ret u=>
  obtain⟨v,σ',M,J,rv,q⟩:=hs;exact ab J rv q
 | next=>
  obtain⟨σ',M,J,q⟩:=hs;exact ab (v:=V.non) (u:=Value.none) J rfl q
 | brk=>
  obtain⟨_,_,_,q⟩:=hs;exact False.elim q
 | cont=>
  obtain⟨_,_,_,q⟩:=hs;exact False.elim q
section
variable{X:Cx}{x:Str}{p f:Pos}{e:Expr}{o:List Expr}{t:TA}{id T:String}{r:List V->Hp->VK->Prop}
def tCB(r:List V->Hp->VK->Prop)(t:TA):TE:=λσ H Q=>t σ H λw u=>r w u Q
theorem zr(hc:jD X (.builtin id) r)(G:Gl X x)(hm:X.mg x=none)(L:bootBuiltins x=some (.builtin id))(D:PA X (e::o) t)(J:x ≠ "__name__" :=by decide)(w:(x==("__debug__":Str))=false:=by decide)
  (E:starEach (e::o) X.env=(false,eval e X.env)::starEach o X.env:=by rfl) (A:(backTo f (starEach o X.env)).any (·.1)=false:=by rfl):PE X (.Call (.Name x p) (e::o) [] f) (tCB r t):=by
 intro u s σ H Q I h;refine wpAny_Call_Name_kw (wn I G hm L ?_ J w)
 exact PyProof.Rows.callWith_builtin1 (thn (D f u s σ H _ I h) λN s1 ⟨O,B,C,M,q1⟩=>hc u s1 σ B O N Q C M q1) E A
theorem qh(hc:jD X (.type T) r)(G:Gl X x)(hm:X.mg x=none)(L:bootBuiltins x=some (.type T))(D:PA X (e::o) t)(J:x ≠ "__name__" :=by decide)(w:(x==("__debug__":Str))=false:=by decide)
  (E:starEach (e::o) X.env=(false,eval e X.env)::starEach o X.env:=by rfl) (A:(backTo f (starEach o X.env)).any (·.1)=false:=by rfl):PE X (.Call (.Name x p) (e::o) [] f) (tCB r t):=by
 intro u s σ H Q I h;refine wpAny_Call_Name_kw (wn I G hm L ?_ J w)
 exact Je (thn (D f u s σ H _ I h) λN s1 ⟨O,B,C,M,q1⟩=>hc u s1 σ B O N Q C M q1) E A
end
end L2
namespace HT
open PySem PyProof.Rows
section
open PySem.SeqAt
open PySem.AutoSeq1 (wpAny_loadPart')
open PySem.MeetsSeq PySem.MeetsSeq2 PySem.MeetsSeq3
end
section
variable{f:Program}{w:World}{A:Around}{E:Value->Shared->Prop}{s:Shared}
theorem cat_tup{t b:Addr}{B o:List Value}{Q:Value->Shared->Prop}(ht:IsTup s.heap t B.toArray)(hb:IsTup s.heap b o.toArray)(O:B≠[])
  (h1:o=[]->Q (.ref t) s) (h2:o≠[]->Q 0#m { s with heap:=s.heap.push { cls:=.type "tuple",data:=.seq (B++o).toArray } })
  (L:B.length+o.length<=sizeLine):wpAny 0#n A (binaryOp .Add (.ref t) (.ref b)) Q E s:=by
 obtain⟨⟨cls,N,data,Y⟩,I,hc,n,hd⟩:=id ht;obtain⟨⟨M,C,data2,H⟩,u,D,U,G⟩:=id hb;simp only at hc hd D G;subst hc hd D G;have e:B.toArray++o.toArray=(B++o).toArray:=1e3
 by_cases J:o=[]
 .exact concat_meets {_,I,rfl} {_,u,rfl} noFill_tuple_add seq_tuple_add zbT zbV (zbW _ _)
   (tuple_addW1 t b B.toArray o.toArray n U N C Y H (by simpa using O) (by simp[J])) {I,u,h1 J}
 .refine concat_meets {_,I,rfl} {_,u,rfl} noFill_tuple_add seq_tuple_add zbT zbV (zbW _ _)
   (tuple_addW2 t b B.toArray o.toArray n U N C Y H (by simpa using O) (by simpa using J) (by rw[zW,zW];exact L)) {I,u,?_}
  rw[e];exact h2 J
def sIx(n d:Nat):Option Int->Nat
 | none=>d
 | some v=>if v<0 then(v+(n:Int)).toNat else min v.toNat n
theorem sIx_none(n d:Nat):sIx n d none=d:=rfl
theorem sIx_nat(n d k:Nat):sIx n d (some (k:Int))=min k n:=by
 show(if(k:Int)<0 then((k:Int)+(n:Int)).toNat else min (k:Int).toNat n)=min k n
 rw[zq (),jC]
theorem zi4(n d:Nat)(hd:d<=n)(o:Option Int):sIx n d o<=n:=by
 cases o with
 | none=>exact hd
 | some v=>
  show(if v<0 then(v+(n:Int)).toNat else min v.toNat n)<=n
  by_cases e:v<0
  .rw[zt e];omega
  .rw[zq e];exact Nat.min_le_right _ _
theorem zdd(v:Int)(n d:Nat):(if v<0 then max (v+(n:Int)) 0 else min v (n:Int))=((sIx n d (some v):Nat):Int):=by
 show(if v<0 then max (v+(n:Int)) 0 else min v (n:Int))=(((if v<0 then(v+(n:Int)).toNat else min v.toNat n):Nat):Int)
 by_cases e:v<0
 .simp only[zt e];omega
 .simp only[zq e];omega
theorem zb2(lo e:Option Int)(n:Nat):Builtin.Slice.sliceAdjust lo e 1 (n:Int)=(((sIx n 0 lo:Nat):Int),((sIx n n e:Nat):Int)):=by
 have h1:¬((1:Int)<0):=()
 unfold Builtin.Slice.sliceAdjust;simp only[h1,if_false];refine ZJ ?_ ?_
 .cases lo with
  | none=>rfl
  | some v=>exact zdd v n 0
 .cases e with
  | none=>rfl
  | some v=>exact zdd v n n
theorem zaX(i j:Nat):Builtin.Slice.slicePlaces (i:Int) (j:Int) 1=j-i:=by
 unfold Builtin.Slice.slicePlaces;have h1:(1:Int)>0:=()
 simp only[h1,if_true,Int.ediv_one];split<;>omega
theorem JQ{v:Value}{o:Option Int}{Q:Option Int->Shared->Prop}(p:IsPart v o)(h:Q o s):wpAny 0#n A (Builtin.Slice.slicePartIndex v) Q E s:=by
 cases p with
 | none=>exact slicePart_none h
 | int i t=>exact slicePart_int h
theorem sliceApplied_gen{C:Addr}{u B:Value}{lo o:Option Int}{n:Nat}{Q:Int×Int×Nat->Shared->Prop}(G:s.heap.IsSliceOf C u B .none)(H:IsPart u lo)(I:IsPart B o)
  (h:Q (((sIx n 0 lo:Nat):Int),1,sIx n n o-sIx n 0 lo) s):wpAny 0#n A (Builtin.Slice.sliceApplied (.ref C) (pure (n:Int))) Q E s:=by
 obtain⟨os,t,D,e⟩:=id G;unfold Builtin.Slice.sliceApplied Builtin.Slice.sliceFields;refine zc (zc (jJ t e (x:=u) rfl (zc (jJ t e (x:=B) rfl (zc (jJ t e (x:=.none) rfl (zg ?_)))))))
 refine zc (slicePart_none ?_)
 show wpAny _ _ (if((1:Int)==0)=true then _ else _) _ _ s
 rw[zq 1e1]
 refine zc (JQ H (zc (JQ I (zc (zg ?_)))))
 show wpAny _ _ (match Builtin.Slice.sliceAdjust lo o 1 (n:Int) with | (lo,o)=>pure (lo,(1:Int),Builtin.Slice.slicePlaces lo o 1)) _ _ s
 rw[zb2 lo o n];show wpAny _ _ (pure (((sIx n 0 lo:Nat):Int),(1:Int),Builtin.Slice.slicePlaces ((sIx n 0 lo:Nat):Int) ((sIx n n o:Nat):Int) 1)) _ _ s;rw[zaX];exact zg h
theorem zfj(o:Array Value)(i k:Nat):((List.range k).filterMap λ(m:Nat)=>o[((i:Int)+(m:Int)*1).toNat]?).toArray=((o.toList.drop i).take k).toArray:=by
 have e:(λ(m:Nat)=>o[((i:Int)+(m:Int)*1).toNat]?)=λm=>o[i+m]?:=by
  funext m
  have:((i:Int)+(m:Int)*1).toNat=i+m:=()
  rw[this]
 rw[e];have:=pick_run o i k;rw[List.filterMap_map] at this;have e2:((λx=>o[x]?)∘λx=>i+x)=λm=>o[i+m]?:=rfl
 rw[e2] at this;rw[this]
theorem getItem_tuple_cut{t I:Addr}{e:Array Value}{M N:Value}{lo u:Option Int}{Q:Value->Shared->Prop}(B:IsTup s.heap t e)(J:s.heap.IsSliceOf I M N .none)(pl:IsPart M lo)(pu:IsPart N u)
  (Y:¬(sIx e.size 0 lo=0/\sIx e.size e.size u=e.size))
  (h:Q 0#m { s with heap:=s.heap.push { cls:=.type "tuple",data:=.seq ((e.toList.drop (sIx e.size 0 lo)).take (sIx e.size e.size u-sIx e.size 0 lo)).toArray } })
  (U:e.size<=sizeLine):wpAny 0#n A (getItem (.ref t) (.ref I)) Q E s:=by
 have o:sizeOk (.seq ((e.toList.drop (sIx e.size 0 lo)).take (sIx e.size e.size u-sIx e.size 0 lo)).toArray):=by
  show((e.toList.drop (sIx e.size 0 lo)).take (sIx e.size e.size u-sIx e.size 0 lo)).toArray.size<=sizeLine;rw[zW,jb,ZT,jt];omega
 have hj:sIx e.size e.size u<=e.size:=zi4 _ _ (zx _) u;obtain⟨os,H,D,O⟩:=id J;have C:s.TypeIs (.ref I) "slice" :=⟨os,H,D⟩;unfold getItem;try with_reducible refine jy ?_
 first| refine zc (zg ?_) | skip
 refine zc (wpAny_sequenceKey B.typeIs 1e1 ?_)
 refine zc (vn (name:=Str.ofString "__getitem__") B.typeIs zb0
  (jG zb0 B.typeIs entry_tuple_getitem ?_ (args_tuple_getitem _ _)))
 show wpAny _ _ (Builtin.Tuple.tupleItemsOf (.ref t) >>= _) _ _ s;refine zc (tupleItemsOf_ B ?_)
 refine zc (wq C ?_)
 rw[zt 1e1]
 refine zc (sliceApplied_gen J pl pu ?_)
 have G:¬((((sIx e.size 0 lo:Nat):Int)==0&&(1:Int)==1&&(sIx e.size e.size u-sIx e.size 0 lo)==e.size)=true):=by
  intro q;rw[jX,jX] at q;have q1:((sIx e.size 0 lo:Nat):Int)=0:=eq_of_beq q.1.1;have q2:sIx e.size e.size u-sIx e.size 0 lo=e.size:=eq_of_beq q.2;exact Y {(),()}
 show wpAny _ _ (if(((sIx e.size 0 lo:Nat):Int)==0&&(1:Int)==1&&(sIx e.size e.size u-sIx e.size 0 lo)==e.size)=true then _ else _) _ _ s
 rw[zq G,zfj];first
  | exact zc (m:=Builtin.Tuple.tupleExact _) (jv (zg {_,rfl,zg h}) o)
  | exact zc (m:=Builtin.Tuple.tupleExact _) (jv (zc (zg (zg {_,rfl,zg h}))) o)
  | exact zc (zc (m:=Builtin.Tuple.tupleExact _) (jv (zg (zg {_,rfl,zg h})) o))
  | exact zc (zc (m:=Builtin.Tuple.tupleExact _) (jv (zg {_,rfl,zg h}) o))
end
end HT
namespace L2
open PySem PySem.Spec PyProof.Rows
abbrev TO:=St->Hp->(Option Int->Hp->Prop)->Prop
def PO(X:Cx)(e:Option Expr)(t:TO):Prop:=
 ∀(f:List 0#p) (s:Shared) (σ:St) (H:Hp) (Q:Option Int->Hp->Prop),Inv X f σ H s->t σ H Q ->
  wpAny 0#e X.A (evalPart e X.env) (λu A=>∃o w,Inv X f σ w A/\IsPart u o/\Q o w) X.xe s
def zgQ:TO:=λ_ H Q=>Q none H
def zj6(t:TE):TO:=λσ H Q=>t σ H λx e=>IsI x e λi e=>Q (some i) e
theorem Xj{f:List Int}:∀{o:List Value},Vals (f.map V.int) o->IntsAre o f:=by
 induction f with
 | nil=>intro o r;rw[ZM] at r;cases r;exact .nil
 | cons n f u=>
  intro o r;rw[jR] at r;cases r with
  | cons w A=>
   obtain⟨t,e⟩:=w;subst e;exact .cons n t (u A)
section
variable{X:Cx}{e:Expr}{A:TE}{lo f:Option Expr}{D C:TO}{E B:Pos}
theorem wT:PO X none zgQ:=by
 intro o s σ H Q I h;rw[evalPart_none];exact zg {none,H,I,.none,h}
theorem vq(h:PE X e A):PO X (some e) (zj6 A):=by
 intro o s σ H Q I J;rw[evalPart_some];refine thn (h o s σ H _ I J) λu s1 ⟨x,w,G,L,q1⟩=>?_
 obtain⟨i,rfl,q⟩:=q1;obtain⟨t,rfl⟩:=L;exact{some i,w,G,.int i t,q}
def SlR(X:Cx)(r:V->Option Int->Option Int->Hp->VK->Prop):Prop:=
 ∀(o:List 0#p) (s:Shared) (σ:St) (H:Hp) (x:V) (v u w:Value) (lo f:Option Int) (t:Addr) (Q:VK),Inv X o σ H s->RelV x v->s.heap.IsSliceOf t u w .none->IsPart u lo->IsPart w f->r x lo f H Q ->
  ∃T id,typeLookup (.type T) "__getitem__" = pure (some (.builtin id))/\s.TypeIs v T/\wpAny 0#e X.A (getItem v (.ref t)) (EP X o σ Q) X.xe s
def tSl(r:V->Option Int->Option Int->Hp->VK->Prop)(A:TE)(D C:TO):TE:=λσ H Q=>A σ H λx o=>D σ o λl t=>C σ t λu w=>r x l u w Q
theorem xX{r:V->Option Int->Option Int->Hp->VK->Prop}(hr:SlR X r)(he:PE X e A)(hl:PO X lo D)(hu:PO X f C):PE X (.Subscript e (.Slice lo f none B) E) (tSl r A D C):=by
 intro o s σ H Q I h;refine Subscript_ (thn (he o s σ H _ I h) λv s1 ⟨x,L,N,r1,q1⟩=>?_)
 refine wpAny_Slice (thn (hl o s1 σ L _ N q1) λw s2 ⟨l,M,O,pl,q2⟩=>thn (hu o s2 σ M _ O q2) λG t ⟨u,J,U,pu,q3⟩=>?_)
 rw[evalPart_none];refine zg ?_
 have Y:Inv X o σ J { t with heap:=t.heap.push { cls:=.type "slice",data:=.fields #[w,G,.none] } }:=U.kept (t':=t.toks) λb ob q=>zH _ q
 obtain⟨T,id,hT,ht,hg⟩:=hr o { t with heap:=t.heap.push { cls:=.type "slice",data:=.fields #[w,G,.none] } } σ J x v w G l u t.heap.objs.size Q Y r1 (Heap.IsSliceOf.new ..) pl pu q3;show wpAny 0#e X.A (subscriptTail e (.Slice lo f none B) v (.ref t.heap.objs.size)) (EP X o σ Q) X.xe { t with heap:=t.heap.push { cls:=.type "slice",data:=.fields #[w,G,.none] } };exact tail_any (ops:=[.ref t.heap.objs.size,v]) ht hT hg (by with_unfolding_all rfl)
def jS(o:List V)(lo f:Option Int):List V:=(o.drop (HT.sIx o.length 0 lo)).take (HT.sIx o.length o.length f-HT.sIx o.length 0 lo)
theorem Ja(o:List V)(lo f:Option Int):(jS o lo f).length<=o.length:=by
 unfold jS;rw[jb,ZT];omega
inductive zkt(K:W.Frag)(x:V)(lo:Option Int)(f:Option Int)(H:Hp)(Q:VK):Prop
 | mk (a o:_) (_:x=.ref a) (_:SqT K H a o) (_:¬(HT.sIx o.length 0 lo=0/\HT.sIx o.length o.length f=o.length)) (_:∀p,H p=none->Q (.ref p) (upd H p (.tup (jS o lo f)))):zkt K x lo f H Q
theorem zaR:SlR X (zkt X.K):=by
 intro L s σ H x v vl vu lo f sl Q I Y M O U h;obtain⟨a,u,rfl,hx,N,q⟩:=h;cases Y;obtain⟨w,r,G,J⟩:=I.tuple hx;have t:w.toArray.size=u.length:=by rw[zW];exact r.length.symm
 refine{"tuple",_,zb0.lookup,G.typeIs,?_}
 refine HT.getItem_tuple_cut G M O U (by rw[t];exact N) ?_ (by rw[t];exact J)
 rw[t];refine{.ref s.heap.objs.size,_,I.laid (t':=s.toks) (o:=.tup (jS u lo f)) (λb ob q=>zH _ q) (zx _) ?_,rfl,q _ (I.hok.fresh (zx _))}
 exact{jx (Ja u lo f) J,_,(r.drop (HT.sIx u.length 0 lo)).take (HT.sIx u.length u.length f-HT.sIx u.length 0 lo),{IsTup.new _ _,_,qo _ rfl,rfl}}
inductive ziB(K:W.Frag)(x:V)(y:V)(H:Hp)(Q:VK):Prop
 | mk (a b t o:_) (_:x=.ref a) (_:y=.ref b) (_:SqT K H a t) (_:SqT K H b o) (_:t≠[]) (_:t.length+o.length<=sizeLine) (_:(o=[]->Q (.ref a) H)) (_:(o≠[]->∀p,H p=none->Q (.ref p) (upd H p (.tup (t++o))))):ziB K x y H Q
theorem Vals.nil_iff{t:List V}{o:List Value}(r:Vals t o):o=[]↔t=[]:=by
 cases r with
 | nil=>simp
 | cons _ _=>simp
theorem zhj:OpR X (binaryOp .Add) (ziB X.K):=by
 intro M s σ H x y v u Q I Y ry h;obtain⟨a,b,xs,ys,rfl,rfl,N,hb,hx,J,q1,q2⟩:=h;cases Y;cases ry;obtain⟨O,G,U,_⟩:=I.tuple N;obtain⟨L,t,B,_⟩:=I.tuple hb;refine HT.cat_tup U B (λz=>hx (G.nil_iff.mp z)) (λz=>{.ref a,H,I,rfl,q1 (t.nil_iff.mp z)}) (λz=>?_) (by rw[<- G.length,<- t.length];exact J)
 refine{.ref s.heap.objs.size,_,I.laid (t':=s.toks) (o:=.tup (xs++ys)) (λb ob q=>zH _ q) (zx _) ?_,rfl,q2 (λw=>z (t.nil_iff.mpr w)) _ (I.hok.fresh (zx _))}
 exact{by rw[qu];exact J,_,G.append t,{IsTup.new _ _,_,qo _ rfl,rfl}}
end
def ixN(n:Nat)(i:Int):Option Nat:=if 0<=i then(if i<n then some i.toNat else none) else if -(n:Int)<=i then some (i+n).toNat else none
def atI{α:Type}(e:List α)(i:Int):Option α:=(ixN e.length i).bind λj=>e[j]?
theorem zcX{n:Nat}{i:Int}{j:Nat}(h:ixN n i=some j):seqIndex? i n=some j/\j<n/\ -(n:Int)<=i/\i<n:=by
 unfold ixN at h;by_cases h0:0<=i
 .rw[zt h0] at h
  by_cases h1:i<n
  .rw[zt h1] at h
   have e:i.toNat=j:=jL h;exact{by rw[seqIndex_of h0 h1,e],(),(),h1}
  .rw[zq h1] at h;cases h
 .rw[zq h0] at h
  by_cases h1:-(n:Int)<=i
  .rw[zt h1] at h
   have e:(i+n).toNat=j:=jL h;exact{by rw[seqIndex_neg () h1,e],(),h1,()}
  .rw[zq h1] at h;cases h
theorem WP{α:Type}{f:List α}{i:Int}{v:α}(h:atI f i=some v):∃j,seqIndex? i f.length=some j/\f[j]? =some v/\j<f.length/\ -(f.length:Int)<=i/\i<f.length:=by
 unfold atI at h;cases e:ixN f.length i with
 | none=>rw[e] at h;cases h
 | some j=>
  rw[e] at h;obtain⟨h1,h2,h3,o⟩:=zcX e;exact⟨j,h1,h,h2,h3,o⟩
theorem jI{α:Type}{xs:List α}{j:Nat}{v:α}(h:xs[j]? =some v):atI xs (j:Int)=some v:=by
 have f:j<xs.length:=(zO.mp h).1;have e:ixN xs.length (j:Int)=some j:=by
  unfold ixN;rw[zt (),zt ()];simp
 unfold atI;rw[e];exact h
def zh2(b:Expr):Prop:=∀o i,subscripted b false o i=operate [o,i] (getItem o i)
def IxR(X:Cx)(r:R2):Prop:=
 ∀(o e:Expr) (f:List 0#p) (s:Shared) (σ:St) (H:Hp) (x y:V) (v u:Value) (Q:VK),Inv X f σ H s->RelV x v->RelV y u->r x y H Q ->
  subscripted e false v u=operate [v,u] (getItem v u)->wpAny 0#e X.A (subscriptTail o e v u) (EP X f σ Q) X.xe s
def MtR(X:Cx)(id:String)(r:V->List V->Hp->VK->Prop):Prop:=
 ∀(e:List 0#p) (s:Shared) (σ:St) (H:Hp) (x:V) (o:List V) (v:Value) (f:List Value) (Q:VK),Inv X e σ H s->RelV x v->Vals o f->r x o H Q ->
  wpAny 0#e X.A (call (.builtin id) (v::f)) (EP X e σ Q) X.xe s
section
variable{X:Cx}{a b:Expr}{J L:TE}{G:Pos}
theorem zu{r:R2}(N:IxR X r)(M:PE X a J)(hb:PE X b L)(O:zh2 b):PE X (.Subscript a b G) (tOp r J L):=by
 intro f s σ H Q I h;exact Subscript_ (zjZ M hb I h λv u s2 x y w A U Y q=>N a b f s2 σ w x y v u Q A U Y q (O _ _))
inductive zi9(K:W.Frag)(x:V)(y:V)(H:Hp)(Q:VK):Prop
 | mk (p f i v:_) (_:x=.ref p) (_:y=.int i) (_:SqL K H p f) (_:atI f i=some v) (_:Q v H):zi9 K x y H Q
inductive zi8(K:W.Frag)(x:V)(y:V)(H:Hp)(Q:VK):Prop
 | mk (p f i v:_) (_:x=.ref p) (_:y=.int i) (_:SqT K H p f) (_:atI f i=some v) (_:Q v H):zi8 K x y H Q
inductive zkv(x:V)(y:V)(H:Hp)(Q:VK):Prop
 | mk (z i c:_) (_:x=.str z) (_:y=.int i) (_:z.length<=sizeLine) (_:atI z.cps.toList i=some c) (_:Q (.str ⟨#[c]⟩) H):zkv  x y H Q
theorem qR:IxR X (zi9 X.K):=by
 intro aa Y f s σ H x y v u Q I rx ry h hs;obtain⟨p,xs,i,z,rfl,rfl,hq,he,q⟩:=h;cases rx;obtain⟨t,rfl⟩:=ry;obtain⟨N,r,O,hz⟩:=I.list hq;obtain⟨j,h1,h2,h3,h4,h5⟩:=WP he;obtain⟨w,ew,U⟩:=r.get h2;have hl:=r.length;have hn:=Xa;have A:EP X f σ Q w s:=⟨z,H,I,U,q⟩;by_cases h0:0<=i
 .have M:i.toNat=j:=by
   rw[seqIndex_of h0 h5] at h1;exact jL h1
  exact item_listR O.isList h0 () (by rw[M];simpa using ew) A hs
 .have M:(i+(N.toArray.size:Int)).toNat=j:=by
   rw[seqIndex_neg () h4] at h1
   rw[zW,<- hl];exact jL h1
  exact subscriptTail_builtinR (x:=w) O.isList.typeIs slot_list_getitem.lookup
   (wpAny_getItem_list_neg (Q:=λr s'=>r=w/\EP X f σ Q r s') O.isList () (by rw[zW]<;>omega) () (by rw[M];simpa using ew) ⟨rfl,A⟩) hs
theorem zF:IxR X (zi8 X.K):=by
 intro O N f s σ H x y v u Q I rx ry h hs;obtain⟨p,xs,i,z,rfl,rfl,hq,he,q⟩:=h;cases rx;obtain⟨t,rfl⟩:=ry;obtain⟨aa,r,U,hz⟩:=I.tuple hq;obtain⟨j,h1,h2,h3,h4,h5⟩:=WP he;obtain⟨w,Y,M⟩:=r.get h2;have hl:=r.length;have hn:=Xa;have A:EP X f σ Q w s:=⟨z,H,I,M,q⟩;exact subscriptTail_builtinR (x:=w) U.typeIs slot_tuple_getitem.lookup
  (getItem_tuple (j:=j) (Q:=λr s'=>r=w/\EP X f σ Q r s') U () () (by rw[zW,<- hl];exact h1) (by simpa using Y) ⟨rfl,A⟩) hs
theorem zjH:IxR X zkv:=by
 intro w f A s σ H x y v u Q I rx ry h Y;obtain⟨z,i,c,rfl,rfl,hz,O,q⟩:=h;obtain⟨t,rfl⟩:=rx;obtain⟨t',rfl⟩:=ry;obtain⟨j,h1,h2,h3,M,N⟩:=WP O;have U:z.cps.toList.length=z.length:=by simp[Str.length]
 rw[U] at h1 M N;have hn:=Xa;exact tail_any (typeIs_str s z t) slot_str_getitem.lookup (getItem_str (c:=c) (by
  have e1:decide (i< -(2^63:Int))=false:=jA ()
  have e2:decide (i≥2^63)=false:=jA ()
  rw[e1,e2,Bool.or_false]) (by rw[h1];simpa using h2) {.str ⟨#[c]⟩,H,I.tok _,{_,rfl},q}) Y
theorem zbc(f:List Value)(n j:Nat)(u:Value):Obj.mapSeq (·.setIfInBounds j u) { cls:=.type "list",data:=.seq f.toArray n }={ cls:=.type "list",data:=.seq (f.set j u).toArray n }:=by
 simp[Obj.mapSeq]
theorem Inv.lst{u:List (Addr×Obj)}{σ:St}{H:Hp}{s:Shared}{p:Addr}{w:List V}(I:Inv X u σ H s)(h:H p=some (.lst w)) :
  ∃(f:List Value) (n:Nat),Vals w f/\s.heap.get? p=some { cls:=.type "list",data:=.seq f.toArray n }/\w.length<=sizeLine:=by
 obtain⟨z,f,n,r,e⟩:=I.hok p _ h;exact⟨f,n,r,e,z⟩
theorem Inv.lstUpd{A:List (Addr×Obj)}{σ:St}{H:Hp}{s:Shared}{p:Addr}{xs O:List V}{M w:List Value}{n N:Nat}{f:Obj->Obj}(I:Inv X A σ H s)(h:H p=some (.lst xs))
  (U:s.heap.get? p=some { cls:=.type "list",data:=.seq M.toArray n }) (Q:f { cls:=.type "list",data:=.seq M.toArray n }={ cls:=.type "list",data:=.seq w.toArray N }) (r:Vals O w) (Y:O.length<=sizeLine) (t:Nat) :
  Inv X A σ (upd H p (.lst O)) { s with heap:=s.heap.update p f,toks:=t }:=by
 have e:(s.heap.update p f).get? p=some { cls:=.type "list",data:=.seq w.toArray N }:=by
  rw[xG f U (by rw[Q]<;>rfl),Q]
 refine I.write (x:=p) (e:=p) (by rw[h];trivial) (.inl rfl) (λb u hb q=>(vm _ _ (zS hb)).trans q) {_,e} ?_
 exact⟨Y,w,N,r,e⟩
inductive ziw(o:V)(i:V)(v:V)(H:Hp)(Q:Hp->Prop):Prop
 | mk (p f k j:_) (_:o=.ref p) (_:i=.int k) (_:H p=some (.lst f)) (_:ixN f.length k=some j) (_:Q (upd H p (.lst (f.set j v)))):ziw  o i v H Q
theorem JS:zh3 X ziw:=by
 intro w s σ H o i v ov iv u Q I ro ri rv h;obtain⟨p,xs,k,j,rfl,rfl,hp,U,q⟩:=h;cases ro;obtain⟨t,rfl⟩:=ri;obtain⟨f,n,r,M,Y⟩:=I.lst hp;obtain⟨h1,h2,h3,O⟩:=zcX U;have A:=r.length;have hn:=Xa;have N:Inv X w σ (upd H p (.lst (xs.set j v))) { s with heap:=s.heap.update p (Obj.mapSeq (·.setIfInBounds j u)) }:=
  I.lstUpd hp M (zbc f n j u) (r.set rv j) (by rw[XJ];exact Y) s.toks
 by_cases h0:0<=k
 .have hk:k.toNat=j:=by
   rw[seqIndex_of h0 O] at h1;exact jL h1
  exact PySem.W.ki_setAt M h0 () (by rw[zW,<- A];exact O) (by rw[hk];exact{_,N,q})
 .have hk:(k+(f.toArray.size:Int)).toNat=j:=by
   rw[seqIndex_neg () h3] at h1
   rw[zW,<- A];exact jL h1
  exact PySem.W.ki_setBack M () (by rw[zW,<- A];exact h3) () (by rw[hk];exact{_,N,q})
theorem Wg(lo f:Option Int)(n:Nat):(sliceBounds lo f none n).1=((HT.sIx n 0 lo:Nat):Int)/\(sliceBounds lo f none n).2.1=((HT.sIx n n f:Nat):Int)/\(sliceBounds lo f none n).2.2=1:=by
 refine{?_,?_,rfl}
 .cases lo with
  | none=>simp[sliceBounds,HT.sIx]
  | some i=>
   simp only[sliceBounds,HT.sIx,Option.getD_none,show(1:Int)>0 by decide,if_true]
   by_cases h:i<0
   .simp only[h,if_true]<;>omega
   .simp only[h,if_false]<;>omega
 .cases f with
  | none=>simp[sliceBounds,HT.sIx]
  | some i=>
   simp only[sliceBounds,HT.sIx,Option.getD_none,show(1:Int)>0 by decide,if_true]
   by_cases h:i<0
   .simp only[h,if_true]<;>omega
   .simp only[h,if_false]<;>omega
theorem X3(f:List Value)(lo u:Option Int):slicePick f.toArray lo u none=((f.drop (HT.sIx f.length 0 lo)).take (HT.sIx f.length f.length u-HT.sIx f.length 0 lo)).toArray:=by
 obtain⟨h1,h2,h3⟩:=Wg lo u f.toArray.size;unfold slicePick;rw[h1,h2,h3];simp only[sliceRange_one,pick_run,zW]<;>rfl
inductive zku(K:W.Frag)(x:V)(lo:Option Int)(f:Option Int)(H:Hp)(Q:VK):Prop
 | mk (a u:_) (_:x=.ref a) (_:SqL K H a u) (_:∀p,H p=none->Q (.ref p) (upd H p (.lst (jS u lo f)))):zku K x lo f H Q
theorem y4:SlR X (zku X.K):=by
 intro M s σ H x v vl vu lo w sl Q I rx N Y pu h;obtain⟨a,f,rfl,hx,q⟩:=h;cases rx;obtain⟨U,r,A,O⟩:=I.list hx;have u:=r.length;refine{"list",_,slot_list_getitem.lookup,A.isList.typeIs,?_}
 refine wpAny_getItem_list_slice A.isList N Y pu .none 1e3 ?_ (by rw[zW]<;>omega)
 rw[X3,<- u];refine{.ref s.heap.objs.size,_,I.laid (t':=s.toks) (o:=.lst (jS f lo w)) (λb ob q=>zH _ q) (zx _) ?_,rfl,q _ (I.hok.fresh (zx _))}
 exact{jx (Ja f lo w) O,_,0,(r.drop (HT.sIx f.length 0 lo)).take (HT.sIx f.length f.length w-HT.sIx f.length 0 lo),qo _ rfl}
def xB:V->Bool
 | .non=>true
 | .bl _=>true
 | .int _=>true
 | .str _=>true
 | _=>false
def eqV:V->V->Bool
 | .non,.non=>true
 | .bl a,.bl b=>a==b
 | .bl a,.int b=>(if a then 1 else 0)==b
 | .int a,.bl b=>a==(if b then 1 else 0)
 | .int a,.int b=>a==b
 | .str a,.str b=>a==b
 | _,_=>false
theorem WF{A:Around}{s:Shared}{y x:V}{u v:Value}(I:RelV y u)(f:RelV x v)(M:xB y=true)(H:xB x=true):SeqAt.EqAt A s u v (eqV y x):=by
 cases y with
 | non=>
  cases I;cases x with
  | non=>cases f;exact SeqAt.EqAt.same _
  | bl b=>cases f;exact SeqAt.EqAt.none_bool b
  | int b=>obtain⟨t,rfl⟩:=f;exact SeqAt.EqAt.none_int b t
  | str b=>obtain⟨t,rfl⟩:=f;exact SeqAt.EqAt.none_str b t
  | _=>exact absurd (show false=true from H) jr
 | bl a=>
  cases I;cases x with
  | non=>cases f;exact SeqAt.EqAt.bool_none a
  | bl b=>cases f;exact SeqAt.EqAt.bool_bool a b
  | int b=>obtain⟨t,rfl⟩:=f;exact SeqAt.EqAt.bool_int a b t
  | str b=>obtain⟨t,rfl⟩:=f;exact SeqAt.EqAt.bool_str a b t
  | _=>exact absurd (show false=true from H) jr
 | int a=>
  obtain⟨w,rfl⟩:=I;cases x with
  | non=>cases f;exact SeqAt.EqAt.int_none a w
  | bl b=>cases f;exact SeqAt.EqAt.int_bool a w b
  | int b=>obtain⟨t,rfl⟩:=f;exact SeqAt.EqAt.int_int a w b t
  | str b=>obtain⟨t,rfl⟩:=f;exact SeqAt.EqAt.int_str a w b t
  | _=>exact absurd (show false=true from H) jr
 | str a=>
  obtain⟨w,rfl⟩:=I;cases x with
  | non=>cases f;exact SeqAt.EqAt.str_none a w
  | bl b=>cases f;exact SeqAt.EqAt.str_bool a w b
  | int b=>obtain⟨t,rfl⟩:=f;exact SeqAt.EqAt.str_int a w b t
  | str b=>obtain⟨t,rfl⟩:=f;exact SeqAt.EqAt.str_str a w b t
  | _=>exact absurd (show false=true from H) jr
 | _=>exact absurd (show false=true from M) jr
def eqU(x:V)(u:Value):Bool:=match u with
 | .none=>eqV .non x
 | .bool b=>eqV (.bl b) x
 | .int i _=>eqV (.int i) x
 | .str z _=>eqV (.str z) x
 | _=>false
theorem zgc{x y:V}{u:Value}(r:RelV y u)(f:xB y=true):eqU x u=eqV y x:=by
 cases y with
 | non=>cases r;rfl
 | bl b=>cases r;rfl
 | int i=>obtain⟨t,rfl⟩:=r;rfl
 | str z=>obtain⟨t,rfl⟩:=r;rfl
 | _=>exact absurd (show false=true from f) jr
theorem Qm{x:V}:∀{w:List V} {A:List Value},Vals w A->w.all xB=true->A.any (eqU x)=w.any λy=>eqV y x
 | _,_,.nil,_=>rfl
 | y::w,u::A,.cons r t,f=>by
  rw[List.all_cons,jX] at f;rw[w9,w9,zgc r f.1,Qm t f.2]
theorem yz{A:Around}{s:Shared}{x:V}{v:Value}(M:RelV x v)(I:xB x=true):∀{H:List V} {w:List Value},Vals H w->H.all xB=true->∀u∈w,SeqAt.EqAt A s u v (eqU x u)
 | _,_,.nil,_=>λu hu=>by cases hu
 | y::H,u::w,.cons r t,f=>λN hu=>by
  rw[List.all_cons,jX] at f;rcases zP.mp hu with rfl | hu
  .rw[zgc r f.1];exact WF r M f.1 I
  .exact yz M I t f.2 N hu
def inV(x:V)(f:List V):Bool:=f.any λy=>eqV y x
inductive rIn(K:W.Frag)(f:Bool)(x:V)(y:V)(H:Hp)(Q:VK):Prop
 | mk (p u:_) (_:y=.ref p) (_:(SqL K H p u\/SqT K H p u)) (_:xB x=true) (_:u.all xB=true) (_:Q (.bl (if f then !inV x u else inV x u)) H):rIn K f x y H Q
theorem y8:OpR X (compareOp .In) (rIn X.K false):=by
 intro U s σ H x y v u Q I Y ry h;obtain⟨p,xs,rfl,hq,O,A,q⟩:=h;cases ry;rcases hq with hq | hq
 .obtain⟨f,r,N,hz⟩:=I.list hq
  refine SeqAt.in_listAt (eqU x) N.isList (λw M=>yz Y O r A w (by simpa using M)) {.bl _,H,I,rfl,?_}
  rw[show f.toArray.any (eqU x)=f.any (eqU x) by simp,Qm r A]
  exact q
 .obtain⟨f,r,N,hz⟩:=I.tuple hq
  refine SeqAt.in_tupleAt (eqU x) N (λw M=>yz Y O r A w (by simpa using M)) {.bl _,H,I,rfl,?_}
  rw[show f.toArray.any (eqU x)=f.any (eqU x) by simp,Qm r A]
  exact q
theorem Wp:OpR X (compareOp .NotIn) (rIn X.K true):=by
 intro U s σ H x y v u Q I Y ry h;obtain⟨p,xs,rfl,hq,O,A,q⟩:=h;cases ry;rcases hq with hq | hq
 .obtain⟨f,r,N,hz⟩:=I.list hq
  refine SeqAt.notIn_listAt (eqU x) N.isList (λw M=>yz Y O r A w (by simpa using M)) {.bl _,H,I,rfl,?_}
  rw[show f.toArray.any (eqU x)=f.any (eqU x) by simp,Qm r A]
  exact q
 .obtain⟨f,r,N,hz⟩:=I.tuple hq
  refine SeqAt.notIn_tupleAt (eqU x) N (λw M=>yz Y O r A w (by simpa using M)) {.bl _,H,I,rfl,?_}
  rw[show f.toArray.any (eqU x)=f.any (eqU x) by simp,Qm r A]
  exact q
inductive vW(K:W.Frag)(u:List V)(H:Hp)(Q:VK):Prop
 | mk (p f:_) (_:u=[.ref p]) (_:(SqL K H p f\/SqT K H p f)) (_:Q (.int f.length) H):vW K u H Q
theorem zC:jD X (.builtin "len") (vW X.K):=by
 intro N s σ H xs us Q I r h;obtain⟨p,O,rfl,hq,q⟩:=h;obtain⟨u,rfl,Y⟩:=vX r;cases Y;have hn:=Xa;rcases hq with hq | hq
 .obtain⟨w,M,A,U⟩:=I.list hq
  have f:=M.length;exact Calls.call_len_list A.isList (by simp only[zW]<;>omega) {.int O.length,H,I.tok _,{s.toks+1,by rw[zW,f]},q}
 .obtain⟨w,M,A,U⟩:=I.tuple hq
  have f:=M.length;exact len_tuple A (by simp only[zW]<;>omega) {.int O.length,H,I.tok _,{s.toks+1,by rw[zW,f]},q}
inductive yX(K:W.Frag)(u:List V)(H:Hp)(Q:VK):Prop
 | mk (p f:_) (_:u=[.ref p]) (_:(SqL K H p f\/SqT K H p f)) (_:∀l,H l=none->Q (.ref l) (upd H l (.lst f))):yX K u H Q
theorem Qk:jD X (.type "list") (yX X.K):=by
 intro aa s σ H xs us Q I r h;obtain⟨p,ys,rfl,hq,q⟩:=h;obtain⟨u,rfl,rx⟩:=vX r;cases rx;have N:∀(f:List Value),Vals ys f->ys.length<=sizeLine->∀(w:Heap) (A:Nat),(∀b o',s.heap.get? b=some o'->w.get? b=some o') ->
   w.get? s.heap.objs.size=some { cls:=.type "list",dict:=none,data:=.seq f.toArray A,slots:=#[] }->EP X aa σ Q 0#m { s with heap:=w }:=λf M U w A Y e=>
  {.ref s.heap.objs.size,_,I.laid (t':=s.toks) Y (zx _) (show ObjOk X.prog X.w _ w _ (.lst ys) from ⟨U,f,A,M,e⟩),rfl,q _ (I.hok.fresh (zx _))}
 rcases hq with hq | hq
 .obtain⟨f,M,pl,U⟩:=I.list hq
  have O:=M.length;obtain⟨o,ho,hc,n,hd⟩:=pl.isList;exact call_list_seq p (.inl rfl) ho hc hd (λw A Y e=>N f M U w A Y e) (by simp only[zW]<;>omega)
 .obtain⟨f,M,pl,U⟩:=I.tuple hq
  have O:=M.length;obtain⟨o,ho,hc,n,hd⟩:=pl;exact call_list_seq p (.inr rfl) ho hc hd (λw A Y e=>N f M U w A Y e) (by simp only[zW]<;>omega)
inductive vf(K:W.Frag)(u:List V)(H:Hp)(Q:VK):Prop
 | mk (p f:_) (_:u=[.ref p]) (_:((SqL K H p f/\∀l,H l=none->Q (.ref l) (upd H l (.tup f)))\/(SqT K H p f/\Q (.ref p) H))):vf K u H Q
theorem jc:jD X (.type "tuple") (vf X.K):=by
 intro f s σ H xs us Q I r h;obtain⟨p,ys,rfl,h⟩:=h;obtain⟨u,rfl,rx⟩:=vX r;cases rx;rcases h with ⟨hq,q⟩ | ⟨hq,q⟩
 .obtain⟨w,N,M,Y⟩:=I.list hq
  have U:=N.length;refine call_tuple_list M.isList (λA kp=>?_) (by simp only[zW]<;>omega)
  have O:Inv X f σ H { s with heap:=A }:=I.kept (t':=s.toks) kp;have I2:Inv X f σ (upd H A.objs.size (.tup ys)) { s with heap:=A.push { cls:=.type "tuple",data:=.seq w.toArray } }:=
   O.laid (t':=s.toks) (λb o e=>zH _ e) (zx _) (show ObjOk X.prog X.w _ _ _ (.tup ys) from {Y,w,N,{IsTup.new _ _,_,qo _ rfl,rfl}})
  exact{.ref A.objs.size,_,I2,rfl,q _ (O.hok.fresh (zx _))}
 .obtain⟨w,N,M,Y⟩:=I.tuple hq
  exact call_tuple_same M {.ref p,H,I,rfl,q}
def tyV(K:W.Frag)(T:String)(x:V)(H:Hp):Prop:=match x with
 | .str _=>T = "str"
 | .int _=>T = "int"
 | .ref p=>(T = "list" /\ ∃u,SqL K H p u)\/(T = "tuple" /\ ∃o,K.lookup p=some o/\o.cls=.type "tuple" /\ o.dict=none) \/
   (T = "dict" /\ ((∃f,H p=some (.dK f))\/∃f,H p=some (.dT f)))\/(T = "set" /\ ∃S n,H p=some (.set S n))
 | _=>False
theorem ziP{u:List (Addr×Obj)}{σ:St}{H:Hp}{s:Shared}{T:String}{x:V}{v:Value}(I:Inv X u σ H s)(r:RelV x v)(ty:tyV X.K T x H) :
  s.TypeIs v T/\∀a,v=.ref a->∃A,s.heap.get? a=some A/\A.dict=none:=by
 cases x with
 | str z=>
  obtain⟨t,rfl⟩:=r;cases(show T = "str" from ty)
  exact{typeIs_str s z t,λ_ e=>nomatch e}
 | int i=>
  obtain⟨t,rfl⟩:=r;cases(show T = "int" from ty)
  exact{typeIs_int s i t,λ_ e=>nomatch e}
 | ref p=>
  cases r;rcases ty with ⟨rfl,O,hq⟩ | ⟨rfl,o,hk,hc,hd⟩ | ⟨rfl,hk⟩ | ⟨rfl,S,n,hk⟩
  .obtain⟨N,_,M,_⟩:=I.list hq
   refine{M.isList.typeIs,λa e=>?_}
   cases e;obtain⟨o,n,e,c,hd,_⟩:=M;exact⟨o,e,hd⟩
  .refine{{o,I.kIn p o hk,hc},λa e=>?_}
   cases e;exact{o,I.kIn _ o hk,hd}
  .have z:∃o,s.heap.get? p=some o/\o.ExactDict:=by
    rcases hk with ⟨w,hk⟩ | ⟨w,hk⟩
    .obtain⟨_,_,_,_,o,_,_,e,f,_⟩:=I.hok p _ hk
     exact⟨o,e,f⟩
    .obtain⟨_,_,_,_,o,_,_,e,f,_⟩:=I.hok p _ hk
     exact⟨o,e,f⟩
   obtain⟨o,e,f⟩:=z;refine{⟨o,e,f.1⟩,λa e2=>?_}
   cases e2;exact⟨o,e,f.2.1⟩
  .obtain⟨o,_,_,_,e,f,_⟩:=I.hok p _ hk
   refine{⟨o,e,f.1⟩,λa e2=>?_}
   cases e2;exact⟨o,e,f.2.1⟩
 | _=>exact False.elim ty
def tBM(K:W.Frag)(T:String)(r:V->List V->Hp->VK->Prop)(to:TE)(t:TA):TE:=λσ H Q=>to σ H λx f=>tyV K T x f/\t σ f λw u=>r x w u Q
variable{o e:Expr}{E:List Expr}{to:TE}{t:TA}{C:Str}{D B:Pos}{T id:String}{r:V->List V->Hp->VK->Prop}
theorem JZ(pa:PlainAttrs T)(N:Slot T C id)(O:typeOf (.builtin id)=pure (.type "method_descriptor"))(hm:MtR X id r)(ho:PE X o to)(ha:PA X (e::E) t)
  (w:attributeBase o C X.env (eval o X.env)=eval o X.env:=by rfl)
  (M:((backTo B (starEach (e::E) X.env)).all (λx=>!x.1)&&(backToKw B (keywordEach [] X.env)).all (λx=>x.1.isSome)
   && decide ((e::E).length+([]:List Keyword).length+(if([]:List Keyword).isEmpty then 0 else 1)<30))=true:=by rfl)
  (A:(D.endLine==B.line)=true:=by rfl) (hs:starEach (e::E) X.env=(false,eval e X.env)::starEach E X.env:=by rfl) (u:(backTo B (starEach E X.env)).any (·.1)=false:=by rfl) :
  PE X (.Call (.Attribute o C D) (e::E) [] B) (tBM X.K T r to t):=by
 intro f s σ H Q I h;refine wpAny_Call_method_late w M A rfl (thn (ho f s σ H _ I h) λv s1 ⟨x,H1,U,r1,ty,q1⟩=>?_)
 obtain⟨h1,h2⟩:=ziP U r1 ty;refine{T,id,pa,N,O,h1,h2,?_}
 have Y:=ha B f s1 σ H1 _ U q1;rw[hs] at Y ⊢;refine Z2 (by show(false||(backTo B (starEach E X.env)).any (·.1))=false;rw[u]<;>rfl) (QT ?_)
 exact thn Y λus s2 ⟨vs,H2,I2,r2,q2⟩=>hm f s2 σ H2 x vs v us Q I2 r1 r2 q2
end
def MtM(X:Cx)(id:String)(r:V->List V->Hp->VK->Prop):Prop:=
 ∀(e:List 0#p) (s:Shared) (σ:St) (H:Hp) (x:V) (o:List V) (v:Value) (f:List Value) (Q:VK),Inv X e σ H s->RelV x v->Vals o f->r x o H Q ->
  wpAny 0#e X.A (call (.builtin id) (v::f)) (EP X e σ Q) X.xe s
theorem Vals.one:∀{x:V} {e:List Value},Vals [x] e->∃u,e=[u]/\RelV x u
 | _,_,.cons r .nil=>{_,rfl,r}
def ua:=@Vals.one
theorem Vals.two:∀{x y:V} {e:List Value},Vals [x,y] e->∃u v,e=[u,v]/\RelV x u/\RelV y v
 | _,_,_,.cons r (.cons q .nil)=>{_,_,rfl,r,q}
section
variable{X:Cx}{o:List (Addr×Obj)}{σ:St}{H:Hp}{s:Shared}{l b:Addr}{w t A:List V}
theorem Inv.lset{B its':List Value}{n:Nat}{f:Array Value->Array Value}{J:Nat}(I:Inv X o σ H s)(C:H l=some (.lst w))
  (e:s.heap.get? l=some { cls:=.type "list",data:=.seq B.toArray n }) (D:f B.toArray=its'.toArray) (E:Vals t its') (G:t.length<=sizeLine) :
  Inv X o σ (upd H l (.lst t)) { s with heap:=s.heap.update l (Obj.mapSeq f),toks:=J }:=by
 have q:=PySem.IsL.update e f;rw[D] at q;refine I.write (x:=l) (e:=l) (by rw[C];exact trivial) (.inl rfl) (λL u hb hu=>(vm s.heap (Obj.mapSeq f) (zS hb)).trans hu) {_,q} ?_
 exact{G,its',_,E,q}
theorem Inv.lnew{e:List Value}{t':Nat}(I:Inv X o σ H s)(f:Vals t e)(u:t.length<=sizeLine) :
  Inv X o σ (upd H s.heap.objs.size (.lst t)) { s with heap:=s.heap.push { cls:=.type "list",data:=.seq e.toArray },toks:=t' }:=
 I.laid (λ_ _ q=>zH _ q) (zx _) {u,e,0,f,qo _ rfl}
theorem Inv.fresh(I:Inv X o σ H s):H s.heap.objs.size=none:=I.hok.fresh (zx _)
theorem Inv.lstM(I:Inv X o σ H s)(u:H l=some (.lst w)):w.length<=sizeLine/\∃(f:List Value) (n:Nat),Vals w f/\w.length=f.length/\s.heap.get? l=some { cls:=.type "list",data:=.seq f.toArray n }:=by
 obtain⟨z,f,n,r,e⟩:=I.hok l _ u;exact⟨z,f,n,r,r.length,e⟩
end
section
variable{X:Cx}
inductive zcH(x:V)(f:List V)(H:Hp)(Q:VK):Prop
 | mk (l e y:_) (_:x=.ref l) (_:f=[y]) (_:H l=some (.lst e)) (_:e.length<sizeLine) (_:Q .non (upd H l (.lst (e++[y])))):zcH  x f H Q
theorem vE:MtM X "list.append" zcH:=by
 intro w s σ H x J v G Q I C B h;obtain⟨l,L,y,rfl,rfl,o,E,q⟩:=h;cases C;obtain⟨u,rfl,A⟩:=B.one;obtain⟨z,f,n,r,D,e⟩:=I.lstM o;refine call_meets F.slot_list_append {_,e,rfl} F.entry_list_append (F.args_list_append_2 _ _) (PySem.list_append l f.toArray n u (by rw[zW];omega)) {e,?_}
 refine{.non,_,I.lset (its':=f++[u]) o e 1e3 (r.append (.cons A .nil)) ?_,rfl,q}
 rw[qu,List.length_singleton];omega
inductive zky(x:V)(y:V)(H:Hp)(Q:VK):Prop
 | mk (l b e f:_) (_:x=.ref l) (_:y=.ref b) (_:H l=some (.lst e)) (_:H b=some (.lst f)) (_:e.length+f.length<=sizeLine) (_:∀p,H p=none->Q (.ref p) (upd H p (.lst (e++f)))):zky  x y H Q
theorem J7:OpR X (binaryOp .Add) zky:=by
 intro t s σ H x y v u Q I E G h;obtain⟨l,b,O,Y,rfl,rfl,B,A,L,q⟩:=h;cases E;cases G;obtain⟨z,o,n,r,J,e⟩:=I.lstM B;obtain⟨U,f,M,D,C,e2⟩:=I.lstM A;refine PySem.P.add_list e e2 ?_ (by rw[zW,zW];omega)
 have w:o.toArray++f.toArray=(o++f).toArray:=1e3
 rw[w];exact{.ref _,_,I.lnew (t':=s.toks) (r.append D) (by rw[qu];omega),rfl,q _ I.fresh}
end
section
variable{e:Program}{w:World}{A:Around}{E:Value->Shared->Prop}{s:Shared}
end
section
variable{X:Cx}
end
end L2
namespace Att
open PySem PySem.W PySem.Calls PyProof.Rows
theorem Js{P:Params}{h:Heap}:∀(e:List Int) (f:List Value),WellAll P h f (e.map WData.int)->IntsAre f e:=by
 intro e;induction e with
 | nil=>
  intro f w;rw[ZM] at w;cases w;exact .nil
 | cons n e o=>
  intro f w;rw[jR] at w;cases w with
  | cons a b=>
   cases a;exact .cons _ _ (o _ b)
theorem zdJ{l:OpenLaw}{n:Nat}(E:l.most=some n){P:Params}{h:Heap}{args:List WData}{o:List Value}
  (f:l.row.toRowW.claim.pre args=true) (C:WellAll P h o args) :
  ∃a D e,o=[Value.ref a]/\args=[WData.list (e.map WData.int)]/\h.get? a=some { cls:=.type "list",data:=.seq D.toArray }/\IntsAre D e/\e.length<=n:=by
 have B:WShape.hasAll [] args [.list .int]=true:=(pre_splitW f).1;have hc:l.pre.holds [] { args:=args }=true:=(pre_splitW f).2;obtain⟨d,r,rfl,h1,h2⟩:=hasAllW_cons B;obtain rfl:=hasAllW_nil h2;obtain⟨J,rfl,h3⟩:=hasW_list h1;obtain⟨e,rfl⟩:=items_int h3;have u:e.length<=n:=by
  unfold OpenLaw.pre at hc;have w:(WTm.not (.lt (.lit (.int (n:Int))) (.len (.arg 0)))).holds [] { args:=[.list (e.map .int)] }=true:=by
   have w:=(holds_andW hc).1;rw[E] at w;exact w
  have A:=condW_of w (w_not (w_lt w_lit (w_len_list (w_arg rfl))));rw[zm] at A;refine Nat.le_of_not_lt λq=>?_
  have H:(n:Int)<((e.length:Nat):Int):=()
  first
   | (rw[zY H] at A;exact absurd A 1e1)
   | (simp at A;omega)
 cases C with
 | cons w1 I=>
  cases I;cases w1 with
  | list G t=>exact{_,_,e,rfl,rfl,G,Js e _ t,u}
theorem zdP(l:OpenLaw)(args:List WData):l.row.toRowW.claim.post args (.bool true) args=true:=
 postW_of (r:=l.row.toRowW) (X:=(true==true))
  (show WShape.has [] (.bool true) .bool=true by first| rfl | decide | simp[WShape.has,WShape.arms,WShape.armsAll])
  (show(WTm.eq .res (.lit (.bool true))).value [] { args:=args,res:=some (.bool true),after:=args }=some (.bool (true==true)) from w_eq_bool (w_res rfl) w_lit) rfl
theorem attach_call{l:OpenLaw}{n:Nat}{q:Program}{e:List Str}{XP:(Str->Option Value)->Heap->Prop}{YP:World->Heap->Prop}{d:DefRec}
  (hn:l.most=some n) (O:d.params.defaults=[])
  (call:∀(w:World) (s₀ t:Shared) (J mb:Str->Option Value) (C:Addr) (o:Obj) (pm I u:Value) (a:Addr) (B:List Value) (L:List Int),
   Ground q e [] XP w s₀ J mb t.heap->YP w t.heap ->
   t.heap.get? C=some o->o.data=.func (docDef d.name d.params d.body d.scope pm I u)->t.heap.CodeRec I d.name->J d.name=some (.ref C) ->
   t.heap.get? a=some { cls:=.type "list",data:=.seq B.toArray }->IntsAre B L->L.length<=n->t.gens=#[] ->
   codeAny (model l.prog w) callerA (.call (.ref C) {[.ref a],[]}) (λr M=>r=.ok (.ret (.bool true))/\OldK t.heap M.heap/\M.os=t.os/\AllBare M.gens) t) :
  WalkO q e XP YP l.row.toRowW d [] (λf B=>PySem.call f B):=by
 intro w s₀ t J mb G Y C o pm I u dV kV ho hd N hD Q hg args ab as H aa ae U ac;obtain rfl:dV=.none:=Dflts.none hD O;obtain rfl:kV=.none:=Dflts.noKw hD;obtain⟨a,B,L,rfl,rfl,E,A,D⟩:=zdJ hn H U;refine enter_call (codeAny_mono (call w s₀ t J mb C o pm I u a B L G Y ho (fd_plain hd) N Q E A D hg) λr M hq=>?_)
 obtain⟨rfl,h2,h3,h4⟩:=hq;exact{.inl {.bool true,.bool true,[],rfl,λ_=>rfl,.bool true,zdP l _,λ_=>{List.Pairwise.nil,λ_ hm=>(nomatch hm)}},h2,h3,h4}
section
variable{e:Program}{w:World}{A:Around}{E:Value->Shared->Prop}{s:Shared}{K:Frag}
def ledger(h:Heap)(L d:Addr):List 0#p:=(List.range h.objs.size).filterMap λa=>if a=L\/a=d then none else(h.get? a).map λo=>(a,o)
end
end Att
namespace L2
open PySem PySem.Spec PyProof.Rows
theorem Vi:∀{f:List Value} {e:List Int},IntsAre f e->Vals (e.map V.int) f
 | _,_,.nil=>.nil
 | _,_,.cons n t h=>.cons ⟨t,rfl⟩ (Vi h)
def zj1(H:Hp):Prop:=∀b,H b=none\/∃o e,H b=some (.frz o (.lst e))
theorem zf1{P:Program}{w:World}{K:W.Frag}{mg mb:Str->Option Value}{CX:CXT}{k:Nat}{fa a:Addr}{fd:FuncData}{x:Str}{sp:Sp}{f:Shared}{G:List Value}{ns:List Int}
  (KX:K.In f.heap) (O:f.heap.Ns mainGlobals mg) (hb:f.heap.Ns builtinsNs mb) (ab:∀x:Str,x ≠ "__name__" -> mb x=bootBuiltins x) (N:f.heap.NoLimit) (hg:f.gens=#[])
  (ha:f.heap.get? a=some { cls:=.type "list",data:=.seq G.toArray }) (hi:IntsAre G ns) (hl:ns.length<=sizeLine) (hr:Room k callerA)
  (F:∀A:Heap,K.In A->A.Ns mainGlobals mg->FnOk P w K mg A CX k fa fd [x] sp) (E:∀(s:Shared) (u:Value),BindsTo s fd {[u],[]} [(x,u)])
  (ac:∀H:Hp,zj1 H->SqL K H a (ns.map V.int)->sp [.ref a] H (λv _=>v=.bl true) λ_ _ _=>False)
  (aa:∀H e B,CX [] H f (λ_ _ _=>False) e B->False) :
  codeAny (model P w) callerA (.call (.ref fa) {[.ref a],[]}) (λr B=>r=.ok (.ret (.bool true))/\OldK f.heap B.heap/\B.os=f.os/\AllBare B.gens) f:=by
 have rv:=Vi hi;have Y:=hi.length;have D:∀H:Hp,zj1 H->SqL K H a (ns.map V.int)->HOk P w H f.heap->(∀b,H b≠none->b=a)->(H a≠none->K.lookup a=none) ->
   codeAny (model P w) callerA (.call (.ref fa) {[.ref a],[]}) (λr B=>r=.ok (.ret (.bool true))/\OldK f.heap B.heap/\B.os=f.os/\AllBare B.gens) f:=by
  intro H hO hS Q hA hK;have t:∀{b:Addr} {o:Obj},f.heap.get? b=some o->H b=none->(WA f.heap H).get? b=some o:=λe n=>zf8 e n
  have ae:∀{b:Addr} {o:Obj} {L:Array DictEntry} {J:Nat},f.heap.get? b=some o->o.data=.dict L J->H b=none:=λ{b o L J} e d=>by
   cases q:H b with
   | none=>rfl
   | some u=>
    have e':b=a:=hA b (by rw[q];simp)
    subst e';rw[ha] at e;cases e
    have d':Data.seq G.toArray _=Data.dict L J:=d;cases d'
  have C:∀{b:Addr} {m:Str->Option Value},f.heap.Ns b m->(WA f.heap H).Ns b m:=λ{b m} ⟨o,L,J,e,d,r⟩=>{o,L,J,t e (ae e d),d,r}
  have M:K.In (WA f.heap H):=λb o e=>t (KX b o e) (by
   cases q:H b with
   | none=>rfl
   | some u=>
    have e':b=a:=hA b (by rw[q];simp)
    subst e';rw[hK (by rw[q];simp)] at e;cases e)
  have hM:Mod K mg (WA f.heap H):={M,C O,{mb,C hb,ab},let ⟨mc,h1,h2⟩:=N;{mc,C h1,h2}}
  have e0:zh6 P w K mg (WA f.heap H) callerA [] f H:={rfl,hM,λb o e=>zhv e,vT (zea _ _),trivial,λb hb=>absurd (show b∈([]:List Addr) from hb) 1e3,Q,.of_eq hg}
  refine codeAny_mono ((F _ M (C O)).run callerA [] f H {[.ref a],[]} [.ref a] [.ref a] _ _ hr e0 (E f (.ref a)) (.cons rfl .nil) (ac H hO hS)) λr B h=>?_
  cases r with
  | error e=>exact(aa H e B h).elim
  | ok fl=>
   cases fl with
   | next=>exact False.elim h
   | brk=>exact False.elim h
   | cont=>exact False.elim h
   | ret u=>
    obtain⟨v,H',os,I,un,U,r',q⟩:=h;have q':v=.bl true:=q;subst q';obtain rfl:u=Value.bool true:=r';refine{rfl,OldK.of_keep λb o e=>?_,os,I}
    cases q:H b with
    | none=>exact un.keep b o e q (by intro z;exact absurd (show b∈([]:List Addr) from z) 1e3) 1e3
    | some u=>
     rcases hO b with z | ⟨ob,xs,z⟩
     .rw[q] at z;cases z
     .have z2:=un.frzs b ob _ z
      obtain⟨e1,_⟩:=Q b _ z;obtain⟨e2,_⟩:=U b _ z2;rw[e] at e1;cases e1
      exact e2
 cases hk:K.lookup a with
 | some o=>
  have e:=KX a o hk;rw[ha] at e;cases e;refine D (λ_=>none) (λ_=>.inl rfl) (.inr {_,G.toArray,_,hk,rfl,rfl,rfl,by rw[zW,Y];exact hl,by simpa using rv}) (λb u z=>by have z':(none:Option HO)=some u:=z;cases z') (λb z=>absurd rfl z) λz=>absurd rfl z
 | none=>
  refine D (λb=>if b=a then some (.frz { cls:=.type "list",data:=.seq G.toArray } (.lst (ns.map V.int))) else none) (λb=>?_) (.inl (.inr {{ cls:=.type "list",data:=.seq G.toArray },zt rfl})) (λb u z=>?_) (λb z=>?_) λ_=>hk
  .by_cases hb:b=a
   .exact .inr {_,_,zt hb}
   .exact .inl (zq hb)
  .by_cases hb:b=a
   .have z':=(zt hb).symm.trans z
    cases z';subst hb;exact{ha,by rw[zm];exact hl,G,_,rv,ha}
   .have z':=(zq hb).symm.trans z
    cases z'
  .by_cases hb:b=a
   .exact hb
   .exact absurd (zq hb) z
def Qi(s:Stmt):Arguments:=match s with
 | .FunctionDef _ a _ _ _ _ _ _ _ _=>a
 | _=>{ posonlyargs:=[],args:=[],vararg:=none,kwonlyargs:=[],kw_defaults:=[],kwarg:=none,defaults:=[] }
def wY(s:Stmt):List Stmt:=match s with
 | .FunctionDef _ _ b _ _ _ _ _ _ _=>b
 | _=>[]
def zv(s:Stmt):Scope:=match s with
 | .FunctionDef _ _ _ _ _ _ e _ _ _=>e
 | _=>{ kind:=.function,names:=[],isGenerator:=false,isCoroutine:=false }
abbrev CX0:CXT:=λ_ _ _ _ _ _=>False
abbrev E0:XK:=λ_ _ _=>False
theorem zkF{X:Cx}:zb4 CX0 X E0:=λ_ _ _ _ _ _ _ h=>h.elim
structure Fun(K:W.Frag)(x qual:Str)(st:Stmt)(f:Addr)(fd:FuncData):Prop where
 ex:∃(oc:Value) (od:Option Addr) (kV doc pm:Value) (an:Option Addr) (cdv ct:Value) (osl:Array (Option Value)),
  fd=PySem.W.fnOf x qual (Qi st) (wY st) (zv st) .none kV doc pm an cdv ct/\K.lookup f=some {oc,od,.func fd,osl}/\PySem.W.codeIn K cdv qual=true
 kp:PySem.W.keepIn K (.ref f)=true
section
variable{P:Program}{w:World}{K:W.Frag}{o:Str->Option Value}{e:Heap}
theorem Fun.ok{x qual:Str}{st:Stmt}{f:Addr}{O:FuncData}{N L:List Str}{k:Nat}{M:Sp}(F:Fun K x qual st f O)(S:zM N L (zv st))(J:∀D H Q E,M D H Q E->D.length=L.length)
  (C:∀(B:Value) (A:Around) (u:List Env) (s:Shared) (H:Hp) (D:List V) (Q:VK) (E:XK),Room k (A.deeper (envOfC qual (zv st) s.heap.objs.size f B))->M D H Q E ->
   ∃t,PSs (zbp CX0 P w K o e N qual (zv st) f B A u s H E).nox (wY st) t/\t { nx:=λ_ U=>Q .non U,rt:=Q } (Q4 N D) H):FnOk P w K o e CX0 (k+1) f O L M:=by
 obtain⟨oc,od,kV,Y,pm,an,B,ct,aa,rfl,lk,G⟩:=F.ex;refine zkZ lk G S J λA u s H D Q E hr I=>?_
 obtain⟨t,h,q⟩:=C B A u s H D Q E hr I;exact⟨t,h.nox,q⟩
theorem Fun.binds{x qual:Str}{st:Stmt}{f:Addr}{E:FuncData}{C:List Str}(F:Fun K x qual st f E)
  (h:∀(kV u B:Value) (A:Option Addr) (t ct:Value) (D:List Value),D.length=C.length->bindArgs (PySem.W.fnOf x qual (Qi st) (wY st) (zv st) .none kV u B A t ct) {D,[]}=pure (C.zip D)):Binds K E C []:=by
 obtain⟨J,L,kV,u,B,A,t,ct,H,rfl,I,G⟩:=F.ex;exact .all (h kV u B A t ct)
end
theorem Zo{A:Around}{k:Nat}(e:Room k A):A.units+1<cLine:=Qo (yV (by decide:1<=64) _) e.units
section
variable{X:Cx}
theorem pv(i:Nat){x:Str}{f:Pos}(o:X.N[i]? =some x:=by rfl)(t:Vis X.env.scope x:=by first| exact Or.inl rfl | exact Or.inr 0#z | exact Or.inr (Or.inr rfl))(hd:(x==("__debug__":Str))=false:=by decide)
  (e:(x==("__classdict__":Str))=false:=by decide):PE X (.Name x f) (ziS i):=zjg o t hd e
end
theorem wo{c A B:Prop}[Decidable c](h1:c->A)(h2:¬c->B):if c then A else B:=by
 by_cases h:c
 .rw[zt h]
  exact h1 h
 .rw[zq h]
  exact h2 h
def Same(H e:Hp):Prop:=∀b o,H b=some o->e b=some o
theorem Same.refl(H:Hp):Same H H:=λ_ _ h=>h
def u7:=@Same.refl
theorem Same.trans{H e f:Hp}(a:Same H e)(b:Same e f):Same H f:=λc o h=>b c o (a c o h)
theorem Same.free{H f:Hp}(e:Same H f){l:Addr}(h:f l=Option.none):H l=Option.none:=by
 cases q:H l with
 | none=>rfl
 | some o=>
  rw[e l o q] at h;cases h
theorem Same.seq{K:W.Frag}{H f:Hp}{a:Addr}{t:List V}(e:Same H f)(h:SqL K H a t):SqL K f a t:=by
 rcases h with(h | ⟨o,h⟩) | h
 .exact .inl (.inl (e _ _ h))
 .exact .inl (.inr {o,e _ _ h})
 .exact .inr h
end L2
namespace L2
inductive Ex1{e:Sort _}(P:e->Prop):Prop
 | mk (a1:e) (h:P a1):Ex1 P
inductive Ex2{e:Sort _}{f:Sort _}(P:e->f->Prop):Prop
 | mk (a1:e) (a2:f) (h:P a1 a2):Ex2 P
inductive Ex3{e:Sort _}{f:Sort _}{o:Sort _}(P:e->f->o->Prop):Prop
 | mk (a1:e) (a2:f) (a3:o) (h:P a1 a2 a3):Ex3 P
inductive Ex4{e:Sort _}{f:Sort _}{o:Sort _}{t:Sort _}(P:e->f->o->t->Prop):Prop
 | mk (a1:e) (a2:f) (a3:o) (a4:t) (h:P a1 a2 a3 a4):Ex4 P
inductive Ex5{e:Sort _}{f:Sort _}{o:Sort _}{t:Sort _}{u:Sort _}(P:e->f->o->t->u->Prop):Prop
 | mk (a1:e) (a2:f) (a3:o) (a4:t) (a5:u) (h:P a1 a2 a3 a4 a5):Ex5 P
inductive Ex6{e:Sort _}{f:Sort _}{o:Sort _}{t:Sort _}{u:Sort _}{w:Sort _}(P:e->f->o->t->u->w->Prop):Prop
 | mk (a1:e) (a2:f) (a3:o) (a4:t) (a5:u) (a6:w) (h:P a1 a2 a3 a4 a5 a6):Ex6 P
inductive Ex8{e:Sort _}{f:Sort _}{o:Sort _}{t:Sort _}{u:Sort _}{w:Sort _}{A:Sort _}{B:Sort _}(P:e->f->o->t->u->w->A->B->Prop):Prop
 | mk (a1:e) (a2:f) (a3:o) (a4:t) (a5:u) (a6:w) (a7:A) (a8:B) (h:P a1 a2 a3 a4 a5 a6 a7 a8):Ex8 P
inductive zk7{A:Sort _}{B:Sort _}{C:Sort _}{D:Sort _}{E:Sort _}{G:Sort _}{H:Sort _}{I:Sort _}{J:Sort _}{e:Sort _}{f:Sort _}{o:Sort _}(P:A->B->C->D->E->G->H->I->J->e->f->o->Prop):Prop
 | mk (a1:A) (a2:B) (a3:C) (a4:D) (a5:E) (a6:G) (a7:H) (a8:I) (a9:J) (t:e) (u:f) (w:o) (h:P a1 a2 a3 a4 a5 a6 a7 a8 a9 t u w):zk7 P
inductive An2(e f:Prop):Prop
 | mk (h1:e) (h2:f):An2 e f
inductive An4(e f o t:Prop):Prop
 | mk (h1:e) (h2:f) (h3:o) (u:t):An4 e f o t
inductive An5(e f o t u:Prop):Prop
 | mk (h1:e) (h2:f) (h3:o) (w:t) (A:u):An5 e f o t u
inductive An6(e f o t u w:Prop):Prop
 | mk (h1:e) (h2:f) (h3:o) (A:t) (B:u) (C:w):An6 e f o t u w
inductive An7(e f o t u w A:Prop):Prop
 | mk (h1:e) (h2:f) (h3:o) (B:t) (C:u) (D:w) (E:A):An7 e f o t u w A
inductive An8(e f o t u w A B:Prop):Prop
 | mk (h1:e) (h2:f) (h3:o) (C:t) (D:u) (E:w) (G:A) (H:B):An8 e f o t u w A B
theorem zkR{α:Type _}{e:List α}(h:e.length=1):∃a0,e=[a0]:=
 match e,h with
 | [a0],_=>⟨a0,rfl⟩
theorem zkQ{α:Type _}{e:List α}(h:e.length=2):∃a0 a1,e=[a0,a1]:=
 match e,h with
 | [a0,a1],_=>⟨a0,a1,rfl⟩
theorem zkP{α:Type _}{e:List α}(h:e.length=3):∃a0 a1 a2,e=[a0,a1,a2]:=
 match e,h with
 | [a0,a1,a2],_=>⟨a0,a1,a2,rfl⟩
theorem zkO{α:Type _}{e:List α}(h:e.length=4):∃a0 a1 a2 a3,e=[a0,a1,a2,a3]:=
 match e,h with
 | [a0,a1,a2,a3],_=>⟨a0,a1,a2,a3,rfl⟩
theorem zkN{α:Type _}{e:List α}(h:e.length=5):∃a0 a1 a2 a3 a4,e=[a0,a1,a2,a3,a4]:=
 match e,h with
 | [a0,a1,a2,a3,a4],_=>⟨a0,a1,a2,a3,a4,rfl⟩
theorem zkM{α:Type _}{e:List α}(h:e.length=6):∃a0 a1 a2 a3 a4 a5,e=[a0,a1,a2,a3,a4,a5]:=
 match e,h with
 | [a0,a1,a2,a3,a4,a5],_=>⟨a0,a1,a2,a3,a4,a5,rfl⟩
end L2
set_option maxHeartbeats 4000000
namespace L2
open PySem PySem.Spec PyProof.Rows
def qX(f:List (Str×Addr)):List (Str×NameKind)->List (Str×Addr)->List (Str×Addr)
 | [],e=>e
 | (n,k)::r,e=>qX f r (if(k==NameKind.free)=true then(n,(f.lookup n).getD 0)::e else e)
theorem zgk{env:Env}(names:List (Str×NameKind)):∀(e:List (Str×Addr)),(∀y∈names,y.2=NameKind.free->∃c,env.cells.lookup y.1=some c) ->
  (forIn names e λ(x:Str×NameKind) (o:List (Str×Addr))=>
   (if(x.2==NameKind.free)=true then(cellOf env x.1 >>= λa=>(pure (ForInStep.yield ((x.1,a)::o)):Sem (ForInStep (List (Str×Addr))))) else pure (ForInStep.yield o)))=(pure (qX env.cells names e):Sem (List (Str×Addr))):=by
 induction names with
 | nil=>intro e _;rfl
 | cons y r t=>
  intro e h;obtain⟨n,k⟩:=y;rw[wj];by_cases hk:(k==NameKind.free)=true
  .obtain⟨c,hc⟩:=h (n,k) xp (by simpa using hk)
   have e1:cellOf env n=pure c:=by
    unfold cellOf;rw[show env.cells.lookup n=some c from hc]
   simp only[hk,if_true,e1,pure_bind];rw[t _ λz f=>h z (jf _ f)]
   show _=pure (qX env.cells r (if(k==NameKind.free)=true then(n,(env.cells.lookup n).getD 0)::e else e))
   rw[zt hk,show env.cells.lookup n=some c from hc]
   all_goals rfl
  .simp only[hk,pure_bind]
   simp only[x5,if_false,pure_bind];rw[t _ λz f=>h z (jf _ f)]
   show _=pure (qX env.cells r (if(k==NameKind.free)=true then(n,(env.cells.lookup n).getD 0)::e else e))
   rw[zq hk]
theorem JH{f:Env}{scope:Scope}(h:∀y∈scope.names,y.2=NameKind.free->∃c,f.cells.lookup y.1=some c):closureFor scope f=pure (qX f.cells scope.names []):=by
 have e:=zgk (env:=f) scope.names [] h;unfold closureFor;refine Eq.trans ?_ (Eq.trans (congrArg (λm=>m >>= λo=>(pure o:Sem (List (Str×Addr)))) e) ?_)
 .rfl
 .simp
theorem wZ{u:List (Str×Addr)}{x:Str}:∀(names:List (Str×NameKind)) (f:List (Str×Addr)),(qX u names f).lookup x=(if(names.any λy=>y.2==NameKind.free&&x==y.1)=true then some ((u.lookup x).getD 0) else f.lookup x)
 | [],f=>by simp[qX]
 | (n,k)::r,f=>by
  unfold qX;rw[wZ r];by_cases o:(r.any λy=>y.2==NameKind.free&&x==y.1)=true
  .rw[zt o,zt (by rw[w9,o,Bool.or_true])]
  .rw[zq o]
   by_cases hk:(k==NameKind.free)=true
   .rw[zt hk]
    by_cases hx:(x==n)=true
    .rw[zt (by rw[w9];simp only[hk,hx,Bool.and_self,Bool.true_or])]
     have e:x=n:=by simpa using hx
     subst e;simp[jO]
    .rw[zq (by rw[w9];simp only[hk,hx,Bool.and_false,Bool.false_or];exact o)]
     have t:(x==n)=false:=by simpa using hx
     simp[jO,t]
   .rw[zq hk,zq (by rw[w9];simp only[hk,Bool.false_and,Bool.false_or];exact o)]
abbrev zB(X:Cx)(e:List Str)(scope:Scope)(C:Addr)(s:Shared)(H:Hp)(ex:List Addr):Cx where
 prog:=X.prog
 w:=X.w
 K:=X.K
 mg:=X.mg
 base:=X.base
 A:=X.A
 N:=e
 s₀:=s
 H₀:=H
 env:=compEnvC scope (qX X.env.cells scope.names []) C X.env
 outer:=X.stack
 stack:=X.stack
 ex:=ex
 fn:=λ_=>false
 calm:=X.calm
 pn:=[]
 xe:=λ_ _=>False
abbrev xT(f:List Expr)(e:Env):Sem Bool:=
 forIn f true λ(c:Expr) (r:Bool)=>if r=true then(isTrue c e (eval c e) >>= λok=>(pure (ForInStep.yield ok):Sem (ForInStep Bool))) else pure (ForInStep.yield r)
theorem zax{e:Program}{w:World}{A:Around}{R:Result->Shared->Prop}{s:Shared}{B U C:Expr}{D:List Expr}{scope:Scope}{H:Pos}{L o:Value}{f:Env}(J:Nat->Shared->Prop)
  (I:∀n s,J n s->wpAny 0#w A (pyNext L) (λr s1=>match r with
   | none=>R (.ok .next) s1
   | some v=>wpAny 0#w A (letOwnedTupleGo U L v) (λ_ s2=>wpAny 0#w A (assign U f v) (λ_ s3=>
     wpAny 0#w A (xT D f) (λok M=>
      if ok=true then wpAny 0#w A (eval B f) (λx N=>
       wpAny 0#w A (call (.builtin "list.append") [o,x]) (λ_ O=>∃m,m<n/\J m O) 0#h N) 0#h M
      else ∃m,m<n/\J m M) 0#h s3) 0#h s2) 0#h s1) 0#h s)
  (n:Nat) (h:J n s):codeAny 0#w A (.compLoop (.ListComp B [{U,C,D,0}] scope H) 0 L o f) R s:=by
 have G:∀{α:Type} {t:Sem α} {Q:α->Shared->Prop} {E:Value->Shared->Prop} {s:Shared},wpAny 0#w A t Q 0#h s->wpAny 0#w A t Q E s:=λx=>z9 x (λ_ _ q=>q) λ_ _ q=>q.elim
 refine codeAny_loop rfl J (λk u hJ=>?_) n h
 show wpAny _ A ((compTurn (.ListComp B [{U,C,D,0}] scope H) 0 L o f).onRaise (λx=>do noteFrame x f;theTreesLotGoes x)) _ _ u
 refine wpAny_noted ?_
 rw[compTurn_list];refine zc (xZ (zc (G (z9 (I k u hJ) (λr s1 h1=>?_) λ_ _ q=>q))))
 cases r with
 | none=>exact zg h1
 | some v=>
  refine zc (G (z9 h1 (λ_ s2 h2=>zc (G (z9 h2 (λ_ s3 h3=>zc (G (z9 h3 (λok M h4=>?_) λ_ _ q=>q))) λ_ _ q=>q))) λ_ _ q=>q))
  cases ok with
  | false=>exact zg ⟨rfl,h4⟩
  | true=>
   have Y:wpAny 0#w A (eval B f) (λx N=>wpAny 0#w A (call (.builtin "list.append") [o,x]) (λ_ O=>∃m,m<k/\J m O) 0#h N) 0#h M:=h4
   refine zc (zc (G (z9 Y (λx N h5=>zc (G (z9 h5 (λ_ O h6=>zg (zg ⟨rfl,h6⟩)) λ_ _ q=>q))) λ_ _ q=>q)))
def PF(X:Cx)(f:List Expr)(t:TT):Prop:=
 ∀(e:List 0#p) (s:Shared) (σ:St) (H:Hp) (Q:Bool->Hp->Prop),Inv X e σ H s->t σ H Q->wpAny 0#e X.A (xT f X.env) (TP X e σ Q) X.xe s
def zk1:TT:=λ_ H Q=>Q true H
theorem jd{X:Cx}:PF X [] zk1:=λe s σ H Q I h=>zg ⟨H,I,h⟩
theorem ZC{X:Cx}{c:Expr}{t:TT}(hc:PT X c t):PF X [c] t:=by
 intro e s σ H Q I h;unfold xT;simp only[wj,wO,if_true];refine zc (zc (thn (hc e s σ H Q I h) λok s1 q=>zg (zg q)))
theorem JD{P:Program}{w:World}{H:Hp}{h f:Heap}{C:Addr}(x:HOk P w H h)(t:H C=none)(k:∀b o,b≠C->h.get? b=some o->f.get? b=some o):HOk P w H f:=λb u e=>by
 refine(x b u e).stay (λc v hc q=>k c v ?_ q) (λ_ q=>q) λ_ _ q=>q
 rcases hc with z | z
 .rw[z];exact zk e t
 .exact zk z t
theorem Zc{P:Program}{w:World}{H:Hp}{h:Heap}{a:Addr}{o:HO}(x:HOk P w H h)(t:H a=none)(f:ObjOk P w (upd H a o) h a o):HOk P w (upd H a o) h:=λb u e=>by
 by_cases hb:b=a
 .subst hb;rw[zd] at e;cases e;exact f
 .rw[zj hb] at e
  exact(x b u e).stay (λc v _ q=>q) (λc q=>by rw[zj (zk q t)];exact q) λc A q=>by rw[zj (zk q t)];exact q
theorem Z9{A e:List Addr}{H w:Hp}{h B:Heap}{a:Addr}{o:HO}(u:Un A e H w h B)(C:a∈e)(f:H a=none):Un A e H (upd w a o) h B where
 keep:=u.keep
 slot:=u.slot
 free:=λb t q n hx=>by
  have hb:b≠a:=λz=>hx (by rw[z];exact C)
  rw[zj hb];exact u.free b t q n hx
 there:=u.there
 tups:=λb E q=>by rw[zj (zk q f)];exact u.tups b E q
 frzs:=λb t v q=>by rw[zj (zk q f)];exact u.frzs b t v q
 tbls:=λb D q=>by rw[zj (zk q f)];exact u.tbls b D q
theorem Wa{A w:List Addr}{H t:Hp}{h h1 h2:Heap}{C:Addr}(u:Un A w H t h h1)(f:h.objs.size<=C)(k:∀b o,b≠C->h1.get? b=some o->h2.get? b=some o):Un A w H t h h2 where
 keep:=λb o q n hb hx=>k b o (zN (jM (zK q) f)) (u.keep b o q n hb hx)
 slot:=λb o q n hb hx=>let ⟨D,e⟩:=u.slot b o q n hb hx;{D,k b _ (zN (jM (zK q) f)) e}
 free:=u.free
 there:=λb o q hx=>let ⟨B,e⟩:=u.there b o q hx;{B,k b _ (zN (jM (zK q) f)) e}
 tups:=u.tups
 frzs:=u.frzs
 tbls:=u.tbls
def Zs(sn on:List (Str×NameKind))(N e:List Str)(f:List Nat):Bool:=
 sn.all (λy=>y.2 != .cell&&(y.2 != .local||sn.lookup y.1==some .local)&&(y.2 != .free||(on.lookup y.1==some .cell||on.lookup y.1==some .free)))&&e.length==f.length
  && (e.zip f).all λp=>sn.lookup p.1==some .free&&N[p.2]? ==some p.1
structure zgJ(sn on:List (Str×NameKind))(N fr:List Str)(js:List Nat):Prop where
 cell:∀y∈sn,y.2≠NameKind.cell
 loc:∀y∈sn,y.2=NameKind.local->sn.lookup y.1=some .local
 free:∀y∈sn,y.2=NameKind.free->on.lookup y.1=some .cell\/on.lookup y.1=some .free
 len:fr.length=js.length
 fr:∀(k:Nat) (x:Str),fr[k]? =some x->sn.lookup x=some .free/\∃j:Nat,js[k]? =some j/\N[j]? =some x
theorem Xw{sn on:List (Str×NameKind)}{N o:List Str}{f:List Nat}(h:Zs sn on N o f=true):zgJ sn on N o f:=by
 unfold Zs at h;rw[jX,jX,xD,xD] at h;obtain⟨⟨h1,h2⟩,h3⟩:=h;have t:o.length=f.length:=by simpa using h2
 refine{λy hy=>?_,λy hy e=>?_,λy hy e=>?_,t,λk x e=>?_}
 .have:=h1 y hy
  simp only[jX,bne_iff_ne] at this;exact this.1.1
 .have:=h1 y hy
  simp only[jX,WV,bne_iff_ne,xY] at this;exact this.1.2.resolve_left λz=>z e
 .have:=h1 y hy
  simp only[jX,WV,bne_iff_ne,xY] at this;exact this.2.resolve_left λz=>z e
 .have hk:k<o.length:=(zO.mp e).1
  have u:k<f.length:=()
  have hm:(x,f[k])∈o.zip f:=by
   refine qw (i:=k) ?_
   rw[zgq];exact{e,by simp[u]}
  have:=h3 _ hm;simp only[jX,xY] at this;exact{this.1,f[k],by simp[u],this.2}
def upS(n:Nat)(e:List Nat)(σ:St):St:=List.replicate n none++e.map λj=>(σ[j]?).join
def tLC(O:TI)(n:Nat)(A:List Nat)(g:TG)(M:TT)(L:TE):TE:=λσ H Q=>O σ H λJ E=>
 ∃W:Nat->Nat->List V->Hp->Prop,(∃m,W 0 m [] E)/\∀i m f e,W i m f e ->
  (J.stop i e/\f.length<=sizeLine/\∀D,e D=none->Q (.ref D) (upd e D (.lst f))) \/
  (J.go i e/\∃N:List V->Hp->Prop,(∀C t,N C t->∃B,B<m/\W (i+1) B C t)/\∀x u,J.yld i e x u->g x (upS n A σ) u λo G=>o.drop n=(upS n A σ).drop n/\M o G λb w=>
   if b=true then L o w λy I=>f.length<sizeLine/\N (f++[y]) I else N f w)
theorem vJ{f:Env}{x:Str}{t:NameKind}:∀{names:List (Str×NameKind)},(names.map λ(n,k)=>if 0#t then(n,NameKind.cell) else(n,k)).lookup x=some t ->
  ∃k,names.lookup x=some k/\(t=k\/(k=.free/\t=.cell))
 | [],h=>by simp at h
 | (n,k)::r,h=>by
  by_cases hx:(x==n)=true
  .refine{k,by simp[jO,hx],?_}
   have h:List.lookup x ((if 0#t=true then(n,NameKind.cell) else(n,k))::_)=some t:=h
   by_cases hc:0#t=true
   .rw[zt hc,jO,hx] at h
    simp only[jX,xY] at hc;exact .inr {hc.1.1,(jL h).symm}
   .rw[zq hc,jO,hx] at h
    exact .inl (jL h).symm
  .have o:(x==n)=false:=by simpa using hx
   have h:List.lookup x ((if 0#t=true then(n,NameKind.cell) else(n,k))::_)=some t:=h
   have h2:(r.map λ(n,k)=>if 0#t then(n,NameKind.cell) else(n,k)).lookup x=some t:=by
    by_cases hc:0#t=true
    .rw[zt hc,jO,o] at h;exact h
    .rw[zq hc,jO,o] at h;exact h
   obtain⟨u,e,z⟩:=vJ h2;exact{u,by rw[jO,o];exact e,z}
theorem wR{env:Env}{x:Str}:∀{names:List (Str×NameKind)},names.lookup x=some .free->∃f,(names.map λ(n,k)=>if(k==NameKind.free&&env.scope.kind==.function&&env.kindOf n==some .cell) then(n,NameKind.cell) else(n,k)).lookup x=some f/\(f=.cell\/f=.free)
 | [],h=>by simp at h
 | (n,k)::r,h=>by
  by_cases hx:(x==n)=true
  .rw[jO,hx] at h
   cases(jL h);show ∃f,List.lookup x ((if(NameKind.free==NameKind.free&&env.scope.kind==.function&&env.kindOf n==some .cell)=true then(n,NameKind.cell) else(n,NameKind.free))::_)=some f/\_
   by_cases hc:(NameKind.free==NameKind.free&&env.scope.kind==.function&&env.kindOf n==some .cell)=true
   .rw[zt hc];exact{.cell,by simp[jO,hx],.inl rfl}
   .rw[zq hc];exact{.free,by simp[jO,hx],.inr rfl}
  .have o:(x==n)=false:=by simpa using hx
   rw[jO,o] at h;obtain⟨f,e,z⟩:=wR (env:=env) (names:=r) h;refine{f,?_,z}
   show List.lookup x ((if(k==NameKind.free&&env.scope.kind==.function&&env.kindOf n==some .cell)=true then(n,NameKind.cell) else(n,k))::_)=some f
   by_cases hc:(k==NameKind.free&&env.scope.kind==.function&&env.kindOf n==some .cell)=true
   .rw[zt hc,jO,o];exact e
   .rw[zq hc,jO,o];exact e
theorem zV{f:List (Str×Addr)}{names:List (Str×NameKind)}{x:Str}{c:Addr}(h:(qX f names []).lookup x=some c)(u:∀y∈names,y.2=NameKind.free->∃c,f.lookup y.1=some c):f.lookup x=some c:=by
 rw[wZ] at h;by_cases o:(names.any λy=>y.2==NameKind.free&&x==y.1)=true
 .rw[zt o] at h
  obtain⟨y,hy,e⟩:=ZR.mp o;simp only[jX,xY] at e;obtain⟨w,t⟩:=u y hy e.1;rw[<- e.2] at t;rw[t] at h ⊢;exact h
 .rw[zq o] at h
  cases h
theorem vG{e:List (Str×Addr)}{names:List (Str×NameKind)}{x:Str}(h:names.lookup x=some .free):(qX e names []).lookup x=some ((e.lookup x).getD 0):=by
 rw[wZ,zt];exact ZR.mpr {(x,.free),yf h,1e3}
theorem vH{n:Nat}{f:List Nat}{σ:St}{i:Nat}{v:V}(h:(upS n f σ)[i]? =some (some v)):n<=i/\((upS n f σ).drop n)[i-n]? =some (some v)/\∃j:Nat,f[i-n]? =some j/\σ[j]? =some (some v):=by
 unfold upS at h ⊢;by_cases w:i<n
 .rw[x6 (by simpa using w),List.getElem?_replicate] at h
  split at h<;>cases h
 .have e:(List.replicate n (none:Option V)++f.map λj=>(σ[j]?).join).drop n=f.map λj=>(σ[j]?).join:=by
   rw[List.drop_append_of_le_length 1e3];simp
  rw[xr (by simpa using w),yh] at h
  refine{(),by rw[e];exact h,?_}
  rw[zT] at h;cases t:f[i-n]? with
  | none=>rw[t] at h;cases h
  | some j=>
   rw[t] at h;have h:(σ[j]?).join=some v:=jL h;refine{j,rfl,?_}
   cases u:σ[j]? with
   | none=>rw[u] at h;cases h
   | some o=>rw[u] at h;exact congrArg some h
theorem V9{n:Nat}{e:List Nat}{σ:St}:(upS n e σ).length=n+e.length:=by unfold upS;simp
section
variable{X:Cx}{t A f:Expr}{w:List Expr}{scope:Scope}{E:Pos}{M:TI}{g:TG}{L:TT}{G:TE}
theorem zeu{N:List (Addr×Obj)}{σ:St}{H:Hp}{s:Shared}{fp:List Addr}(own fr:List Str)(js:List Nat)(I:Inv X N σ H s)(B:zgJ scope.names X.env.scope.names X.N fr js)(hk:scope.kind=.function)
  (f2:∀b∈fp,jH X N H b) (fl:∀b∈fp,b<s.heap.objs.size) {D C:Addr} (hD:D=s.heap.objs.size) {h3 h1:Heap} (e3:h3=s.heap.push { cls:=.type "list",dict:=none,data:=.seq ([]:List Value).toArray }) (hC:C=h3.objs.size)
  {m:Str->Option Value} (ae:h1.Ns C m) (k4:∀b o,h3.get? b=some o->h1.get? b=some o) {t4:Nat} :
  Inv (zB X (own++fr) scope C { s with heap:=h3 } H (D::fp)) [] 0#R H { s with heap:=h1,toks:=t4 }:=by
 have k3:∀b o,s.heap.get? b=some o->h3.get? b=some o:=λb o e=>by rw[e3];exact zH _ e
 have U:Inv X N σ H { s with heap:=h3 }:=I.kept (t':=s.toks) k3;have hz:h3.objs.size=s.heap.objs.size+1:=by rw[e3,jq]
 have J:∀y∈scope.names,y.2=NameKind.free->∃c,X.env.cells.lookup y.1=some c:=λy hy e=>I.ok.has y.1 (B.free y hy e)
 have O:∀x c,X.env.cells.lookup x=some c->c<s.heap.objs.size:=λx c e=>by
  obtain⟨v,q⟩:=I.cell x c e;exact q.lt
 refine{{I.ok.mod,hk,I.ok.glob,I.ok.blt,vT hC.symm,λx y c e1 e2=>?_,λx hx=>?_,λx c hf=>(nomatch hf),λhc=>I.ok.hd hc,I.ok.frames,.inl rfl,λb hb=>?_,U.bs,jx I.ok.bsz U.sz,λb o e hb=>?_,λb hb hf=>?_,U.stack,U.stkFree},
  rfl,I.bare,Un.kept k4,{m,ae,λi x v e1 e2 af=>?_},λx c e=>?_,?_,λx c e=>?_,λp hp=>absurd (show p∈([]:List 0#p) from hp) 1e3,U.hok.kept k4,?_}
 .exact I.ok.inj x y c (zV e1 J) (zV e2 J)
 .obtain⟨k,e,z⟩:∃k,scope.names.lookup x=some k/\(k=.free):=by
   rcases hx with hx | hx
   .obtain⟨k,e,z⟩:=vJ hx
    rcases z with z | z
    .subst z;exact absurd rfl (B.cell _ (yf e))
    .exact⟨k,e,z.1⟩
   .obtain⟨k,e,z⟩:=vJ hx
    rcases z with z | z
    .subst z;exact{_,e,rfl}
    .exact⟨k,e,z.1⟩
  subst z;exact{_,vG e}
 .rcases zP.mp hb with z | hb
  .subst z
   refine{by rw[hD,hC,hz];exact zN (wP _),λx c e=>?_}
   have:=O x c (zV e J);rw[hD];exact zN this
  .refine{by rw[hC,hz];exact zN (vP (fl b hb)),λx c e=>?_}
   exact(f2 b hb).2.2.2.2.1 x c (zV e J)
 .rcases zP.mp hb with z | hb
  .have:=zK (I.bk b o e)
   rw[z,hD] at this;exact xM _ this
  .rcases(f2 b hb).2.2.2.1 with z | z
   .exact I.ok.noex b o e z
   .exact absurd (jM (zK (I.ok.bs b o e).1) z) (xM _)
 .have aa:=zP.mp (I.stkSub b hf)
  rcases zP.mp hb with z | hb
  .rcases aa with y | y
   .have:=I.lt
    rw[<- y,z,hD] at this;exact xM _ this
   .exact I.nofs (a:=b) (by rw[z,hD];exact zx _) y
  .rcases aa with y | y
   .exact(f2 b hb).2.1 y
   .exact(f2 b hb).2.2.1 y
 .obtain⟨hn,_,j,ej,es⟩:=vH e2
  have ex:fr[i-own.length]? =some x:=by rw[xr hn] at e1;exact e1
  obtain⟨Q,j',Y,eN⟩:=B.fr _ x ex;have:j'=j:=by rw[ej] at Y;exact(jL Y).symm
  subst this;have ab:=B.free _ (yf Q) rfl;obtain⟨m0,_,hl⟩:=I.loc;obtain⟨u,r,l⟩:=hl j' x v eN es (by rcases ab with z | z;exact .inr (.inl z);exact .inr (.inr z))
  refine{u,r,.inr ?_}
  rcases l with ⟨kl,_⟩ | ⟨_,c,ec,o,eo,ed⟩
  .have ac:X.env.scope.names.lookup x=some .local:=kl
   rcases ab with z | z
   .exact absurd (z.symm.trans ac) 1e1
   .exact absurd (z.symm.trans ac) 1e1
  .obtain⟨k',e',z⟩:=wR (env:=X.env) Q
   have eq:(qX X.env.cells scope.names []).lookup x=some c:=by rw[vG Q,ec];rfl
   refine{?_,c,eq,o,k4 c o (k3 c o eo),ed}
   rcases z with z | z
   .subst z;exact .inl e'
   .subst z;exact .inr e'
 .obtain⟨v,o,eo,ed⟩:=I.cell x c (zV e J)
  exact{v,o,k4 c o (k3 c o eo),ed}
 .exact U.hok.fresh (vT hC.symm)
 .exact I.freeC x c (zV e J)
 .rw[V9,<- B.len]
  show _=(own++fr).length;rw[qu]
inductive LcJ(Y:Cx)(D:Addr)(C:Nat->Heap->Prop)(B:List Addr)(e:List 0#p)(σ:St)(W:Nat->Nat->List V->Hp->Prop)(n:Nat)(s:Shared):Prop
 | mk (i:Nat) (H:List V) (o:List Value) (u:Hp) (z:Nat) (_:Inv Y e σ u s) (_:C i s.heap) (_:∀b∈B,u b=none) (_:u D=none) (_:s.heap.get? D=some { cls:=.type "list",data:=.seq o.toArray z }) (_:Vals H o) (_:W i n H u):LcJ Y D C B e σ W n s
inductive LcE(Y:Cx)(D:Addr)(e:List 0#p)(σ:St)(N:List V->Hp->Prop)(s:Shared):Prop
 | mk (B:List V) (o:List Value) (u:Hp) (z:Nat) (_:Inv Y e σ u s) (_:u D=none) (_:s.heap.get? D=some { cls:=.type "list",data:=.seq o.toArray z }) (_:Vals B o) (_:N B u):LcE Y D e σ N s
theorem zcT{Y:Cx}{D it:Addr}{H:List Addr}{tn:Nat->Heap->Prop}{J:It}{B:List 0#p}{σ4:St}{Kp:St->Prop}{W:Nat->Nat->List V->Hp->Prop}{N:List V->Hp->Prop}{n:Nat}{Q:Shared}
  (hc:Y.calm=true) (hx:Y.xe=λ_ _=>False) (hg:PG Y A g) (hf:PF Y w L) (he:PE Y t G) (T:Qr Y.prog Y.w Y.K A J H it tn)
  (fD:∀C:Hp,C D=none->jH Y B C D) (f2:∀b∈H,∀C:Hp,C b=none->jH Y B C b) (nD:∀b∈H,D≠b) (bk:∀σ9 C s',Inv Y B σ9 C s'->Kp σ9->Inv Y B σ4 C s')
  (ao:∀i m zs H7,W i m zs H7->(J.stop i H7/\N zs H7)\/(J.go i H7/\∃N2:List V->Hp->Prop,(∀zs C,N2 zs C->∃m',m'<m/\W (i+1) m' zs C)/\∀x H8,J.yld i H7 x H8->g x σ4 H8 λσ9 H9=>Kp σ9/\L σ9 H9 λb U=>
    if b=true then G σ9 U λy ap=>zs.length<sizeLine/\N2 (zs++[y]) ap else N2 zs U)) (j:LcJ Y D tn H B σ4 W n Q) :
  wpAny 0#J Y.A (pyNext (.ref it)) (λr s1=>match r with
   | none=>LcE Y D B σ4 N s1
   | some v=>wpAny 0#J Y.A (letOwnedTupleGo A (.ref it) v) (λ_ s2=>wpAny 0#J Y.A (assign A Y.env v) (λ_ s3=>
     wpAny 0#J Y.A (xT w Y.env) (λok s4=>
      if ok=true then wpAny 0#J Y.A (eval t Y.env) (λx Q=>
       wpAny 0#J Y.A (call (.builtin "list.append") [.ref D,x]) (λ_ s6=>∃m,m<n/\LcJ Y D tn H B σ4 W m s6) 0#h Q) 0#h s4
      else ∃m,m<n/\LcJ Y D tn H B σ4 W m s4) 0#h s3) 0#h s2) 0#h s1) 0#h Q:=by
 unfold PG at hg;unfold PF at hf;unfold PE at he
 rw[hx] at hg hf he;obtain⟨i,ys,I,H5,z5,I5,an,aj,as,am,ab,w5⟩:=j;have ai:=I5.pinned (fp:=[D]) (λb hb=>by rw[zR.mp hb];exact fD _ as) (λb hb=>by rw[zR.mp hb];exact{_,am,λv q=>nomatch q})
 have mD:(D,({ cls:=.type "list",data:=.seq I.toArray z5 }:Obj))∈B++zX [D] Q.heap:=zZ _ (qP (zR.mpr rfl) am);have ag:∀{C:Hp},(∀b∈H,C b=none)->∀b∈H,jH Y (B++zX [D] Q.heap) C b:=λhn b hb=>by
  obtain⟨a1,a2,a3,a4,a5,a6⟩:=f2 b hb _ (hn b hb);refine{a1,a2,a3,a4,a5,λp hp=>?_}
  rcases qL.mp hp with q | q
  .exact a6 p (jK _ q)
  .rcases qL.mp q with q | q
   .exact a6 p (zZ _ q)
   .rw[zR.mp (vC q).1];exact nD b hb
 rcases ao i n ys H5 w5 with ⟨stop,q⟩ | ⟨go,N2,hN,step⟩
 .refine thn (T.done Y rfl rfl rfl hc i _ Q _ H5 _ ai (ag aj) an stop) λr s6 ⟨hr,I6⟩=>?_
  subst hr;obtain⟨o6,ax,_⟩:=I6.pin (D,_) (zZ _ mD);exact⟨ys,I,H5,z5,I6.unpinned,ax,o6,ab,q⟩
 .refine thn (T.item Y rfl rfl rfl hc i _ Q _ H5 _ ai (ag aj) an go) λr s6 ⟨u,hr,h6⟩=>?_
  subst hr;refine thn h6 λ_ s7 ⟨x,H7,I7,r7,y7,ac,ar⟩=>?_
  refine thn (hg _ s7 _ H7 x u _ (I7.pinned (ag ar) (T.obj _ _ ac)) r7 (step x H7 y7)) λ_ s8 ⟨σ8,H8,I8,au,q8⟩=>?_
  refine thn (hf _ s8 σ8 H8 _ I8 q8) λok s9 ⟨H9,I9,q9⟩=>?_
  have ah:=zZ Y.pn (jK (zX H s7.heap) mD);have mF:∀b∈H,∀o,s7.heap.get? b=some o->(b,o)∈Y.pn++((B++zX [D] Q.heap)++zX H s7.heap):=λb hb o e=>zZ _ (zZ _ (qP hb e))
  generalize hP:(B++zX [D] Q.heap)++zX H s7.heap=P at I9 ah mF he;have af:∀{C:Hp} {s':Shared},Inv Y P σ8 C s'->Inv Y B σ4 C s':=λ{C s'} J=>by subst hP;exact bk _ _ _ (J.unpinned).unpinned au
  have ak:∀{C:Hp} {s':Shared},Inv Y P σ8 C s'->∀b∈H,C b=none:=λ{C s'} J b hb=>by
   obtain⟨o,e,_⟩:=T.obj _ _ ac b hb;exact(J.pin (b,o) (mF b hb o e)).2.1
  cases ok with
  | false=>
   obtain⟨m',hm,w'⟩:=hN _ _ (show N2 ys H9 by simpa using q9)
   obtain⟨o9,ay,_⟩:=I9.pin (D,_) ah;exact{m',hm,i+1,ys,I,H9,z5,af I9,T.keep _ _ _ ac λb hb o e=>(I9.pin (b,o) (mF b hb o e)).1,ak I9,ay,o9,ab,w'}
  | true=>
   refine thn (he _ s9 σ8 H9 (λy H6=>ys.length<sizeLine/\N2 (ys++[y]) H6) I9 (by simpa using q9)) λyv ba ⟨y,U,aa,b0,av,bb⟩=>?_
   obtain⟨m',hm,w'⟩:=hN _ _ bb;obtain⟨az,O,_⟩:=aa.pin (D,_) ah;refine wpAny_list_append_plain (l:=D) (items:=I.toArray) (hsz:=by rw[zW,<- ab.length];exact yN av) {_,az} λbd al ae=>?_
   obtain⟨bc,aq⟩:=al;obtain⟨d0,d1,d2,d3,d4,d5⟩:=fD _ O;refine{m',hm,i+1,ys++[y],I++[yv],U,bc,?_,T.keep _ _ _ ac λb hb o e=>ae.extBut b o (zS (nD b hb)) (aa.pin (b,o) (mF b hb o e)).1,ak aa,O,?_,ab.append (.cons b0 .nil),w'}
   .exact(af aa).turned (t':=ba.toks) (it:=D) (λb o hb e=>ae.extBut b o hb e) O d1 d3 d4 d5
   .rw[aq];simp
theorem zgj{use:Option (Value->Sem Unit)}{Qx:Value->Shared->Prop}{cp:Pos}{rest:List Comprehension}{u:List 0#p}{s:Shared}{σ:St}{H:Hp}{Q:VK}{Tl:It->(Nat->Nat->List V->Hp->Prop)->Prop}(own fr:List Str)(js:List Nat)(hk:scope.kind=.function)(hb:Zs scope.names X.env.scope.names X.N fr js=true)(hi:PI X A f M)
  (hs:∀x,foldedSetIterable f X.env x=pure x) (I:Inv X u σ H s) (h:M σ H λJ H1=>∃W:Nat->Nat->List V->Hp->Prop,(∃m,W 0 m [] H1)/\Tl J W)
  (ah:∀(C D it:Addr) (N:List Addr) (tn:Nat->Heap->Prop) (J:It) (W:Nat->Nat->List V->Hp->Prop) (O:Hp) (s3 s4:Shared) (m0:Nat) (R:Result->Shared->Prop),(∀b∈D::N,∀H':Hp,H' b=none->jH (zB X (own++fr) scope C s3 O (D::N)) [] H' b)->(∀b∈N,D≠b) ->
   Qr X.prog X.w X.K A J N it tn->Tl J W->LcJ (zB X (own++fr) scope C s3 O (D::N)) D tn N [] 0#R W m0 s4 ->
   (∀U,LcE (zB X (own++fr) scope C s3 O (D::N)) D [] 0#R (λys H5=>ys.length<=sizeLine/\∀D,H5 D=none->Q (.ref D) (upd H5 D (.lst ys))) U->R (.ok .next) U) ->
   codeAny 0#e X.A (.compLoop (.ListComp t ({A,f,w,0}::rest) scope E) 0 (.ref it) (.ref D) 0#l) R s4)
  (aj:∀(U:Shared) (D C:Addr) (H6:Hp) (m:Str->Option Value),U.heap.Ns C m->(∀h7:Heap,(∀b o,b≠C->U.heap.get? b=some o->h7.get? b=some o)->Inv X u σ H6 { U with heap:=h7 })->jH X u H6 C->Q (.ref D) H6->compPost 0#e X.A X.xe use Qx (.ref D) C (.ok .next) U) :
  wpAny 0#e X.A (comprehension (.ListComp t ({A,f,w,0}::rest) scope E) scope X.env cp (newList []) false (eval f X.env) use) Qx X.xe s:=by
 have B:=Xw hb;have Y:∀y∈scope.names,y.2=NameKind.free->∃c,X.env.cells.lookup y.1=some c:=λy hy e=>I.ok.has y.1 (B.free y hy e)
 refine wpAny_comprehension_free rfl hs (JH Y) hk (λy hy e=>B.loc y hy e) (thn (hi u s σ H _ I h) λv s1 h1=>thn h1 λar s2 h2=>?_)
 obtain⟨it,N,tn,J,O,e,I2,T,ae,f2,W,⟨m0,w0⟩,tl⟩:=h2;subst e;have fl:∀b∈N,b<s2.heap.objs.size:=λb hb=>let ⟨o,e,_⟩:=T.obj _ _ ae b hb;zK e
 refine jv (wpAny_newFunctionEnv B.cell (by intro y hy;simp at hy) (λh1 ab ac=>?_) hk)
 dsimp only at ab ac ⊢;generalize e3:s2.heap.push { cls:=.type "list",dict:=none,data:=.seq ([]:List Value).toArray }=h3 at ab ac ⊢;have k3:∀b o,s2.heap.get? b=some o->h3.get? b=some o:=λb o e=>by rw[<- e3];exact zH _ e
 have k4:∀b o,h3.get? b=some o->h1.get? b=some o:=λb o e=>ac.extBut b o (zN (zK e)) (zH _ e)
 have I4:Inv (zB X (own++fr) scope h3.objs.size { s2 with heap:=h3 } O (s2.heap.objs.size::N)) [] 0#R O { s2 with heap:=h1,toks:=s2.toks+([]:List (Str×Value)).length }:=
  zeu own fr js I2 B hk f2 fl rfl e3.symm rfl ab k4
 have I3:Inv X u σ O { s2 with heap:=h3 }:=I2.kept (t':=s2.toks) k3;have hz:h3.objs.size=s2.heap.objs.size+1:=by rw[<- e3,jq]
 have aa:s2.heap.objs.size≠h3.objs.size:=by rw[hz];exact zN (wP _)
 have af:h1.get? s2.heap.objs.size=some { cls:=.type "list",data:=.seq ([]:List Value).toArray }:=k4 _ _ (by rw[<- e3];exact qo _ rfl)
 have al:=(I3.fpOk (b:=h3.objs.size) (zx _) (I3.hok.fresh (zx _))).2;have dN:O s2.heap.objs.size=none:=I2.hok.fresh (zx _);have dO:=I2.fpOk (b:=s2.heap.objs.size) (zx _) dN;have fD:∀b∈N,s2.heap.objs.size≠b:=λb hb=>jW (fl b hb)
 generalize s2.heap.objs.size=D at *
 generalize eC:h3.objs.size=C at *
 have hx:∀b,jH X u O b->∀x c,(qX X.env.cells scope.names []).lookup x=some c->c≠b:=λb hb x c e=>hb.2.2.2.2.1 x c (zV e Y)
 have ap:∀b∈D::N,b∉frs X.stack:=I4.ok.exfs;have nC:∀b∈D::N,b≠C:=λb hb=>by
  rcases zP.mp hb with z | hb
  .rw[z];exact aa
  .exact(I4.ok.exf b (jf _ hb)).1
 have all:∀b∈D::N,jH X u O b:=λb hb=>by
  rcases zP.mp hb with z | hb
  .rw[z];exact dO
  .exact f2 b hb
 have ak:∀b∈D::N,∀H':Hp,H' b=none->jH (zB X (own++fr) scope C { s2 with heap:=h3 } O (D::N)) [] H' b:=λb hb H' hn=>
  {hn,nC b hb,ap b hb,.inl hb,λx c e=>hx b (all b hb) x c e,λp h=>absurd h 1e3}
 have go:∀s4:Shared,s4={ s2 with heap:=h1,toks:=s2.toks+([]:List (Str×Value)).length } ->
   codeAny 0#e X.A (.compLoop (.ListComp t ({A,f,w,0}::rest) scope E) 0 (.ref it) (.ref D) 0#l) (compPost 0#e X.A X.xe use Qx (.ref D) C) s4:=by
  intro s4 e4;subst e4;refine ah C D it N tn J W O _ _ m0 _ ak fD T tl {0,[],[],O,0,I4,T.keep _ _ _ ae λb hb o e=>k4 b o (k3 b o e),λb hb=>(f2 b hb).1,dN,af,.nil,w0} λU h6=>?_
  obtain⟨ys,ao,H5,z5,I6,ai,o6,aq,ag,q⟩:=h6;obtain⟨m6,an,_⟩:=I6.loc;have am:upd H5 D (.lst ys) C=none:=by rw[zj (zS aa)];exact I6.free
  refine aj U D C (upd H5 D (.lst ys)) m6 an (λh7 k7=>?_) ⟨am,al⟩ (q D ai)
  refine I3.call' (s':={ U with heap:=h7 }) (ch:=D::N) I6.os (Z9 (Wa I6.base (vT eC) k7) xp dN) (Zc (JD I6.hok I6.free k7) ai {ag,ao,z5,aq,k7 D _ aa o6}) I6.bare λb hb=>?_
  obtain⟨_,g1,_,g3,g4,g5⟩:=all b hb;exact⟨g3,g1,g4,g5⟩
 exact codeAny_compStart_list (go _ rfl) (T.self X.A 0 _ _ _ (T.keep _ _ _ ae λb hb o e=>k4 b o (k3 b o e)) (go _ rfl))
theorem Yv{Y:Cx}{o:List (Addr×Obj)}{n:Nat}{u:List Nat}{σ D:St}{B:Hp}{C:Shared}(H:(upS n u σ).length=Y.N.length)(J:Inv Y o D B C)(hd:D.drop n=(upS n u σ).drop n):Inv Y o (upS n u σ) B C:=by
 refine J.weak (H.trans J.len.symm) λk v e=>?_
 obtain⟨I,e1,_⟩:=vH e;rw[<- hd,W6] at e1;rw[<- e1];congr 1
 omega
theorem zcU{C D it:Addr}{e:List Addr}{tn:Nat->Heap->Prop}{J:It}{W:Nat->Nat->List V->Hp->Prop}{U:Hp}{s3 s4:Shared}{m0 n:Nat}{R:Result->Shared->Prop}{O:List Nat}{σ:St}{o:List Str}{N:List V->Hp->Prop}(hc:X.calm=true)
  (hg:∀C s H ex,PG (zB X o scope C s H ex) A g) (hf:∀C s H ex,PF (zB X o scope C s H ex) w L) (he:∀C s H ex,PE (zB X o scope C s H ex) t G) (aa:∀b∈D::e,∀B:Hp,B b=none->jH (zB X o scope C s3 U (D::e)) [] B b) (fD:∀b∈e,D≠b) (T:Qr X.prog X.w X.K A J e it tn)
  (ab:∀i m u H7,W i m u H7->(J.stop i H7/\N u H7)\/(J.go i H7/\∃N2:List V->Hp->Prop,(∀u B,N2 u B->∃m',m'<m/\W (i+1) m' u B)/\∀x H8,J.yld i H7 x H8->g x (upS n O σ) H8 λσ9 H9=>σ9.drop n=(upS n O σ).drop n/\L σ9 H9 λb Q=>
    if b=true then G σ9 Q λy ac=>u.length<sizeLine/\N2 (u++[y]) ac else N2 u Q))
  (j:LcJ (zB X o scope C s3 U (D::e)) D tn e [] (upS n O σ) W m0 s4) (ae:∀s6,LcE (zB X o scope C s3 U (D::e)) D [] (upS n O σ) N s6->R (.ok .next) s6) :
  codeAny 0#e X.A (.compLoop (.ListComp t [{A,f,w,0}] scope E) 0 (.ref it) (.ref D) 0#l) R s4:=by
 have hl:=(let ⟨_,_,_,_,_,I,_,_,_,_,_,_⟩:=j;I.len:(upS n O σ).length=o.length)
 refine zax (LcJ (zB X o scope C s3 U (D::e)) D tn e [] (upS n O σ) W) (λk s5 j=>z9 (zcT (Y:=zB X o scope C s3 U (D::e)) hc rfl (hg _ _ _ _) (hf _ _ _ _) (he _ _ _ _) T (aa D xp) (λb hb=>aa b (jf _ hb)) fD (λσ9 B s' J hd=>Yv hl J hd) ab j) (λr s6 h6=>?_) λ_ _ q=>q) m0 j
 cases r with
 | some v=>exact h6
 | none=>exact ae s6 h6
theorem zfo(own B:List Str)(U:List Nat)(hc:X.calm=true)(hk:scope.kind=.function)(hb:Zs scope.names X.env.scope.names X.N B U=true)(hi:PI X A f M)
  (hg:∀C s H u,PG (zB X (own++B) scope C s H u) A g) (hf:∀C s H u,PF (zB X (own++B) scope C s H u) w L) (he:∀C s H u,PE (zB X (own++B) scope C s H u) t G)
  (hs:∀x,foldedSetIterable f X.env x=pure x:=by intro _;rfl):PE X (.ListComp t [{A,f,w,0}] scope E) (tLC M own.length U g L G):=by
 intro Y s σ H Q I h;rw[eval_ListComp];exact zgj (rest:=[]) own B U hk hb hi hs I h (λC D it fp tn J W H2 s3 s4 m0 R a b T tl j N=>zcU hc hg hf he a b T tl j N) λs6 D C H6 m hn all _ q=>{m,hn,λh7 O=>{.ref D,H6,all h7 λb o hb e=>O.extBut b o hb e,rfl,q}}
end
section
variable{X:Cx}{f:List (Addr×Obj)}{σ:St}{H:Hp}{s:Shared}
theorem JB{ch:List Addr}{h':Heap}{t':Nat}{T:Addr}{A:List V}{its:List Value}(I:Inv X f σ H s)(w:∀b∈ch,jH X f H b)(B:s.heap.objs.size<=T)
  (k:∀b o,b∉ch->s.heap.get? b=some o->h'.get? b=some o) (N:A.length<=sizeLine) (U:Vals A its) (Q:TupX h' T its.toArray) :
  Inv X f σ (upd H T (.tup A)) { s with heap:=h',toks:=t' }:=by
 have t:H T=none:=I.hok.fresh B;have ne:∀b o,s.heap.get? b=some o->b≠T:=λb o e=>zN (jM (zK e) B)
 have C:∀b u,H b=some u->b∉ch:=λb u e hb=>by rw[(w b hb).1] at e;cases e
 refine I.step (g':=s.gens) (d':=s.drawn) (ch:=ch) (λb hb=>?_) (λb o _ _ hc e _=>k b o hc e) (λb o _ _ hc e _=>{o.slots,k b o hc e}) (λb o _ e n=>by rw[zj (ne b o e)];exact n) (λb o hc e=>{o,k b o hc e})
  (λb Y e=>by rw[zj (zk e t)];exact e) (λb o u e=>by rw[zj (zk e t)];exact e) (λb ps e=>{#[],by rw[zj (zk e t),e];simp}) (λm hm=>?_) (λb u e=>?_) I.bare
 .obtain⟨_,G,_,J,L,M⟩:=w b hb
  exact⟨J,G,L,M⟩
 .obtain⟨o,E,D,O,r⟩:=hm
  exact{o,E,D,k _ o (λz=>(w _ z).2.1 rfl) O,r}
 .by_cases hb:b=T
  .subst hb
   rw[zd] at e;cases e;exact⟨N,its,U,Q⟩
  .rw[zj hb] at e
   refine(I.hok b u e).stay (λc v hc q=>k c v ?_ q) (λc q=>by rw[zj (zk q t)];exact q) λc Y q=>by rw[zj (zk q t)];exact q
   rcases hc with z | z
   .rw[z];exact C b u e
   .exact C c _ z
end
def Ite(K:W.Frag)(a:Addr):It:=
 {λi H=>∃e x,SqL K H a e/\e[i]? =some x,λi H x f=>∃T y,x=.ref T/\H T=none/\f=upd H T (.tup [.int i,y])/\∀e,SqL K H a e->e[i]? =some y,λi H=>∃e,SqL K H a e/\e.length<=i}
theorem zdB{P:Program}{w:World}{K:W.Frag}{N:List Expr}{kk:Nat}{ak:Pos}(a e B:Addr)(J:e≠B) :
  Qr P w K (.Tuple N kk ak) (Ite K a) [e,B] e (λi h=>(∃G,IsEnum h e B i G)/\h.IsListIter B a i) where
 mem:=1e3
 obj:=λi h st b hb=>by
  obtain⟨⟨G,f⟩,⟨o,ho,c,d⟩⟩:=st;rcases zP.mp hb with z | z
  .subst z;exact{_,f,λv q=>nomatch q}
  .rw[zR.mp z];exact{o,ho,λv q=>by rw[d] at q;cases q}
 keep:=λi h h' st k=>by
  obtain⟨⟨G,f⟩,hi⟩:=st;exact{{G,k e 1e3 _ f},hi.at λo q=>k B 1e3 o q}
 item:=by
  intro X hP hw hK hc i Y s σ H E I hf st hg;subst hP hw hK;obtain⟨⟨G,f⟩,t⟩:=st;obtain⟨xs,x,hq,hx⟩:=hg;obtain⟨C,rv,p,hz⟩:=I.list hq;obtain⟨u,hu,ru⟩:=rv.get hx;have M:=p.isList;have O:a≠B:=λz=>by
   obtain⟨o,e1,c1,_⟩:=M;obtain⟨o',e2,c2,_⟩:=t;rw[z,e2] at e1;cases e1;rw[c2] at c1;exact absurd (yO c1) 1e1
  have ab:e≠a:=λz=>by
   obtain⟨o,e1,c1,_⟩:=M;rw[<- z,f] at e1;cases e1;exact absurd (yO c1) 1e1
  have D:=Draws.list (prog:=X.prog) (w:=X.w) (A:=X.A.in1) 0#Q B a O C.toArray;have hi:i<C.toArray.size:=by
   have h1:=(zO.mp hu).1;simpa using h1
  refine wpAny_pyNext_enum_itemD D f ⟨t,M⟩ hi J (by simp[J,ab]) λx' h' tk aa Q U hT an hk=>?_
  have ex:x'=u:=by
   have h2:C[i]? =some x':=by simpa using aa
   rw[hu] at h2;exact(jL h2).symm
  subst ex;refine{_,rfl,wpAny_letOwnedTupleGo_enum Q λh2 ag L=>?_}
  have eT:s.heap.objs.size≠e:=jW (zK f);have k2:∀b o,b∉[e,B]->s.heap.get? b=some o->h2.get? b=some o:=λb o hb q=>by
   have n1:b≠e:=λz=>hb (by simp[z])
   have n2:b≠B:=λz=>hb (by simp[z])
   exact(L.2 b n1).trans (hk b o n1 n2 q)
  have aj:h2.IsListIter B a (i+1):=U.1.extBut L.extBut (zS J);refine{.ref s.heap.objs.size,upd H s.heap.objs.size (.tup [.int i,x]),?_,rfl,{_,x,rfl,I.hok.fresh (zx _),rfl,λys hy=>by rw[I.list_inj hy hq];exact hx},{{_,by simpa using ag},aj},λb hb=>?_}
  .refine JB (s:=s) (h':=h2) (t':=tk+1) (its:=[.int i tk,x']) I hf (zx _) k2 (by rw[sizeLine_eq];exact(by decide:2<=16777216)) (.cons ⟨tk,rfl⟩ (.cons ru .nil)) (TupX.by ((L.2 _ eT).trans hT))
  .have ac:b<s.heap.objs.size:=by
    rcases zP.mp hb with z | z
    .rw[z];exact zK f
    .rw[zR.mp z]
     obtain⟨o',e',_⟩:=t;exact zK e'
   rw[zj (zN ac)];exact(hf b hb).1
 done:=by
  intro X hP hw hK hc i Y s σ H E I hf st hg;subst hP hw hK;obtain⟨⟨G,f⟩,t⟩:=st;obtain⟨xs,hq,hx⟩:=hg;obtain⟨C,rv,p,hz⟩:=I.list hq;have M:=p.isList;have O:a≠B:=λz=>by
   obtain⟨o,e1,c1,_⟩:=M;obtain⟨o',e2,c2,_⟩:=t;rw[z,e2] at e1;cases e1;rw[c2] at c1;exact absurd (yO c1) 1e1
  obtain⟨f0,f1,f2,f3,f4,f5⟩:=hf B 1e3
  have ah:C.toArray.size<=i:=by
   have:=rv.length;simp only[zW];omega
  have hT:s.TypeIs (.ref e) "enumerate" :={_,f,rfl};unfold pyNext;refine zc (wN (vn (name:=Str.ofString "__next__") hT Yd (jG Yd hT F.entry_enumerate_next ?_ (F.args_enumerate_next_1 _))))
  show wpAny _ _ (field (.ref e) 2 >>= _) _ _ _;refine zc (jJ f rfl (x:=.ref B) rfl (zc (wpAny_nextOf_list_end 0#Q t M (by simpa using ah) λh' x af ai=>?_)))
  obtain⟨o,ho,ae⟩:=ai;refine zc (xC (T:= "StopIteration") (b:=true) ⟨o,ho,ae⟩ isSubtype_stop ?_)
  exact zg {rfl,I.turned (t':=s.toks) (λb o hb q=>af b o hb q) f0 f1 f3 f4 f5}
 self:=λ_ _ _ _ _ st h=>let ⟨⟨_,f⟩,_⟩:=st;wpAny_pyIter_enum f h
section
variable{X:Cx}
def zkW(K:W.Frag)(f:TA):TI:=λσ H R=>f σ H λo e=>∃a,o=[.ref a]/\(∃t,SqL K e a t)/\R (Ite K a) e
theorem zha{l:Expr}{D:TA}{p w tp:Pos}{o:List Expr}{U:Nat}(L:Gl X "enumerate")(hm:X.mg "enumerate" = none)(J:PA X [l] D)(N:starEach [l] X.env=[(false,eval l X.env)]:=by rfl) :
  PI X (.Tuple o U tp) (.Call (.Name "enumerate" p) [l] [] w) (zkW X.K D):=by
 intro f s σ H R I h;refine Call_ (wn I L hm boot_enumerate (Je (thn (J w f s σ H _ I h) λus s1 ⟨vs,B,A,r1,q1⟩=>?_) N rfl))
 obtain⟨a,e,⟨xs,hq⟩,q⟩:=q1;subst e;obtain⟨u,rfl,ru⟩:=vX r1;cases ru;obtain⟨Q,rv,Y,hz⟩:=A.list hq;refine call_enumerate_list Y.isList λG C M O hk=>wpAny_pyIter_enum C ?_
 have E:Inv X f σ B { s1 with heap:=G }:=A.kept (t':=s1.toks) hk;refine{s1.heap.objs.size+1,[s1.heap.objs.size+1,s1.heap.objs.size],_,_,B,rfl,E,zdB a _ _ (Nat.succ_ne_self _),{{_,C},M},λb hb=>?_,q}
 have t:s1.heap.objs.size<=b:=by
  rcases zP.mp hb with z | z
  .rw[z];exact xH _
  .rw[zR.mp z];exact zx _
 exact A.fpOk t (A.hok.fresh t)
theorem zga{K:W.Frag}{a:Addr}{xs:List V}{g:TG}{B:TS}{D:XY}{σ:St}{H:Hp}(Pv:Nat->St->Hp->Prop)(h0:Pv 0 σ H)(G:∀i σ H,i<=xs.length->Pv i σ H->SqL K H a xs)
  (I:∀i x σ H T,xs[i]? =some x->Pv i σ H->H T=none->g (.ref T) σ (upd H T (.tup [.int i,x])) λw t=>B { D with nx:=Pv (i+1),ct:=Pv (i+1),bk:=D.nx } w t) (hd:∀σ H,Pv xs.length σ H->D.nx σ H) :
  ∃W:Nat->Nat->St->Hp->Prop,(∃m,W 0 m σ H)/\∀i m σ H,W i m σ H ->
   ((Ite K a).stop i H/\D.nx σ H)\/((Ite K a).go i H/\∃N:St->Hp->Prop,(∀u f,N u f->∃A,A<m/\W (i+1) A u f)/\∀x f,(Ite K a).yld i H x f->g x σ f λw t=>B { D with nx:=N,ct:=N,bk:=D.nx } w t):=by
 fail"b"
 rintro i m σ H ⟨rfl,E,p⟩;have q:=G i σ H E p;by_cases o:i<xs.length
 .refine .inr {{xs,xs[i],q,by simp[o]},Pv (i+1),λu f J=>{xs.length-(i+1),(),rfl,o,J},λx f y=>?_}
  obtain⟨T,z,e1,C,e2,y⟩:=y;subst e1 e2;exact I i z σ H T (y xs q) p C
 .have e:i=xs.length:=()
  subst e;exact .inl {{xs,q,zx _},hd σ H p}
inductive Jo(K:W.Frag)(f:List V)(H:Hp)(Q:VK):Prop
 | mk (p:Addr) (e:List Bool) (_:f=[.ref p]) (_:SqL K H p (e.map V.bl)) (_:Q (.bl (e.all id)) H):Jo K f H Q
theorem Zh(hc:X.calm=true):jD X (.builtin "all") (Jo X.K):=by
 intro O s σ H xs us Q I r h;obtain⟨p,f,rfl,hq,q⟩:=h;obtain⟨u,rfl,L⟩:=vX r;cases L;obtain⟨t,M,pl,hz⟩:=I.list hq;have G:=pl.isList;have J:p≠s.heap.objs.size:=by
  obtain⟨o,e,_⟩:=G;exact zN (zK e)
 refine call_all_walk (wpAny_pyIter_list G ?_)
 refine{s.heap.objs.size,_,_,_,_,_,λi=>f.getD i true,rfl,QH (prog:=X.prog) (w:=X.w) (A:=X.A.in1) 0#Q _ p J t.toArray,{{_,qo _ rfl,rfl,rfl},G.push _},?_,λh' tk hk=>?_}
 .intro i v s' Y E' E hQ
  have E:t.toArray[i]? =some v:=E;have e1:t[i]? =some v:=by simpa using E
  have B:i<f.length:=by
   have h1:=(zO.mp e1).1;have h2:=M.length;rw[zm] at h2;omega
  have e2:(f.map V.bl)[i]? =some (.bl f[i]):=by simp[B]
  obtain⟨u',N,L⟩:=M.get e2;rw[e1] at N;cases N;cases L;have e3:f.getD i true=f[i]:=by simp[B]
  have C:Y (f.getD i true) s':=hQ;rw[e3] at C;exact yc C
 .have k:∀b o,s.heap.get? b=some o->h'.get? b=some o:=λb o e=>hk b o (by simp;exact zN (zK e)) (zH _ e)
  have ea:(List.range t.toArray.size).all (λi=>f.getD i true)=f.all id:=by
   have D:t.toArray.size=f.length:=by
    have:=M.length;rw[zm] at this;simp only[zW];omega
   rw[D,ZP,xD,xD];constructor
   .intro h b hb
    obtain⟨i,B,rfl⟩:=zbP.mp hb;have:=h i (xo.mpr B);simpa [B] using this
   .intro h i B
    have B:=xo.mp B;have:=h f[i] (xP B);simpa [B] using this
  exact{.bl (f.all id),H,I.kept k,by rw[ea];rfl,q}
end
def SqK(K:W.Frag)(f:Bool)(H:Hp)(a:Addr)(e:List V):Prop:=match f with
 | true=>SqL K H a e
 | false=>SqT K H a e
def SeqK(f:Bool)(h:Heap)(a:Addr)(e:Array Value):Prop:=match f with
 | true=>h.IsList a e
 | false=>h.IsTuple a e
def ItrK(f:Bool)(h:Heap)(e a:Addr)(i:Nat):Prop:=match f with
 | true=>h.IsListIter e a i
 | false=>h.IsTupleIter e a i
theorem SeqK.at{kd:Bool}{h t:Heap}{a:Addr}{f:Array Value}(x:SeqK kd h a f)(k:∀o,h.get? a=some o->t.get? a=some o):SeqK kd t a f:=by
 cases kd with
 | true=>exact Heap.IsList.at x k
 | false=>obtain⟨o,e,r⟩:=(show h.IsTuple a f from x);exact{o,k o e,r}
theorem ItrK.at{kd:Bool}{h t:Heap}{f a:Addr}{i:Nat}(x:ItrK kd h f a i)(k:∀o,h.get? f=some o->t.get? f=some o):ItrK kd t f a i:=by
 cases kd with
 | true=>exact Heap.IsListIter.at x k
 | false=>obtain⟨o,e,r⟩:=(show h.IsTupleIter f a i from x);exact{o,k o e,r}
theorem ItrK.obj{t:Bool}{h:Heap}{f a:Addr}{i:Nat}(x:ItrK t h f a i):∃o,h.get? f=some o/\(o.cls=.type "list_iterator" \/ o.cls=.type "tuple_iterator")/\∀v,o.data≠.cell v:=by
 cases t with
 | true=>obtain⟨o,e,c,d⟩:=(show h.IsListIter f a i from x);exact{o,e,.inl c,λv q=>by rw[d] at q;cases q}
 | false=>obtain⟨o,e,c,d⟩:=(show h.IsTupleIter f a i from x);exact{o,e,.inr c,λv q=>by rw[d] at q;cases q}
theorem SeqK.cls{t:Bool}{h:Heap}{a:Addr}{f:Array Value}(x:SeqK t h a f):∃o,h.get? a=some o/\(o.cls=.type "list" \/ o.cls=.type "tuple")/\∃n,o.data=.seq f n:=by
 cases t with
 | true=>obtain⟨o,e,c,n,d⟩:=(show h.IsList a f from x);exact{o,e,.inl c,n,d}
 | false=>obtain⟨o,e,c,n,d⟩:=(show h.IsTuple a f from x);exact{o,e,.inr c,n,d}
section
variable{t:Program}{w:World}{A:Around}{E:Value->Shared->Prop}{s:Shared}
theorem xg{kd:Bool}{f a:Addr}{i:Nat}{u:Array Value}{x:Value}{Q:Value->Shared->Prop}(I:ItrK kd s.heap f a i)(J:SeqK kd s.heap a u)(hx:u[i]? =some x)
  (H:∀C,ItrK kd C f a (i+1)->Heap.SameBut f s.heap C->Q x { s with heap:=C }):wpAny (model t w) A (Builtin.SmallTypes.nextOf (.ref f)) Q E s:=by
 cases kd with
 | true=>exact wpAny_nextOf_list_item I J hx H
 | false=>
  have e:s.heap.IsTupleIter f a i:=I;obtain⟨o,B,hc,hd⟩:=id e;obtain⟨M,G,_,nl,D⟩:=(show s.heap.IsTuple a u from J)
  unfold Builtin.SmallTypes.nextOf;refine zc (vn (name:=Str.ofString "__next__") e.typeIs Yl (jG Yl e.typeIs zgv ?_ (zgx _)))
  show wpAny _ _ (field (.ref f) 0 >>= _) _ _ _;refine zc (jJ B hd (x:=.ref a) rfl ?_)
  show wpAny _ _ (if(Value.ref a==Value.none)=true then _ else _) _ _ _;rw[zq (show ¬((Value.ref a==Value.none)=true) from jr)]
  show wpAny _ _ (field (.ref f) 1 >>= _) _ _ _;refine zc (jJ B hd (x:=.int i 0) rfl ?_)
  show wpAny _ _ (seqItems? (.ref a) >>= _) _ _ _;refine zc (xc G D ?_);simp only[jC,hx]
  refine zc (vV B hd 1e3 (zg {x,rfl,zg (H _ (show Heap.IsTupleIter _ _ _ _ from ?_) (yI ..))}))
  refine{_,xG _ B (zbR (XN hd _)),(zbH ..).trans hc,?_};rw[XN hd];simp[rawInt]
theorem vD{kd:Bool}{B a:Addr}{i:Nat}{u:Array Value}{Q:Value->Shared->Prop}(G:A.handled=none)(L:ItrK kd s.heap B a i)(M:SeqK kd s.heap a u)(hx:u[i]? =none)
  (J:∀C e,Heap.ExtBut B s.heap C->(∃o,C.get? e=some o/\o.cls=.type "StopIteration")->E (.ref e) { s with heap:=C }):wpAny (model t w) A (Builtin.SmallTypes.nextOf (.ref B)) Q E s:=by
 cases kd with
 | true=>exact wpAny_nextOf_list_end G L M hx J
 | false=>
  have f:s.heap.IsTupleIter B a i:=L;obtain⟨o,H,hc,hd⟩:=id f;obtain⟨O,I,_,nl,D⟩:=(show s.heap.IsTuple a u from M)
  unfold Builtin.SmallTypes.nextOf;refine zc (vn (name:=Str.ofString "__next__") f.typeIs Yl (jG Yl f.typeIs zgv ?_ (zgx _)))
  show wpAny _ _ (field (.ref B) 0 >>= _) _ _ _;refine zc (jJ H hd (x:=.ref a) rfl ?_)
  show wpAny _ _ (if(Value.ref a==Value.none)=true then _ else _) _ _ _;rw[zq (show ¬((Value.ref a==Value.none)=true) from jr)]
  show wpAny _ _ (field (.ref B) 1 >>= _) _ _ _;refine zc (jJ H hd (x:=.int i 0) rfl ?_)
  show wpAny _ _ (seqItems? (.ref a) >>= _) _ _ _;refine zc (xc I D ?_);simp only[jC,hx]
  refine zc (j9 (zc (vV H hd 1e3 ?_)));show wpAny _ _ (newExc (.type "StopIteration") [] >>= _) _ _ _
  refine zc ?_;simp only[newExc,newTuple];refine zc (jv ?_ (by size_fits))
  refine zc (m:=firstArgMember _ _) (vS (a:=Value.none) (by first| rfl | (simp only[firstArgMember];rfl)) (jv ?_ (by size_fits)))
  simp only[raiseNew];refine zc (QI ?_);first| rw[show A.in1.handled=none from G] | rw[G]
  exact zc (zg (yK (J _ _ (((yI ..).extBut.push _).push _) {_,qo _ rfl,rfl})))
structure Jf(k1 k2:Bool)(h:Heap)(z TI TO i1 i2 a1 a2:Addr)(i:Nat):Prop where
 zz:IsZip h z TI TO .none
 ti:IsPair h TI (.ref i1) (.ref i2)
 to:∃a b,IsPair h TO a b
 r1:ItrK k1 h i1 a1 i
 r2:ItrK k2 h i2 a2 i
structure XU(z TI TO i1 i2:Addr):Prop where
 a:TI≠z
 b:TO≠z
 c:i1≠z
 d:i2≠z
 e:TI≠TO
 f:TI≠i1
 g:TI≠i2
 h:TO≠i1
 i:TO≠i2
 j:i1≠i2
theorem zdi{k1 k2:Bool}{z TI TO B I a1 a2:Addr}{i:Nat}{xs ys:Array Value}{x y:Value}{Q:Option Value->Shared->Prop}(N:XU z TI TO B I)(Z:Jf k1 k2 s.heap z TI TO B I a1 a2 i)
  (l1:SeqK k1 s.heap a1 xs) (l2:SeqK k2 s.heap a2 ys) (m1:∀b∈[z,TO,B,I],a1≠b) (m2:∀b∈[z,TO,B,I],a2≠b) (hx:xs[i]? =some x) (hy:ys[i]? =some y)
  (hQ:∀J,IsZip J z TI TO (rawInt s.heap.objs.size)->IsPair J TI (.ref B) (.ref I)->(∃a b,IsPair J TO a b)->ItrK k1 J B a1 (i+1)->ItrK k2 J I a2 (i+1)->IsPair J s.heap.objs.size x y->J.objs.size=s.heap.objs.size+1 ->
   (∀c o,c∉[z,TO,B,I]->s.heap.get? c=some o->J.get? c=some o)->Q (some 0#m) { s with heap:=J }):wpAny (model t w) A (pyNext (.ref z)) Q E s:=by
 obtain⟨hz,ah,⟨a,b,al⟩,h1,h2⟩:=Z;have hT:s.TypeIs (.ref z) "zip" :={_,hz,rfl};unfold pyNext;refine zc 0#N
 show wpAny _ _ (field (.ref z) 2 >>= _) _ _ _;refine zc (jJ hz rfl (x:=.bool false) rfl ?_)
 show wpAny _ _ (field (.ref z) 3 >>= _) _ _ _;refine zc (jJ hz rfl (x:=.ref TI) rfl (zc (xc ah rfl ?_)))
 show wpAny _ _ (Builtin.SmallTypes.ownedTupleIsFree (.ref z) >>= _) _ _ _;refine zc ?_
 unfold Builtin.SmallTypes.ownedTupleIsFree;refine zc (jJ hz rfl (x:=.none) rfl (zg ?_));simp only[if_true]
 refine zc (j9 (zc (jJ hz rfl (x:=.ref TO) rfl (zc (yd hz 1e3 λg1 ae D=>?_)))))
 replace ae:IsZip g1 z TI TO .ellipsis:=ae
 refine zc ?_;simp only[List.zipIdx_cons,List.zipIdx_nil,wj,wO]
 refine zc (zc (wpAny_onRaise ?_));show wpAny _ _ (Builtin.SmallTypes.nextOf (.ref B) >>= _) _ _ _
 refine zc (xg (h1.at λo e=>D.extBut _ o N.c e) (l1.at λo e=>D.extBut _ o (m1 z 1e3) e) hx λg2 aj L=>zg ?_)
 have U:IsPair g2 TO a b:=L.extBut _ _ N.h (D.extBut _ _ N.b al);refine zc (xc U rfl (zc (wpAny_updateSeq_pair U λg3 C M=>?_)))
 replace C:IsPair g3 TO x b:=C
 refine zc (w8 (zg ?_));refine zc (zc (wpAny_onRaise ?_));show wpAny _ _ (Builtin.SmallTypes.nextOf (.ref I) >>= _) _ _ _
 have aa:∀c o,c∉[z,TO,B]->s.heap.get? c=some o->g3.get? c=some o:=λc o hc e=>M.extBut _ o 0#o (L.extBut _ o 0#o (D.extBut _ o 0#o e))
 refine zc (xg (h2.at λo e=>aa _ o (by simp[N.d,zS N.i,zS N.j]) e) (l2.at λo e=>aa _ o (by simp[m2 z 1e3,m2 TO 1e3,m2 B 1e3]) e) hy λg4 ak G=>zg ?_)
 have Y:IsPair g4 TO x b:=G.extBut _ _ N.i C;refine zc (xc Y rfl (zc (wpAny_updateSeq_pair Y λf u H=>?_)))
 replace u:IsPair f TO x y:=u
 refine zc (w8 (zg (zg (zc (xc u rfl (zc (wpAny_newTuple ?_)))))))
 have zs:f.objs.size=s.heap.objs.size:=by rw[H.1,G.1,M.1,L.1,D.1]
 have ai:IsZip f z TI TO .ellipsis:=H.extBut _ _ (zS N.b) (G.extBut _ _ (zS N.d) (M.extBut _ _ (zS N.b) (L.extBut _ _ (zS N.c) ae)));have k5:∀c o,c∉[z,TO,B,I]->s.heap.get? c=some o->f.get? c=some o:=λc o hc e=>H.extBut _ o 0#o (G.extBut _ o 0#o (aa c o (λq=>hc (by simp at q ⊢;rcases q with q | q | q<;>simp[q])) e))
 have r1:ItrK k1 f B a1 (i+1):=aj.at λo e=>H.extBut _ o (zS N.h) (G.extBut _ o N.j (M.extBut _ o (zS N.h) e))
 have r2:ItrK k2 f I a2 (i+1):=ak.at λo e=>H.extBut _ o (zS N.i) e
 have zl:z<f.objs.size:=zK ai;show wpAny _ _ (Builtin.SmallTypes.ownedTupleHandOut (.ref z) (.ref f.objs.size) >>= _) _ _ _;refine zc ?_;unfold Builtin.SmallTypes.ownedTupleHandOut
 have am:IsZip (f.push { cls:=.type "tuple",data:=.seq #[x,y] }) z TI TO .ellipsis:=zH _ ai;refine zc (yd am 1e3 λg7 af ab=>?_)
 replace af:IsZip g7 z TI TO (rawInt f.objs.size):=af
 refine yd af 1e3 λg8 O ac=>?_
 replace O:IsZip g8 z TI TO (rawInt f.objs.size):=O
 have up:∀c o,c≠z->f.get? c=some o->g8.get? c=some o:=λc o c1 e=>ac.extBut _ o c1 (ab.extBut _ o c1 (zH _ e))
 have ag:IsPair g8 f.objs.size x y:=ac.extBut _ _ (jW zl) (ab.extBut _ _ (jW zl) (qo _ rfl));have z8:g8.objs.size=f.objs.size+1:=by rw[ac.1,ab.1,jq]
 rw[zs] at O ag z8;refine zg {_,rfl,zg ?_};show Q (some (.ref f.objs.size)) _;rw[zs]
 exact hQ g8 O (up _ _ N.a (k5 _ _ (by simp[N.a,N.e,N.f,N.g]) ah)) {_,_,up _ _ N.b u} (r1.at λo e=>up _ o N.c e) (r2.at λo e=>up _ o N.d e) ag z8 λc o hc e=>up c o 0#o (k5 c o hc e)
theorem zex{k1 k2:Bool}{z TI TO I O a1 a2:Addr}{i:Nat}{xs ys:Array Value}{Q:Option Value->Shared->Prop}(hh:A.handled=none)(N:XU z TI TO I O)(Z:Jf k1 k2 s.heap z TI TO I O a1 a2 i)
  (l1:SeqK k1 s.heap a1 xs) (l2:SeqK k2 s.heap a2 ys) (m1:∀b∈[z,TO,I,O],a1≠b) (m2:∀b∈[z,TO,I,O],a2≠b) (U:xs[i]? =none\/ys[i]? =none)
  (hQ:∀h',(∀c o,c∉[z,TO,I,O]->s.heap.get? c=some o->h'.get? c=some o)->Q none { s with heap:=h' }):wpAny (model t w) A (pyNext (.ref z)) Q E s:=by
 obtain⟨M,ae,⟨a,b,af⟩,h1,h2⟩:=Z;have hT:s.TypeIs (.ref z) "zip" :={_,M,rfl};unfold pyNext;refine zc 0#N
 show wpAny _ _ (field (.ref z) 2 >>= _) _ _ _;refine zc (jJ M rfl (x:=.bool false) rfl ?_)
 show wpAny _ _ (field (.ref z) 3 >>= _) _ _ _;refine zc (jJ M rfl (x:=.ref TI) rfl (zc (xc ae rfl ?_)))
 show wpAny _ _ (Builtin.SmallTypes.ownedTupleIsFree (.ref z) >>= _) _ _ _;refine zc ?_
 unfold Builtin.SmallTypes.ownedTupleIsFree;refine zc (jJ M rfl (x:=.none) rfl (zg ?_));simp only[if_true]
 refine zc (j9 (zc (jJ M rfl (x:=.ref TO) rfl (zc (yd M 1e3 λg1 G u=>?_)))))
 replace G:IsZip g1 z TI TO .ellipsis:=G
 refine zc ?_;simp only[List.zipIdx_cons,List.zipIdx_nil,wj,wO]
 refine zc (zc (wpAny_onRaise ?_));show wpAny _ _ (Builtin.SmallTypes.nextOf (.ref I) >>= _) _ _ _
 cases hx:xs[i]? with
 | none=>
  refine zc (vD hh (h1.at λo e=>u.extBut _ o N.c e) (l1.at λo e=>u.extBut _ o (m1 z 1e3) e) hx λg2 e B he=>?_)
  obtain⟨oe,f,C⟩:=he;have ab:IsZip g2 z TI TO .ellipsis:=B _ _ (zS N.c) G;have L:e≠z:=λq=>by subst q;rw[ab] at f;cases f;exact absurd (yO C) 1e1
  refine yd ab 1e3 λg3 aj D=>?_
  refine zc (xC (T:= "StopIteration") (b:=true) {oe,D.extBut _ _ L f,C} isSubtype_stop (zg (hQ _ λc o hc q=>?_)))
  exact D.extBut _ o 0#o (B _ o 0#o (u.extBut _ o 0#o q))
 | some x=>
  have hy:ys[i]? =none:=by rcases U with q | q;rw[hx] at q;cases q;exact q
  refine zc (xg (h1.at λo e=>u.extBut _ o N.c e) (l1.at λo e=>u.extBut _ o (m1 z 1e3) e) hx λg2 ai B=>zg ?_)
  have H:IsPair g2 TO a b:=B.extBut _ _ N.h (u.extBut _ _ N.b af);refine zc (xc H rfl (zc (wpAny_updateSeq_pair H λg3 ag D=>?_)))
  have J:∀c o,c∉[z,TO,I]->s.heap.get? c=some o->g3.get? c=some o:=λc o hc e=>D.extBut _ o 0#o (B.extBut _ o 0#o (u.extBut _ o 0#o e))
  refine zc (w8 (zg ?_));refine zc (zc (wpAny_onRaise ?_));show wpAny _ _ (Builtin.SmallTypes.nextOf (.ref O) >>= _) _ _ _
  refine zc (vD hh (h2.at λo e=>J _ o (by simp[N.d,zS N.i,zS N.j]) e) (l2.at λo e=>J _ o (by simp[m2 z 1e3,m2 TO 1e3,m2 I 1e3]) e) hy λg4 e Y he=>?_)
  obtain⟨oe,f,C⟩:=he;have ac:IsZip g4 z TI TO .ellipsis:=Y _ _ (zS N.d) (D.extBut _ _ (zS N.b) (B.extBut _ _ (zS N.c) G));have L:e≠z:=λq=>by subst q;rw[ac] at f;cases f;exact absurd (yO C) 1e1
  refine yd ac 1e3 λg5 ak aa=>?_
  refine zc (xC (T:= "StopIteration") (b:=true) {oe,aa.extBut _ _ L f,C} isSubtype_stop (zg (hQ _ λc o hc q=>?_)))
  exact aa.extBut _ o 0#o (Y _ o 0#o (J c o (λq=>hc (by simp at q ⊢;rcases q with q | q | q<;>simp[q])) q))
abbrev zh(h:Heap)(e f:Obj):Heap:=((((h.push e).push f).push { cls:=.type "tuple",data:=.seq #[.ref h.objs.size,.ref (h.push e).objs.size] }).push { cls:=.type "tuple",data:=.seq #[.none,.none] }).push
 { cls:=.type "zip",data:=.fields #[.none,.bool false,.bool false,.ref ((h.push e).push f).objs.size,.ref (((h.push e).push f).push { cls:=.type "tuple",data:=.seq #[.ref h.objs.size,.ref (h.push e).objs.size] }).objs.size] }
theorem zj2{G H:Bool}{a1 a2:Addr}{h:Heap}{f u:Obj}(N:∀g:Heap,g.get? h.objs.size=some f->ItrK G g h.objs.size a1 0)(O:∀(g:Heap) (n:Addr),g.get? n=some u->ItrK H g n a2 0)(L:f.isFreed=false)(M:u.isFreed=false) :
  Jf G H (zh h f u) (h.objs.size+4) (h.objs.size+2) (h.objs.size+3) h.objs.size (h.objs.size+1) a1 a2 0/\(∀c o,h.get? c=some o->(zh h f u).get? c=some o)/\(zh h f u).objs.size=h.objs.size+5:=by
 have B:(h.push f).objs.size=h.objs.size+1:=jq ..;have C:((h.push f).push u).objs.size=h.objs.size+2:=by rw[jq,B]
 have D:(((h.push f).push u).push { cls:=.type "tuple",data:=.seq #[.ref h.objs.size,.ref (h.push f).objs.size] }).objs.size=h.objs.size+3:=by rw[jq,C]
 have J:((((h.push f).push u).push { cls:=.type "tuple",data:=.seq #[.ref h.objs.size,.ref (h.push f).objs.size] }).push { cls:=.type "tuple",data:=.seq #[.none,.none] }).objs.size=h.objs.size+4:=by rw[jq,D]
 have I:(zh h f u).get? (h.objs.size+4)=some _:=J▸qo _ rfl;have q4:(zh h f u).get? (h.objs.size+3)=some _:=D▸zH _ (qo _ rfl);have q3:(zh h f u).get? (h.objs.size+2)=some _:=C▸zH _ (zH _ (qo _ rfl));have q2:(zh h f u).get? (h.objs.size+1)=some u:=B▸zH _ (zH _ (zH _ (qo _ M)));have q1:(zh h f u).get? h.objs.size=some f:=zH _ (zH _ (zH _ (zH _ (qo _ L))));rw[C,D] at I;rw[B] at q3;exact{{I,q3,{_,_,q4},N _ q1,O _ _ q2},λc o e=>zH _ (zH _ (zH _ (zH _ (zH _ e)))),by rw[jq,J]}
theorem zew{k1 k2:Bool}{a1 a2:Addr}{xs ys:Array Value} :
  PySem.Meets (Builtin.«zip.__new__» {[.type "zip",.ref a1,.ref a2],[]}) (λ_ R s=>SeqK k1 s.heap a1 xs/\SeqK k2 s.heap a2 ys /\
   ∀L,Jf k1 k2 L (s.heap.objs.size+4) (s.heap.objs.size+2) (s.heap.objs.size+3) s.heap.objs.size 0#O a1 a2 0->(∀c o,s.heap.get? c=some o->L.get? c=some o)->L.objs.size=s.heap.objs.size+5->R (.ok (.ret (.ref (s.heap.objs.size+4)))) { s with heap:=L }):=
 .of_wp λt w A R s hq=>by
  obtain⟨hp,g,d,G,os⟩:=s;obtain⟨J,u,Q⟩:=hq;have M:=sub_zip;have f:∀{D H:Obj},(∀g:Heap,g.get? hp.objs.size=some D->ItrK k1 g hp.objs.size a1 0)->(∀(g:Heap) (n:Addr),g.get? n=some H->ItrK k2 g n a2 0)->D.isFreed=false->H.isFreed=false ->
    R (.ok (.ret (.ref ((((hp.push D).push H).push { cls:=.type "tuple",data:=.seq #[.ref hp.objs.size,.ref (hp.push D).objs.size] }).push { cls:=.type "tuple",data:=.seq #[.none,.none] }).objs.size))) {zh hp D H,g,d,G,os}:=λ{D H} U Y N O=>by
   obtain⟨A,B,C⟩:=zj2 U Y N O;have e:((((hp.push D).push H).push { cls:=.type "tuple",data:=.seq #[.ref hp.objs.size,.ref (hp.push D).objs.size] }).push { cls:=.type "tuple",data:=.seq #[.none,.none] }).objs.size=hp.objs.size+4:=by
    rw[jq,jq,jq,jq]
   rw[e];exact Q _ A B C
  cases k1 with
  | true=>
   have I:Heap.IsList (Shared.heap ⟨hp,g,d,G,os⟩) a1 xs:=J;cases k2 with
   | true=>
    have L2:Heap.IsList (Shared.heap {hp.push { cls:=.type "list_iterator",data:=.fields #[.ref a1,.int 0 0] },g,d,G,os}) a2 ys:=Heap.IsList.push u _;wp_walk using wpAny_pyIter_list I,wpAny_pyIter_list L2
    exact{_,rfl,f (λg e=>{_,e,rfl,rfl}) (λg n e=>{_,e,rfl,rfl}) rfl rfl}
   | false=>
    have L2:Heap.IsTuple (Shared.heap {hp.push { cls:=.type "list_iterator",data:=.fields #[.ref a1,.int 0 0] },g,d,G,os}) a2 ys:=Heap.IsTuple.push u _;wp_walk using wpAny_pyIter_list I,wpAny_pyIter_tuple L2
    exact{_,rfl,f (λg e=>{_,e,rfl,rfl}) (λg n e=>{_,e,rfl,rfl}) rfl rfl}
  | false=>
   have I:Heap.IsTuple (Shared.heap ⟨hp,g,d,G,os⟩) a1 xs:=J;cases k2 with
   | true=>
    have L2:Heap.IsList (Shared.heap {hp.push { cls:=.type "tuple_iterator",data:=.fields #[.ref a1,.int 0 0] },g,d,G,os}) a2 ys:=Heap.IsList.push u _;wp_walk using wpAny_pyIter_tuple I,wpAny_pyIter_list L2
    exact{_,rfl,f (λg e=>{_,e,rfl,rfl}) (λg n e=>{_,e,rfl,rfl}) rfl rfl}
   | false=>
    have L2:Heap.IsTuple (Shared.heap {hp.push { cls:=.type "tuple_iterator",data:=.fields #[.ref a1,.int 0 0] },g,d,G,os}) a2 ys:=Heap.IsTuple.push u _;wp_walk using wpAny_pyIter_tuple I,wpAny_pyIter_tuple L2
    exact{_,rfl,f (λg e=>{_,e,rfl,rfl}) (λg n e=>{_,e,rfl,rfl}) rfl rfl}
theorem zek{f u:Bool}{a1 a2:Addr}{C D:Array Value}{Q:Value->Shared->Prop}(h1:SeqK f s.heap a1 C)(h2:SeqK u s.heap a2 D)
  (h:∀e,Jf f u e (s.heap.objs.size+4) (s.heap.objs.size+2) (s.heap.objs.size+3) s.heap.objs.size 0#O a1 a2 0->(∀c o,s.heap.get? c=some o->e.get? c=some o)->e.objs.size=s.heap.objs.size+5 ->
   Q (.ref (s.heap.objs.size+4)) { s with heap:=e }):wpAny (model t w) A (call (.type "zip") [.ref a1,.ref a2]) Q E s:=by
 refine callType_new F.called_zip 1e1 (F.typeCall_zip_2 _ _) (F.newCall_zip_2 _ _) (λB=>F.args_object_init_3 B _ _) F.entry_zip_new (zew (k1:=f) (k2:=u) (xs:=C) (ys:=D)) {h1,h2,λe Z k z=>?_}
 exact{{_,Z.zz,rfl},h e Z k z}
end
theorem Inv.seqK{X:Cx}{f:List (Addr×Obj)}{σ:St}{H:Hp}{s:Shared}{o:Bool}{a:Addr}{t:List V}(I:Inv X f σ H s)(h:SqK X.K o H a t):∃e:List Value,Vals t e/\SeqK o s.heap a e.toArray/\t.length<=sizeLine:=by
 cases o with
 | true=>obtain⟨e,r,p,z⟩:=I.list h;exact⟨e,r,p.isList,z⟩
 | false=>obtain⟨e,r,p,z⟩:=I.tuple h;exact⟨e,r,p,z⟩
theorem SqK.ne_fp{X:Cx}{t:List (Addr×Obj)}{σ:St}{H:Hp}{s:Shared}{A:Bool}{a b:Addr}{u:List V}(I:Inv X t σ H s)(h:SqK X.K A H a u)(f:jH X t H b):a≠b:=λz=>by
 have B:∀o,X.K.lookup a=some o->False:=λo e=>by
  have w:=I.mod.kin a o e;rcases f.2.2.2.1 with q | q
  .exact I.ok.noex a o w (by rw[z];exact q)
  .have:=zK (I.ok.bs a o w).1
   rw[z] at this;exact xM _ (jM this q)
 cases A with
 | true=>
  rcases(show SqL X.K H a u from h) with(q | ⟨o,q⟩) | ⟨o,_,_,q,_⟩
  .rw[z,f.1] at q;cases q
  .rw[z,f.1] at q;cases q
  .exact B o q
 | false=>
  rcases(show SqT X.K H a u from h) with(q | ⟨o,q⟩) | ⟨o,_,_,q,_⟩
  .rw[z,f.1] at q;cases q
  .rw[z,f.1] at q;cases q
  .exact B o q
section
variable{X:Cx}
end
def TyN(K:W.Frag)(H:Hp)(x:V)(T:String):Prop:=match x with
 | .non=>T = "NoneType"
 | .bl _=>T = "bool"
 | .int _=>T = "int"
 | .str _=>T = "str"
 | .ref a=>(T = "list" /\ ∃e,SqL K H a e)\/(T = "tuple" /\ ∃e,SqT K H a e)
 | _=>False
def zki(T C:String):Bool:=T==C||(T == "bool" && C == "int")
def Wb:List String:=["NoneType","bool","int","str","list","tuple"]
def WJ:List String:=["bool","int","str","list","tuple","dict"]
theorem zhD{K:W.Frag}:∀T∈Wb,∀C∈WJ,PySem.W.kitOne K (.type T) (.type C)=some (zki T C):=by
 intro T f C e;simp only[Wb,WJ,zP,QO,or_false] at f e;rcases f with rfl | rfl | rfl | rfl | rfl | rfl<;>rcases e with rfl | rfl | rfl | rfl | rfl | rfl<;>kernel_rfl
theorem TyN.mem{K:W.Frag}{H:Hp}{x:V}{T:String}(h:TyN K H x T):T∈Wb:=by
 cases x with
 | non=>cases(show T=_ from h);decide
 | bl _=>cases(show T=_ from h);decide
 | int _=>cases(show T=_ from h);decide
 | str _=>cases(show T=_ from h);decide
 | ref a=>rcases(show _\/_ from h) with ⟨e,_⟩ | ⟨e,_⟩<;>(subst e;decide)
 | _=>exact(show False from h).elim
section
variable{X:Cx}{f:List (Addr×Obj)}{σ:St}{H:Hp}{s:Shared}
theorem zhC{x:V}{u:Value}{T:String}(I:Inv X f σ H s)(w:RelV x u)(ty:TyN X.K H x T):∃P:Heap->Prop,P s.heap/\PySem.W.KitX X.K u (.type T) P/\u≠.builtin "__main__.__loader__#opaque" :=by
 cases x with
 | non=>cases(show u=Value.none from w);cases(show T=_ from ty);exact{_,True.intro,PySem.W.kitx_none,λz=>nomatch z}
 | bl y=>cases(show u=Value.bool y from w);cases(show T=_ from ty);exact{_,True.intro,PySem.W.kitx_bool,λz=>nomatch z}
 | int i=>obtain⟨t,q⟩:=(show ∃t,u=Value.int i t from w);cases q;cases(show T=_ from ty);exact{_,True.intro,PySem.W.kitx_int,λz=>nomatch z}
 | str y=>obtain⟨t,q⟩:=(show ∃t,u=Value.str y t from w);cases q;cases(show T=_ from ty);exact{_,True.intro,PySem.W.kitx_str,λz=>nomatch z}
 | ref a=>
  cases(show u=Value.ref a from w)
  rcases(show _\/_ from ty) with ⟨e,B,hx⟩ | ⟨e,B,hx⟩
  .subst e
   obtain⟨A,r,⟨o,n,e1,e2,_⟩,_⟩:=I.list hx;exact{_,⟨o,e1,e2⟩,PySem.W.kitx_list,λz=>nomatch z}
  .subst e
   obtain⟨A,r,⟨o,e1,e2,_⟩,_⟩:=I.tuple hx;exact{_,⟨o,e1,e2⟩,PySem.W.kitx_tuple,λz=>nomatch z}
 | _=>exact(show False from ty).elim
end
section
variable{X:Cx}
inductive Z5(K:W.Frag)(e:List V)(H:Hp)(Q:VK):Prop
 | mk (x T C:_) (_:e=[x,.ty C]) (_:TyN K H x T) (_:C∈WJ) (_:Q (.bl (zki T C)) H):Z5 K e H Q
theorem wK:jD X (.builtin "isinstance") (Z5 X.K):=by
 intro f s σ H G E Q I r h;obtain⟨x,T,C,rfl,ty,o,q⟩:=h;obtain⟨u,D,rfl,A,e⟩:=JK r;cases(show D=Value.type C from e)
 obtain⟨P,t,Z,w⟩:=zhC I A ty;exact PySem.W.kia_one Z I.kIn t (zhD T ty.mem C o) w λB=>{.bl _,H,I.tok B,rfl,q}
end
inductive Dat where
 | non | bl (b:Bool) | int (i:Int) | str (x:Str) | lst (e:List Dat) | tup (e:List Dat)
mutual
def Rep(K:W.Frag)(H:Hp):Dat->V->Prop
 | .non,v=>v=.non
 | .bl b,v=>v=.bl b
 | .int i,v=>v=.int i
 | .str x,v=>v=.str x
 | .lst f,v=>∃a e,v=.ref a/\SqL K H a e/\Reps K H f e
 | .tup f,v=>∃a e,v=.ref a/\SqT K H a e/\Reps K H f e
def Reps(K:W.Frag)(H:Hp):List Dat->List V->Prop
 | [],e=>e=[]
 | d::f,e=>∃x r,e=x::r/\Rep K H d x/\Reps K H f r
end
theorem Same.sqT{K:W.Frag}{H f:Hp}{a:Addr}{t:List V}(e:Same H f)(h:SqT K H a t):SqT K f a t:=by
 rcases h with(h | ⟨o,h⟩) | h
 .exact .inl (.inl (e _ _ h))
 .exact .inl (.inr {o,e _ _ h})
 .exact .inr h
mutual
theorem Rep.same{K:W.Frag}{H t:Hp}(e:Same H t):∀{d:Dat} {v:V},Rep K H d v->Rep K t d v
 | .non,_,h=>h
 | .bl _,_,h=>h
 | .int _,_,h=>h
 | .str _,_,h=>h
 | .lst _,_,h=>by
  obtain⟨a,o,e1,e2,f⟩:=h;exact{a,o,e1,e.seq e2,Reps.same e f}
 | .tup _,_,h=>by
  obtain⟨a,o,e1,e2,f⟩:=h;exact{a,o,e1,e.sqT e2,Reps.same e f}
theorem Reps.same{K:W.Frag}{H f:Hp}(e:Same H f):∀{o:List Dat} {t:List V},Reps K H o t->Reps K f o t
 | [],_,h=>h
 | _::_,_,h=>by
  obtain⟨x,r,e1,e2,u⟩:=h;exact{x,r,e1,Rep.same e e2,Reps.same e u}
end
theorem Reps.len{K:W.Frag}{H:Hp}:∀{e:List Dat} {f:List V},Reps K H e f->f.length=e.length
 | [],_,h=>by rw[show _=_ from h];rfl
 | _::_,_,h=>by
  obtain⟨x,r,e1,e2,o⟩:=h;rw[e1,qH,qH,Reps.len o]
theorem Reps.get{K:W.Frag}{H:Hp}:∀{f:List Dat} {o:List V} {i:Nat} {x:V},Reps K H f o->o[i]? =some x->∃d,f[i]? =some d/\Rep K H d x
 | [],_,_,_,h,e=>by rw[show _=_ from h] at e;simp at e
 | d::f,_,i,x,h,e=>by
  obtain⟨y,r,e1,e2,u⟩:=h;subst e1;cases i with
  | zero=>simp at e;subst e;exact⟨d,rfl,e2⟩
  | succ i=>
   obtain⟨t,q1,q2⟩:=Reps.get (i:=i) u (by simpa using e)
   exact{t,by simpa using q1,q2}
theorem zb{H:Hp}{a:Addr}{o:HO}(h:H a=none):Same H (upd H a o):=λb u e=>by rw[zj (zk e h)];exact e
section
variable{X:Cx}
end
structure Dfn(P:Program)(w:World)(K:W.Frag)(mg:Str->Option Value)(base:Heap)(x:Str)(k:Nat)(ps:List Str)(sp:Sp):Prop where
 ex:∃f fd,FnOk P w K mg base CX0 k f fd ps sp/\mg x=some (.ref f)/\PySem.W.keepIn K (.ref f)=true/\Binds K fd ps []
section
variable{X:Cx}{x:Str}{k:Nat}{A:List Str}{w:Sp}{p u:Pos}{e:Expr}{o:List Expr}{t:TA}
theorem zn(D:Dfn X.prog X.w X.K X.mg X.base x k A w)(G:Room k X.A)(E:Gl X x)(C:PA X (e::o) t)(hd:(x==("__debug__":Str))=false:=by decide)
  (H:starEach (e::o) X.env=(false,eval e X.env)::starEach o X.env:=by rfl) (B:(backTo u (starEach o X.env)).any (·.1)=false:=by rfl):PE X (.Call (.Name x p) (e::o) [] u) (zic w [] E0 t):=by
 obtain⟨f,I,F,hm,hk,hb⟩:=D.ex;exact zhf F G E hm hk hb .nil zkF C hd H B
end
theorem ifT{b:Bool}{A B:Prop}(h:b=true)(q:A):if b=true then A else B:=by rw[zt h];exact q
theorem ifF{b:Bool}{A B:Prop}(h:b=false)(q:B):if b=true then A else B:=by rw[zq (by rw[h];exact jr)];exact q
theorem Xb{lo:Int}{N n:Nat}{g:TG}{J:TT}{I:TE}{A:St}{R:List V->Hp->Prop}{H:Hp}(Pv:Nat->List V->Hp->Prop)(h0:Pv 0 [] H)
  (L:∀i f H,i<N->Pv i f H->g (.int (lo+i)) A H λu D=>u.drop n=A.drop n/\J u D λb w=>if b=true then I u w λv E=>f.length<sizeLine/\Pv (i+1) (f++[v]) E else Pv (i+1) f w)
  (hd:∀f H,Pv N f H->f.length<=sizeLine/\R f H) :
  ∃W:Nat->Nat->List V->Hp->Prop,(∃m,W 0 m [] H)/\∀i m f o,W i m f o ->
   ((Itr lo N).stop i o/\f.length<=sizeLine/\R f o) \/
   ((Itr lo N).go i o/\∃M:List V->Hp->Prop,(∀f B,M f B->∃G,G<m/\W (i+1) G f B)/\∀x C,(Itr lo N).yld i o x C->g x A C λu D=>u.drop n=A.drop n/\J u D λb w=>
    if b=true then I u w λy E=>f.length<sizeLine/\M (f++[y]) E else M f w):=by
 refine{λi m f o=>m=N-i/\i<=N/\Pv i f o,{_,rfl,qJ _,h0},?_}
 rintro i m f o ⟨rfl,hi,p⟩;by_cases t:i<N
 .refine .inr {t,Pv (i+1),λY B O=>{_,(),rfl,t,O},λx C y=>?_}
  obtain⟨e1,e2⟩:=y;subst e1 e2;exact L i f _ t p
 .have e:i=N:=()
  subst e;obtain⟨Q,U⟩:=hd f o p;exact .inl {zx _,Q,U}
def vN(sn on:List (Str×NameKind))(N own e:List Str)(f:List Nat):Bool:=
 Zs sn on N e f&&own.all (λx=>sn.lookup x==some .local)&&decide (own++e).Nodup
theorem xn{sn on:List (Str×NameKind)}{N own e:List Str}{f:List Nat}(h:vN sn on N own e f=true):Zs sn on N e f=true/\(∀x∈own,sn.lookup x=some .local)/\(own++e).Nodup:=by
 unfold vN at h;rw[jX,jX,xD] at h;exact{h.1.1,λx hx=>by simpa using h.1.2 x hx,xF h.2}
section
variable{X:Cx}{f e:Expr}{o:List Expr}{scope:Scope}{t u E G:Pos}{B:TI}{A:TT}{w:TE}{x y:Str}{D:Nat}
theorem xf{I:List Str}{C:Addr}{s:Shared}{H:Hp}{J:List Addr}{i:Nat}(L:scope.names.lookup x=some .local)(N:I.Nodup)(M:I[i]? =some x):PG (zB X I scope C s H J) (.Name x u) (j7 i):=
 zy (X:=zB X I scope C s H J) N M (.inl (lookup_relabel_local L)) (.inr (lookup_relabel_local L))
theorem jT(J:List Str)(L:List Nat)(hc:X.calm=true)(hk:scope.kind=.function)(hb:vN scope.names X.env.scope.names X.N [x] J L=true)(O:PI X (.Name x u) e B)
  (N:∀C s H I,PF (zB X ([x]++J) scope C s H I) o A) (M:∀C s H I,PE (zB X ([x]++J) scope C s H I) f w)
  (Q:∀x,foldedSetIterable e X.env x=pure x:=by intro _;rfl):PE X (.ListComp f [{.Name x u,e,o,0}] scope t) (tLC B 1 L (j7 0) A w):=by
 obtain⟨h1,h2,h3⟩:=xn hb;exact zfo [x] J L hc hk h1 O (λC s H I=>xf (h2 x 1e3) h3 rfl) N M Q
theorem JY(J:List Str)(L:List Nat)(hc:X.calm=true)(hk:scope.kind=.function)(hb:vN scope.names X.env.scope.names X.N [x,y] J L=true)(O:PI X (.Tuple [.Name x u,.Name y E] D G) e B)
  (N:∀C s H I,PF (zB X ([x,y]++J) scope C s H I) o A) (M:∀C s H I,PE (zB X ([x,y]++J) scope C s H I) f w)
  (Q:∀x,foldedSetIterable e X.env x=pure x:=by intro _;rfl):PE X (.ListComp f [{.Tuple [.Name x u,.Name y E] D G,e,o,0}] scope t) (tLC B 2 L (WB X.K 2 (vg (j7 0) (vg (j7 1) zam))) A w):=by
 obtain⟨h1,h2,h3⟩:=xn hb;refine zfo [x,y] J L hc hk h1 O (λC s H I=>?_) N M Q
 exact jP (X:=zB X ([x,y]++J) scope C s H I) hc (zD (xf (h2 x 1e3) h3 rfl) (zD (xf (h2 y 1e3) h3 rfl) jw))
end
def tWk(t:TS):TS:=λD σ H=>∃J:St->Hp->Prop,t { D with nx:=J } σ H/\∀f e,J f e->D.nx f e
theorem Wi{X:Cx}{st:Stmt}{t:TS}(h:PS X st t):PS X st (tWk t):=by
 intro e s σ H D I B;obtain⟨J,q1,q2⟩:=B;refine thn (h e s σ H _ I q1) λf s1 q=>?_
 cases f with
 | next=>obtain⟨w,o,A,z⟩:=q;exact{w,o,A,q2 w o z}
 | brk=>exact q
 | cont=>exact q
 | ret u=>exact q
mutual
def Dat.py:Dat->PyData
 | .non=>.none
 | .bl b=>.bool b
 | .int i=>.int i
 | .str x=>.str x
 | .lst e=>.list (Dat.pys e)
 | .tup e=>.tuple (Dat.pys e)
def Dat.pys:List Dat->List PyData
 | []=>[]
 | d::e=>d.py::Dat.pys e
end
mutual
def Dat.shw:Dat->Bool
 | .int i=>decide (i.natAbs<1000000000000)
 | .str x=>x.cps.toList.all λc=>decide (c<1000000)
 | .lst e=>Dat.shws e
 | .tup e=>Dat.shws e
 | _=>true
def Dat.shws:List Dat->Bool
 | []=>true
 | d::e=>d.shw&&Dat.shws e
end
mutual
def Dat.blk:Dat->Nat
 | .str x=>x.cps.size
 | .lst e=>Dat.blks e
 | .tup e=>Dat.blks e
 | _=>0
def Dat.blks:List Dat->Nat
 | []=>0
 | d::e=>d.blk+1+Dat.blks e
end
mutual
theorem Dat.py_blk:∀d:Dat,d.py.bulk=d.blk
 | .non=>rfl
 | .bl _=>rfl
 | .int _=>rfl
 | .str _=>rfl
 | .lst e=>Dat.pys_blk e
 | .tup e=>Dat.pys_blk e
theorem Dat.pys_blk:∀e:List Dat,PyData.bulkAll (Dat.pys e)=Dat.blks e
 | []=>rfl
 | d::e=>by
  show PyData.bulk d.py+1+PyData.bulkAll (Dat.pys e)=d.blk+1+Dat.blks e;rw[Dat.py_blk d,Dat.pys_blk e]
end
theorem zhx{n:Nat}(h:n<1000000000000):n.log2<1920:=by
 by_cases h0:n=0
 .rw[h0];decide
 .exact XE ((Nat.log2_lt h0).mpr (XE h (by decide:1000000000000<2^40))) 1e1
mutual
theorem Dat.py_short:∀d:Dat,d.shw=true->d.py.leavesShort 13=true/\d.py.showable=true/\d.py.hasDict=false
 | .non,_=>⟨rfl,rfl,rfl⟩
 | .bl _,_=>⟨rfl,rfl,rfl⟩
 | .int i,h=>by
  have e:i.natAbs<1000000000000:=xF h;refine{zY (PyData.shown_int_le e),zY (zhx e),rfl}
 | .str x,h=>by
  refine{?_,rfl,rfl}
  have e:(x.cps.toList.all λc=>decide (c<1000000))=true:=h
  show(x.cps.toList.all λc=>decide (c<16^8))=true
  rw[xD] at e ⊢;intro c hc;have:=xF (e c hc);exact zY ()
 | .lst f,h=>Dat.pys_short f h
 | .tup f,h=>Dat.pys_short f h
theorem Dat.pys_short:∀e:List Dat,Dat.shws e=true->PyData.leavesShortAll 13 (Dat.pys e)=true/\PyData.showableAll (Dat.pys e)=true/\PyData.hasDictAll (Dat.pys e)=false
 | [],_=>⟨rfl,rfl,rfl⟩
 | d::e,h=>by
  have f:(d.shw&&Dat.shws e)=true:=h;rw[jX] at f;obtain⟨a1,a2,a3⟩:=Dat.py_short d f.1;obtain⟨b1,b2,b3⟩:=Dat.pys_short e f.2;refine{?_,?_,?_}
  .show(PyData.leavesShort 13 d.py&&PyData.leavesShortAll 13 (Dat.pys e))=true
   rw[a1,b1];rfl
  .show(PyData.showable d.py&&PyData.showableAll (Dat.pys e))=true
   rw[a2,b2];rfl
  .show(PyData.hasDict d.py||PyData.hasDictAll (Dat.pys e))=false
   rw[a3,b3];rfl
end
mutual
theorem Rep.reads{X:Cx}{f:List (Addr×Obj)}{σ:St}{H:Hp}{s:Shared}(I:Inv X f σ H s):∀{d:Dat} {v:V} {u:Value},Rep X.K H d v->RelV v u->∃w,Reads s.heap u d.py w
 | .non,v,u,h,r=>by cases(show v=_ from h);cases(show u=_ from r);exact{_,.none}
 | .bl b,v,u,h,r=>by cases(show v=_ from h);cases(show u=_ from r);exact{_,.bool b}
 | .int i,v,u,h,r=>by cases(show v=_ from h);obtain⟨t,rfl⟩:=r;exact{_,.int i t}
 | .str x,v,u,h,r=>by cases(show v=_ from h);obtain⟨t,rfl⟩:=r;exact{_,.str x t}
 | .lst E,v,u,h,r=>by
  obtain⟨a,J,rfl,hx,B⟩:=h;cases(show u=_ from r)
  obtain⟨C,D,G,_⟩:=I.list hx;obtain⟨o,e,c,n,A⟩:=G.isList;obtain⟨w,q⟩:=Reps.reads I B D;exact{_,.list e c A (by simpa using q)}
 | .tup E,v,u,h,r=>by
  obtain⟨a,J,rfl,hx,B⟩:=h;cases(show u=_ from r)
  obtain⟨C,D,⟨o,e,c,n,A⟩,_⟩:=I.tuple hx;obtain⟨w,q⟩:=Reps.reads I B D;exact{_,.tuple e c A (by simpa using q)}
theorem Reps.reads{X:Cx}{e:List (Addr×Obj)}{σ:St}{H:Hp}{s:Shared}(I:Inv X e σ H s):∀{t:List Dat} {f:List V} {o:List Value},Reps X.K H t f->Vals f o->∃u,ReadsAll s.heap o (Dat.pys t) u
 | [],f,o,h,r=>by cases(show f=_ from h);cases r;exact{_,.nil}
 | d::t,f,o,h,r=>by
  obtain⟨x,C,rfl,h1,h2⟩:=h;cases r with
  | cons w A=>
   obtain⟨u,q1⟩:=Rep.reads I h1 w;obtain⟨B,q2⟩:=Reps.reads I h2 A;exact{_,.cons q1 q2}
end
section
variable{X:Cx}
inductive Jh(K:W.Frag)(e:List V)(H:Hp)(Q:VK):Prop
 | mk (a:Addr) (d:Dat) (_:e=[.ref a]) (_:Rep K H d (.ref a)) (_:d.shw=true) (_:d.blk<=1048576) (_:d.py.depth<=60) (_:Q (.str d.py.shown) H):Jh K e H Q
theorem VU(t:X.A.guards=some [])(hu:X.A.units+64<cLine):jD X (.type "str") (Jh X.K):=by
 intro f s σ H J G Q I r h;obtain⟨a,d,rfl,w,h1,h2,h3,q⟩:=h;obtain⟨u,rfl,o⟩:=vX r;obtain⟨C,q1⟩:=w.reads I o;cases(show u=_ from o)
 obtain⟨s1,s2,A⟩:=Dat.py_short d h1;refine str_of_reads q1 s2 (PyData.noDict_hsm A) t () (λ_ _ e=>e) (λD u E hk=>{.str d.py.shown,H,I.kept hk,⟨u,rfl⟩,q}) ?_
 exact PyData.shown_fits_bulk (B:=13) 1e1 1e1 s1 (by rw[Dat.py_blk];exact h2)
inductive Jg(K:W.Frag)(f:List V)(H:Hp)(Q:VK):Prop
 | mk (p:Addr) (e:List Int) (_:f=[.ref p]) (_:SqL K H p (e.map V.int)) (_:(∀z∈e,0<=z/\z<=1000000)) (_:e.length<=100000) (_:Q (.int e.sum) H):Jg K f H Q
theorem zel(hc:X.calm=true):jD X (.builtin "sum") (Jg X.K):=by
 intro aa s σ H xs us Q I r h;obtain⟨p,f,rfl,hq,hz,hn,q⟩:=h;obtain⟨u,rfl,ru⟩:=vX r;cases(show u=_ from ru)
 obtain⟨B,rv,pl,_⟩:=I.list hq;have G:=pl.isList;have J:p≠s.heap.objs.size:=by
  obtain⟨o,e,_⟩:=G;exact zN (zK e)
 have E:B.length=f.length:=by have:=rv.length;rw[zm] at this;omega
 have L:∀j,j<=f.length->0<=(f.take j).sum/\(f.take j).sum<=1000000*(j:Int):=by
  intro j;induction j with
  | zero=>intro _;simp
  | succ j ih=>
   intro Y;have:=ih ()
   have e:f.take (j+1)=f.take j++[f[j]'()]:=by rw[Zu]
   have b:=hz (f[j]'()) (xP _)
   rw[e,List.sum_append];simp only[List.sum_cons,List.sum_nil];constructor
   .omega
   .have:(1000000:Int)*((j+1:Nat):Int)=1000000*(j:Int)+1000000:=()
    omega
 refine call_sum_walk (wpAny_pyIter_list G ?_)
 refine{s.heap.objs.size,_,_,_,_,_,λi=>f.getD i 0,rfl,QH (prog:=X.prog) (w:=X.w) (A:=X.A.in1) 0#Q _ p J B.toArray,{{_,qo _ rfl,rfl,rfl},G.push _},λb hb=>?_,λi v hP=>?_,λj Y=>?_,λh' tk t' hk=>?_}
 .have M:(s.heap.push { cls:=.type "list_iterator",data:=.fields #[.ref p,.int 0 0] }).objs.size=s.heap.objs.size+1:=jq ..
  show b<(s.heap.push _).objs.size;rw[M];rcases zP.mp hb with z | z
  .rw[z];exact wP _
  .rw[zR.mp z]
   obtain⟨o,e,_⟩:=G;exact vP (zK e)
 .have e1:B[i]? =some v:=by simpa using hP
  have U:i<f.length:=by have h1:=(zO.mp e1).1;omega
  obtain⟨u',O,N⟩:=rv.get (i:=i) (x:=.int f[i]) (by simp[U])
  rw[e1] at O;cases O
  obtain⟨t,e⟩:=N;exact{t,by rw[e];simp[U]}
 .have D:j<f.length:=by simp only[zW] at Y;omega
  have a1:=hz f[j] (xP D);have a2:=L (j+1) ()
  have C:(2:Int)^63=9223372036854775808:=1e1
  refine{?_,?_}
  .show InLong (f.getD j 0)
   rw[show f.getD j 0=f[j] by simp[D]]
   unfold InLong;rw[C];omega
  .rw[preSum_getD]
   unfold InLong;rw[C];have:((j+1:Nat):Int)<=100000:=()
   omega
 .have k:∀b o,s.heap.get? b=some o->h'.get? b=some o:=λb o e=>hk b o (by simp;exact zN (zK e)) (zH _ e)
  refine{.int f.sum,H,I.kept k,{t',?_},q}
  rw[preSum_getD];have:f.take B.toArray.size=f:=by rw[zW,E,qY]
  rw[this]
end
section
variable{X:Cx}{e:Expr}
end
section
variable{X:Cx}
inductive zcG(x:V)(A:List V)(H:Hp)(Q:VK):Prop
 | mk (l:Addr) (t:List V) (i:Int) (y:V) (_:x=.ref l) (_:A=[.int i,y]) (_:H l=some (.lst t)) (_:0<=i) (_:i<2^62) (_:t.length<sizeLine) (_:Q .non (upd H l (.lst (t.take i.toNat++y::t.drop i.toNat)))):zcG  x A H Q
theorem zd3:MtM X "list.insert" zcG:=by
 intro J s σ H x vs v us Q I O N h;obtain⟨l,xs,i,y,rfl,rfl,D,i0,i1,Y,q⟩:=h;cases O;obtain⟨u1,C,rfl,L,M⟩:=JK N;obtain⟨t,rfl⟩:=L;obtain⟨z,A,n,r,U,e⟩:=I.lstM D;have E:=r.length;refine call_meets F.slot_list_insert {_,e,rfl} F.entry_list_insert (F.args_list_insert_3 _ _ _) (AutoListH.list_insert_list_int_val_1 l A.toArray n i t C ?_ (by rw[zW];omega)) {e,?_}
 .unfold Builtin.List.listFitsIndex
  simp;omega
 refine{.non,_,I.lset (its':=A.take i.toNat++C::A.drop i.toNat) D e ?_ ((r.take _).append (.cons M (r.drop _))) ?_,rfl,q}
 .show(have k:=if i<0 then(i+((A.toArray.size:Nat):Int)).toNat else min i.toNat A.toArray.size;(A.toArray.extract 0 k).push C++A.toArray.extract k)=_
  have hk:(if i<0 then(i+((A.toArray.size:Nat):Int)).toNat else min i.toNat A.toArray.size)=min i.toNat A.length:=by
   rw[zq (),zW]
  simp only[hk];apply Array.toList_inj.mp
  simp;by_cases B:i.toNat<=A.length
  .have h1:(A.drop i.toNat).take (A.length-i.toNat)=A.drop i.toNat:=Yg (by rw[ZT];omega)
   rw[XI B,h1]
  .have h1:A.length<=i.toNat:=()
   rw[Nat.min_eq_right h1,Yg h1,List.drop_of_length_le h1];simp
 .simp only[qu,jb,qH,ZT]
  omega
variable{e st:Expr}{u:TE}{w:TO}{f o:Pos}
end
theorem vy{K:W.Frag}{a:Addr}{xs:List V}{g:TG}{J:TT}{I:TE}{A:St}{n:Nat}{R:List V->Hp->Prop}{H:Hp}(Pv:Nat->List V->Hp->Prop)(h0:Pv 0 [] H)
  (h1:∀i f H,Pv i f H->SqL K H a xs)
  (L:∀i x f H,xs[i]? =some x->Pv i f H->g x A H λt D=>t.drop n=A.drop n/\J t D λb u=>
   if b=true then I t u λv E=>f.length<sizeLine/\Pv (i+1) (f++[v]) E else Pv (i+1) f u)
  (hd:∀f H,Pv xs.length f H->f.length<=sizeLine/\R f H) :
  ∃W:Nat->Nat->List V->Hp->Prop,(∃m,W 0 m [] H)/\∀i m f o,W i m f o ->
   ((Itl K a).stop i o/\f.length<=sizeLine/\R f o) \/
   ((Itl K a).go i o/\∃N:List V->Hp->Prop,(∀f B,N f B->∃G,G<m/\W (i+1) G f B)/\∀x C,(Itl K a).yld i o x C->g x A C λt D=>t.drop n=A.drop n/\J t D λb u=>
    if b=true then I t u λy E=>f.length<sizeLine/\N (f++[y]) E else N f u):=by
 fail"a"
 rintro i m f o ⟨rfl,Y,p⟩;have q:=h1 i f o p;by_cases w:i<xs.length
 .refine .inr {{xs,xs[i],q,by simp[w]},Pv (i+1),λU B M=>{_,(),rfl,w,M},λx C y=>?_}
  obtain⟨e,y⟩:=y;subst e;exact L i x f _ (y xs q) p
 .have e:i=xs.length:=()
  subst e;obtain⟨O,Q⟩:=hd f o p;exact .inl {{xs,q,zx _},O,Q}
theorem vM{K:W.Frag}{a:Addr}{xs:List V}{g:TG}{J:TT}{I:TE}{A:St}{n:Nat}{R:List V->Hp->Prop}{H:Hp}(Pv:Nat->List V->Hp->Prop)(h0:Pv 0 [] H)
  (h1:∀i f H,Pv i f H->SqT K H a xs)
  (L:∀i x f H,xs[i]? =some x->Pv i f H->g x A H λt D=>t.drop n=A.drop n/\J t D λb u=>
   if b=true then I t u λv E=>f.length<sizeLine/\Pv (i+1) (f++[v]) E else Pv (i+1) f u)
  (hd:∀f H,Pv xs.length f H->f.length<=sizeLine/\R f H) :
  ∃W:Nat->Nat->List V->Hp->Prop,(∃m,W 0 m [] H)/\∀i m f o,W i m f o ->
   ((Itt K a).stop i o/\f.length<=sizeLine/\R f o) \/
   ((Itt K a).go i o/\∃N:List V->Hp->Prop,(∀f B,N f B->∃G,G<m/\W (i+1) G f B)/\∀x C,(Itt K a).yld i o x C->g x A C λt D=>t.drop n=A.drop n/\J t D λb u=>
    if b=true then I t u λy E=>f.length<sizeLine/\N (f++[y]) E else N f u):=by
 fail"a"
 rintro i m f o ⟨rfl,Y,p⟩;have q:=h1 i f o p;by_cases w:i<xs.length
 .refine .inr {{xs,xs[i],q,by simp[w]},Pv (i+1),λU B M=>{_,(),rfl,w,M},λx C y=>?_}
  obtain⟨e,y⟩:=y;subst e;exact L i x f _ (y xs q) p
 .have e:i=xs.length:=()
  subst e;obtain⟨O,Q⟩:=hd f o p;exact .inl {{xs,q,zx _},O,Q}
inductive DV(K:W.Frag)(F:Hp)(n:Nat):V->Prop
 | non:DV K F n .non
 | bl (b:Bool):DV K F n (.bl b)
 | int (i:Int) (h:i.natAbs<=10000000000+n):DV K F n (.int i)
 | str (x:Str) (h:x.length<=n):DV K F n (.str x)
 | lst (a:Addr) (e:List V) (h:SqL K F a e) (f:e.length<=n) (all:∀x∈e,DV K F n x):DV K F n (.ref a)
 | tup (a:Addr) (e:List V) (h:SqT K F a e) (f:e.length<=n) (all:∀x∈e,DV K F n x):DV K F n (.ref a)
theorem DV.up{K:W.Frag}{F o:Hp}{n m:Nat}{v:V}(h:DV K F n v)(s:Same F o)(hm:n<=m):DV K o m v:=by
 induction h with
 | non=>exact .non
 | bl b=>exact .bl b
 | int i h=>exact .int i ()
 | str x h=>exact .str x ()
 | lst a f h t all e=>exact .lst a f (s.seq h) () e
 | tup a f h t all e=>exact .tup a f (s.sqT h) () e
def WX(e:List Addr)(H:Hp):Hp:=λc=>if c∈e then none else H c
theorem WX.le{f:List Addr}{H:Hp}:Same (WX f H) H:=λc o e=>by
 unfold WX at e;split at e
 .cases e
 .exact e
theorem WX.cons{f:List Addr}{H:Hp}{m:Addr}:Same (WX (m::f) H) (WX f H):=λc u e=>by
 unfold WX at e ⊢;split at e
 .cases e
 .rename_i hc
  rw[zq (λz=>hc (jf _ z))]
  exact e
theorem WX.put{f:List Addr}{H:Hp}{m:Addr}{o:HO}(h:m∈f):Same (WX f H) (WX f (upd H m o)):=λc u e=>by
 unfold WX at e ⊢;split at e
 .cases e
 .rename_i hc
  rw[zq hc,zj (show c≠m fromλz=>hc (by rw[z];exact h))]
  exact e
theorem WX.at{f:List Addr}{H:Hp}{c:Addr}{o:HO}(h:c∉f)(e:H c=some o):WX f H c=some o:=by
 unfold WX;rw[zq h];exact e
def ziG:Expr->Bool
 | .Starred _ _=>false
 | _=>true
theorem wA{e:Expr}{o:List Expr}{f:Env}(h:ziG e=true):starEach (e::o) f=(false,eval e f)::starEach o f:=by
 cases e<;>first| rfl | cases h
theorem pa5{X:Cx}{f e1 e2 o t:Expr}{u w A B C:TE}(h0:PE X f u)(h1:PE X e1 w)(h2:PE X e2 A)(h3:PE X o B)(D:PE X t C)(h:([f,e1,e2,o,t]).all ziG=true:=by rfl):PA X [f,e1,e2,o,t] (Vo u (Vo w (Vo A (Vo B (Vo C zj8))))):=by
 have e:=xD.mp h;exact(za h0 (za h1 (za h2 (za h3 (za D ze (wA (e _ 1e3))) (wA (e _ 1e3))) (wA (e _ 1e3))) (wA (e _ 1e3))) (wA (e _ 1e3)))
section
variable{X:Cx}{t A f:Expr}{u:List Expr}{scope:Scope}{w:Pos}{G:TI}{g:TG}{E:TT}{B:TE}
theorem Yu{y:Str}{py:Pos}{g2:TG}{H:List (Addr×Obj)}{σ:St}{N:Hp}{U:St->Hp->Prop}{J:Shared}{D C:Addr}{m:Str->Option Value}(O:PG X (.Name y py) g2)(hn:J.heap.Ns C m)
  (all:∀h7:Heap,(∀b o,b≠C->J.heap.get? b=some o->h7.get? b=some o)->Inv X H σ N { J with heap:=h7 }) (fc:jH X H N C) (q:g2 (.ref D) σ N U) :
  wpAny 0#e X.A (assign (.Name y py) X.env (.ref D)) (λ_ I=>∃m,I.heap.Ns C m/\∀h',Heap.SameBut C I.heap h'->∃σ' Y,Inv X H σ' Y { I with heap:=h' }/\U σ' Y) X.xe J:=by
 have J0:=all J.heap λb o _ e=>e
 obtain⟨M,es,ep,L,hd,r⟩:=hn;have J1:=J0.pinned (fp:=[C]) (λb hb=>by rw[zR.mp hb];exact fc) (λb hb=>by rw[zR.mp hb];exact{M,L,λv z=>by rw[hd] at z;cases z})
 have mC:(C,M)∈H++zX [C] J.heap:=zZ _ (qP (zR.mpr rfl) L);refine thn (O _ J σ _ (.ref D) (.ref D) _ J1 rfl q) λ_ s8 ⟨σ8,H8,I8,q8⟩=>?_
 obtain⟨e8,n8,_⟩:=I8.pin (C,M) (zZ _ mC);obtain⟨_,g1,_,g3,g4,g5⟩:=fc;exact{m,⟨M,es,ep,e8,hd,r⟩,λh9 Q=>{σ8,H8,(I8.unpinned).turned (t':=s8.toks) (it:=C) (λb o hb e=>Q.extBut b o hb e) n8 g1 g3 g4 g5,q8}}
theorem zkA{y:Str}{O o:Pos}{Y:TG}(own M:List Str)(js:List Nat)(hc:X.calm=true)(hk:scope.kind=.function)(hb:Zs scope.names X.env.scope.names X.N M js=true)(hi:PI X A f G)
  (hg:∀C s H L,PG (zB X (own++M) scope C s H L) A g) (hf:∀C s H L,PF (zB X (own++M) scope C s H L) u E) (he:∀C s H L,PE (zB X (own++M) scope C s H L) t B)
  (aa:PG X (.Name y O) Y) (ab:swapsWith (.ListComp t [{A,f,u,0}] scope w) (some (.Name y O)) o.line X.env=pure true:=by rfl)
  (hs:∀x,foldedSetIterable f X.env x=pure x:=by intro _;rfl):PS X (.Assign [.Name y O] (.ListComp t [{A,f,u,0}] scope w) o) (Wc (tLC G own.length js g E B) Y):=by
 intro N s σ H Dn I h;rw[exec_Assign_Name_used _ _ _ _ ab];refine zc (xZ (zc ?_))
 show wpAny _ X.A (do let _<-comprehension (.ListComp t [{A,f,u,0}] scope w) scope X.env _ (newList []) false (eval f X.env) (some (assign (.Name y O) X.env))) _ _ s
 refine zc (z9 (zgj (rest:=[]) (use:=some (assign (.Name y O) X.env)) (Qx:=λ_ s'=>∃σ' H',Inv X N σ' H' s'/\Dn.nx σ' H') (Q:=λv H1=>Y v σ H1 Dn.nx) own M js hk hb hi hs I h (λC D it fp tn J W H2 s3 s4 m0 R a b T tl j U=>zcU hc hg hf he a b T tl j U) λs6 D C H6 m hn all fc q=>Yu aa hn all fc q) (λ_ s' hq=>zg (zg hq)) λ_ _ e=>e)
theorem zje{x y:Str}{M N e:Pos}{O:TG}(D:List Str)(L:List Nat)(hc:X.calm=true)(hk:scope.kind=.function)(hb:vN scope.names X.env.scope.names X.N [x] D L=true)(Y:PI X (.Name x M) f G)
  (U:∀C s H o,PF (zB X ([x]++D) scope C s H o) u E) (Q:∀C s H o,PE (zB X ([x]++D) scope C s H o) t B)
  (I:PG X (.Name y N) O) (J:swapsWith (.ListComp t [{.Name x M,f,u,0}] scope w) (some (.Name y N)) e.line X.env=pure true:=by rfl)
  (hs:∀x,foldedSetIterable f X.env x=pure x:=by intro _;rfl):PS X (.Assign [.Name y N] (.ListComp t [{.Name x M,f,u,0}] scope w) e) (Wc (tLC G 1 L (j7 0) E B) O):=by
 obtain⟨h1,h2,h3⟩:=xn hb;exact zkA [x] D L hc hk h1 Y (λC s H o=>xf (h2 x 1e3) h3 rfl) U Q I J hs
end
theorem Vals.mem{u:Value}:∀{f:List V} {o:List Value},Vals f o->u∈o->∃x∈f,RelV x u
 | _,_,.nil,h=>by cases h
 | x::f,v::A,.cons r t,h=>by
  rcases zP.mp h with e | h
  .rw[e];exact⟨x,xp,r⟩
  .obtain⟨y,hy,w⟩:=Vals.mem t h
   exact{y,jf _ hy,w}
section
variable{X:Cx}
theorem zjQ{D:List (Addr×Obj)}{σ:St}{H:Hp}{s:Shared}(I:Inv X D σ H s){A:Around}(hu:A.units<cLine){a c:Addr}{t u:List V}(hx:SqT X.K H a t)(hy:SqT X.K H c u)(J:t.all xB=true)(L:u.all xB=true):∃b,SeqAt.EqAt A s (.ref a) (.ref c) b:=by
 by_cases w:a=c
 .subst w
  exact{true,SeqAt.EqAt.same _}
 .obtain⟨B,E,O,z1⟩:=I.tuple hx
  obtain⟨C,G,Q,z2⟩:=I.tuple hy;have Y:=E.length;have l2:=G.length;refine{_,SeqAt.EqAt.of_refs w (SeqAt.RcAt.tuples (e:=λj=>eqV (t.getD j .non) (u.getD j .non)) O Q hu (λj h1 h2=>?_))}
  have f:j<t.length:=by rw[zW] at h1;omega
  have o:j<u.length:=by rw[zW] at h2;omega
  obtain⟨w1,e1,q1⟩:=E.get (i:=j) (x:=t[j]) (by simp[f])
  obtain⟨U,e2,q2⟩:=G.get (i:=j) (x:=u[j]) (by simp[o])
  have M:B.toArray[j]=w1:=by simpa using (zO.mp e1).2
  have N:C.toArray[j]=U:=by simpa using (zO.mp e2).2
  rw[M,N,show t.getD j .non=t[j] by simp[f],show u.getD j .non=u[j] by simp[o]]
  exact WF q1 q2 (xD.mp J _ (xP f)) (xD.mp L _ (xP o))
inductive V6(K:W.Frag)(x:V)(y:V)(H:Hp)(Q:VK):Prop
 | mk (a p:Addr) (o f:List V) (_:x=.ref a) (_:y=.ref p) (_:SqT K H a o) (_:o.all xB=true) (_:SqL K H p f) (_:(∀v∈f,∃(c:Addr) (e:List V),v=.ref c/\SqT K H c e/\e.all xB=true)) (_:∀r:Bool,Q (.bl r) H):V6 K x y H Q
open Classical in
theorem zhh(hu:X.A.units+64<cLine):OpR X (compareOp .In) (V6 X.K):=by
 intro A s σ H x y v u Q I J L h;obtain⟨a,p,U,O,rfl,rfl,E,C,hp,all,q⟩:=h;cases J;cases L;obtain⟨o,r,G,M⟩:=I.list hp;have B:∀w∈o,∃b,SeqAt.EqAt X.A.in1 s w (.ref a) b:=λw f=>by
  obtain⟨x,hx,t⟩:=Vals.mem r f;obtain⟨c,N,rfl,hc,D⟩:=all x hx;cases t;exact zjQ I (by show X.A.units+1<cLine;omega) hc E D C
 refine SeqAt.in_listAt (λw=>if h:∃b,SeqAt.EqAt X.A.in1 s w (.ref a) b then h.choose else false) G.isList (λw f=>?_) {.bl _,H,I,rfl,q _}
 have e:=B w (by simpa using f)
 simp only[e,dif_pos];exact e.choose_spec
theorem Yr:∀{f:List Value} {n k:Nat},f.length=n->(∀j v,f[j]? =some v->∃t,v=Value.int ((k+j:Nat):Int) t)->Vals ((List.range' k n).map λi:Nat=>V.int (i:Int)) f
 | [],0,k,_,_=>.nil
 | v::f,n+1,k,u,h=>by
  rw[List.range'_succ,jR];obtain⟨t,e⟩:=h 0 v rfl;refine .cons {t,by rw[e];rfl} (Yr (by simpa using u) λj w A=>?_)
  obtain⟨B,o⟩:=h (j+1) w (by simpa using A)
  exact{B,by rw[o,show k+(j+1)=k+1+j by omega]}
theorem Qg{a:Expr}{Y:TA}{p L M f:Pos}(hc:X.calm=true)(hg:Gl X "list")(hm:X.mg "list" = none)(E:Gl X "range")(G:X.mg "range" = none)(J:bootBuiltins "list" = some (.type "list"))(ha:PA X [a] Y)(hs:starEach [a] X.env=[(false,eval a X.env)]:=by rfl)
  (O:starEach [.Call (.Name "range" L) [a] [] f] X.env=[(false,eval (.Call (.Name "range" L) [a] [] f) X.env)]:=by rfl) :
  PE X (.Call (.Name "list" p) [.Call (.Name "range" L) [a] [] f] [] M) (λσ H Q=>Y σ H λvs D=>∃j:Int,vs=[.int j]/\0<=j/\j<=1000000/\∀l,D l=none->Q (.ref l) (upd D l (.lst ((List.range j.toNat).map λi:Nat=>V.int (i:Int))))):=by
 intro A s σ H Q I h;refine wpAny_Call_Name_kw (wn I hg hm J ?_ 1e1 1e1)
 refine Je ?_ O rfl
 rw[O];refine ye ?_
 refine Call_ (wn I E G boot_range (Je (thn (ha f A s σ H _ I h) λus s1 ⟨vs,D,I1,r1,q1⟩=>?_) hs rfl))
 obtain⟨j,e,j0,j1,q⟩:=q1;subst e;cases r1 with
 | cons r rr=>
  cases rr;obtain⟨t,rfl⟩:=r;refine call_range_1 (yT ?_)
  have N:Inv X A σ D { s1 with heap:=s1.heap.push { cls:=.type "range",data:=.fields #[.int 0 s1.toks,.int j t,.int 1 (s1.toks+1)] },toks:=s1.toks+1+1 }:=I1.kept λb o e=>zH _ e
  have w:=bGe;refine call_list_range (n:=j.toNat) 0#Q (IsRange.new ..) (small_one (by rw[w];omega) (by rw[w];omega) (by rw[w];omega) (by rw[w];omega)) (by rw[rangeSize_one];split<;>omega) () λh' tk B c' C get u=>?_
  refine{.ref _,_,N.laid (t':=tk) (o:=.lst ((List.range j.toNat).map λi:Nat=>V.int (i:Int))) C (zx _) ?_,rfl,q _ (N.hok.fresh (zx _))}
  refine{by rw[zm,vk,sizeLine_eq];omega,B.toList,c',?_,by rw[Array.toArray_toList];exact get}
  rw[List.range_eq_range'];refine Yr (by rw[jt];exact u.1) λi v J=>?_
  obtain⟨U,e'⟩:=u.2 i v (by simpa using J)
  exact{U,by rw[e'];congr 1;omega}
end
end L2
namespace L2
open PySem PySem.Spec PyProof.Rows
theorem Yp{M:Model}{A:Around}{E:Value->Shared->Prop}{s:Shared}{a:Addr}{Q:Option Obj->Shared->Prop}(h:Q (s.heap.get? a) s):wpAny M A (loadIfAlive a) Q E s:=λΓ p e=>by
 show Sem.wp M Γ (.loadIfAlive a .pure) _ _ p s;rw[Sem.wp_loadIfAlive];exact zg (M:=M) (A:=A) (E:=E) (Q:=Q) h Γ p e
def Z6(h:Heap)(z TI TO e:Addr)(b1:Bool):Prop:=h.get? z=some { cls:=.type "zip",data:=.fields #[rawInt e,.bool b1,.bool false,.ref TI,.ref TO] }
section
variable{f:Program}{w:World}{A:Around}{E:Value->Shared->Prop}{s:Shared}
theorem Ve{z TI TO e:Addr}{b1:Bool}{Q:Bool->Shared->Prop}(t:Z6 s.heap z TI TO e b1)(B:∃o,s.heap.get? e=some o)
  (G:∀u,Z6 u z TI TO e true->Heap.SameBut z s.heap u->Q false { s with heap:=u }):wpAny 0#n A (Builtin.SmallTypes.ownedTupleIsFree (.ref z)) Q E s:=by
 obtain⟨J,H⟩:=B;unfold Builtin.SmallTypes.ownedTupleIsFree;refine zc (jJ t rfl (x:=rawInt e) rfl ?_)
 show wpAny _ _ (loadIfAlive ((e:Nat):Int).toNat >>= _) _ _ _;refine zc (Yp ?_)
 rw[jC,H];show wpAny _ _ (field (.ref z) 1 >>= _) _ _ _;refine zc (jJ t rfl (x:=.bool b1) rfl ?_)
 cases b1 with
 | true=>exact zg (G s.heap t (Heap.SameBut.refl _ _))
 | false=>
  refine zc (yd t 1e3 λI D C=>?_)
  exact zg (G I D C)
theorem zdj{k1 k2:Bool}{z TI TO t u a1 a2 J:Addr}{b1:Bool}{i:Nat}{xs ys:Array Value}{x y:Value}{Q:Option Value->Shared->Prop}(N:XU z TI TO t u)(L:Z6 s.heap z TI TO J b1)(U:∃o,s.heap.get? J=some o)
  (I:IsPair s.heap TI (.ref t) (.ref u)) (h1:ItrK k1 s.heap t a1 i) (h2:ItrK k2 s.heap u a2 i) (l1:SeqK k1 s.heap a1 xs) (l2:SeqK k2 s.heap a2 ys) (m1:∀b∈[z,t,u],a1≠b) (m2:∀b∈[z,t,u],a2≠b) (hx:xs[i]? =some x) (hy:ys[i]? =some y)
  (hQ:∀D,Z6 D z TI TO J true->IsPair D TI (.ref t) (.ref u)->ItrK k1 D t a1 (i+1)->ItrK k2 D u a2 (i+1)->IsPair D s.heap.objs.size x y->D.objs.size=s.heap.objs.size+1 ->
   (∀c o,c∉[z,t,u]->s.heap.get? c=some o->D.get? c=some o)->Q (some 0#m) { s with heap:=D }):wpAny 0#n A (pyNext (.ref z)) Q E s:=by
 have hT:s.TypeIs (.ref z) "zip" :={_,L,rfl};unfold pyNext;refine zc 0#N
 show wpAny _ _ (field (.ref z) 2 >>= _) _ _ _;refine zc (jJ L rfl (x:=.bool false) rfl ?_)
 show wpAny _ _ (field (.ref z) 3 >>= _) _ _ _;refine zc (jJ L rfl (x:=.ref TI) rfl (zc (xc I rfl ?_)))
 show wpAny _ _ (Builtin.SmallTypes.ownedTupleIsFree (.ref z) >>= _) _ _ _;refine zc (Ve L U λg1 aa B=>?_)
 simp only[x5,if_false];refine zc ?_
 rw[<- ZZ];simp only[wj,wO];refine zc (zc (jy ?_));show wpAny _ _ (Builtin.SmallTypes.nextOf (.ref t) >>= _) _ _ _
 refine zc (xg (h1.at λo e=>B.extBut _ o N.c e) (l1.at λo e=>B.extBut _ o (m1 z 1e3) e) hx λg2 M G=>zg (zg ?_))
 refine zc (zc (jy ?_));show wpAny _ _ (Builtin.SmallTypes.nextOf (.ref u) >>= _) _ _ _
 have c2:∀c o,c∉[z,t]->s.heap.get? c=some o->g2.get? c=some o:=λc o hc e=>G.extBut _ o 0#o (B.extBut _ o 0#o e)
 refine zc (xg (h2.at λo e=>c2 _ o (by simp[N.d,zS N.j]) e) (l2.at λo e=>c2 _ o (by simp[m2 z 1e3,m2 t 1e3]) e) hy λH O C=>zg (zg ?_))
 refine zg ?_
 have zs:H.objs.size=s.heap.objs.size:=by rw[C.1,G.1,B.1]
 have ab:Z6 H z TI TO J true:=C.extBut _ _ (zS N.d) (G.extBut _ _ (zS N.c) aa);have k4:∀c o,c∉[z,t,u]->s.heap.get? c=some o->H.get? c=some o:=λc o hc e=>C.extBut _ o 0#o (c2 c o (λq=>hc (by simp at q ⊢;rcases q with q | q<;>simp[q])) e)
 show wpAny _ _ (newTuple [x,y] >>= _) _ _ _;refine zc (wpAny_newTuple ?_)
 refine zg {_,rfl,zg ?_}
 show Q (some (.ref H.objs.size)) _;rw[zs];have Y:IsPair (H.push { cls:=.type "tuple",data:=.seq #[x,y] }) s.heap.objs.size x y:=by rw[<- zs];exact qo _ rfl
 exact hQ _ (zH _ ab) (zH _ (k4 _ _ (by simp[N.a,N.f,N.g]) I)) (M.at λo e=>zH _ (C.extBut _ o N.j e)) (O.at λo e=>zH _ e) Y (by rw[jq,zs]) λc o hc e=>zH _ (k4 c o hc e)
theorem zey{k1 k2:Bool}{z TI TO u G a1 a2 T0:Addr}{b1:Bool}{i:Nat}{Y ys:Array Value}{Q:Option Value->Shared->Prop}(hh:A.handled=none)(N:XU z TI TO u G)(I:Z6 s.heap z TI TO T0 b1)(J:∃o,s.heap.get? T0=some o)
  (L:IsPair s.heap TI (.ref u) (.ref G)) (h1:ItrK k1 s.heap u a1 i) (h2:ItrK k2 s.heap G a2 i) (l1:SeqK k1 s.heap a1 Y) (l2:SeqK k2 s.heap a2 ys) (m1:∀b∈[z,u,G],a1≠b) (m2:∀b∈[z,u,G],a2≠b) (H:Y[i]? =none\/ys[i]? =none)
  (hQ:∀h',(∀c o,c∉[z,u,G]->s.heap.get? c=some o->h'.get? c=some o)->Q none { s with heap:=h' }):wpAny 0#n A (pyNext (.ref z)) Q E s:=by
 have hT:s.TypeIs (.ref z) "zip" :={_,I,rfl};unfold pyNext;refine zc 0#N
 show wpAny _ _ (field (.ref z) 2 >>= _) _ _ _;refine zc (jJ I rfl (x:=.bool false) rfl ?_)
 show wpAny _ _ (field (.ref z) 3 >>= _) _ _ _;refine zc (jJ I rfl (x:=.ref TI) rfl (zc (xc L rfl ?_)))
 show wpAny _ _ (Builtin.SmallTypes.ownedTupleIsFree (.ref z) >>= _) _ _ _;refine zc (Ve I J λg1 ac t=>?_)
 simp only[x5,if_false];refine zc ?_
 rw[<- ZZ];simp only[wj,wO];refine zc (zc (jy ?_));show wpAny _ _ (Builtin.SmallTypes.nextOf (.ref u) >>= _) _ _ _
 cases hx:Y[i]? with
 | none=>
  refine zc (vD hh (h1.at λo e=>t.extBut _ o N.c e) (l1.at λo e=>t.extBut _ o (m1 z 1e3) e) hx λg2 e D M=>?_)
  obtain⟨U,C,B⟩:=M;refine zc (xC (T:= "StopIteration") (b:=true) ⟨U,C,B⟩ isSubtype_stop (zg (hQ _ λc o hc q=>?_)))
  exact D _ o 0#o (t.extBut _ o 0#o q)
 | some x=>
  have hy:ys[i]? =none:=by rcases H with q | q;rw[hx] at q;cases q;exact q
  refine zc (xg (h1.at λo e=>t.extBut _ o N.c e) (l1.at λo e=>t.extBut _ o (m1 z 1e3) e) hx λg2 ab D=>zg (zg ?_))
  refine zc (zc (jy ?_));show wpAny _ _ (Builtin.SmallTypes.nextOf (.ref G) >>= _) _ _ _
  have c2:∀c o,c∉[z,u]->s.heap.get? c=some o->g2.get? c=some o:=λc o hc e=>D.extBut _ o 0#o (t.extBut _ o 0#o e)
  refine zc (vD hh (h2.at λo e=>c2 _ o (by simp[N.d,zS N.j]) e) (l2.at λo e=>c2 _ o (by simp[m2 z 1e3,m2 u 1e3]) e) hy λg4 e O M=>?_)
  obtain⟨U,C,B⟩:=M;refine zc (xC (T:= "StopIteration") (b:=true) ⟨U,C,B⟩ isSubtype_stop (zg (hQ _ λc o hc q=>?_)))
  exact O _ o 0#o (c2 c o (λq=>hc (by simp at q ⊢;rcases q with q | q<;>simp[q])) q)
end
theorem zaH:typeLookup (.type "zip") "__len__" = pure none:=by rw[typeLookup_type,builtinLookup_eq_fast];kernel_rfl
theorem Yn:typeLookup (.type "zip") "__length_hint__" = pure none:=by rw[typeLookup_type,builtinLookup_eq_fast];kernel_rfl
theorem Inv.track{X:Cx}{e:List (Addr×Obj)}{σ:St}{H:Hp}{s:Shared}{a:Addr}{o:HO}(I:Inv X e σ H s)(f:jH X e H a)(t:ObjOk X.prog X.w (upd H a o) s.heap a o):Inv X e σ (upd H a o) s:=by
 refine I.call' (s':=s) (ch:=[a]) rfl (Z9 Un.refl (zR.mpr rfl) f.1) (Zc I.hok f.1 t) I.bare λb hb=>?_
 rw[zR.mp hb];exact⟨f.2.2.2.1,f.2.1,f.2.2.2.2.1,f.2.2.2.2.2⟩
def Tups(H:Hp)(f o:List V)(e:List Addr):Prop:=∀(j:Nat) (T:Addr),e[j]? =some T->∃x y,f[j]? =some x/\o[j]? =some y/\H T=some (.tup [x,y])
theorem Tups.same{H f:Hp}{t u:List V}{o:List Addr}(h:Tups H t u o)(s:Same H f):Tups f t u o:=λj T e=>let ⟨x,y,a,b,c⟩:=h j T e;{x,y,a,b,s _ _ c}
theorem Tups.snoc{H:Hp}{o t:List V}{f:List Addr}{T:Addr}{x y:V}(h:Tups H o t f)(hx:o[f.length]? =some x)(hy:t[f.length]? =some y)(u:H T=some (.tup [x,y])):Tups H o t (f++[T]):=λj U e=>by
 by_cases w:j<f.length
 .rw[x6 w] at e
  exact h j U e
 .rw[xr ()] at e
  have:j=f.length:=by
   have:=(zO.mp e).1;simp at this;omega
  subst this;simp at e;subst e;exact⟨x,y,hx,hy,u⟩
def ZS(w A:Bool)(h:Heap)(z TI TO t u a1 a2:Addr)(e:List Addr):Prop:=
 (e=[]/\Jf w A h z TI TO t u a1 a2 0)\/∃f R b1,e=f::R/\Z6 h z TI TO f b1/\(∃o,h.get? f=some o)/\(∃o,h.get? TO=some o)/\IsPair h TI (.ref t) (.ref u)/\ItrK w h t a1 e.length/\ItrK A h u a2 e.length
section
variable{X:Cx}{A:Around}{R:Result->Shared->Prop}
theorem zgK{C:List (Addr×Obj)}{σ:St}{k1 k2:Bool}{z TI TO D E a1 a2 S:Addr}{G J:List V}{res:Value}(hh:A.handled=none)(N:XU z TI TO D E)(hS:S∉[z,TI,TO,D,E])(bc:min G.length J.length<=1000000) :
  ∀(m:Nat) (s:Shared) (t:List Addr) (c:Nat) (H:Hp),min G.length J.length-t.length=m->t.length<=min G.length J.length->Inv X C σ H s->(∀b∈[z,TI,TO,D,E,S],jH X C H b)->ZS k1 k2 s.heap z TI TO D E a1 a2 t ->
   s.heap.get? S=some { cls:=.type "list",dict:=none,data:=.seq (t.map Value.ref).toArray c,slots:=#[] }->SqK X.K k1 H a1 G->SqK X.K k2 H a2 J->Tups H G J t ->
   (∀s' Q c' H',Inv X C σ H' s'->Same H H'->jH X C H' S->s'.heap.get? S=some { cls:=.type "list",dict:=none,data:=.seq (Q.map Value.ref).toArray c',slots:=#[] }->Q.length=min G.length J.length->Tups H' G J Q->R (.ok (.ret res)) s') ->
   codeAny 0#e A (.builtin "list.extend.loop" {[.ref S,.ref z,res],[]}) R s:=by
 intro m;induction m with
 | zero=>
  intro s t c H hm aq I O hz hs L M ht k;have ak:t.length=min G.length J.length:=()
  obtain⟨ae,ag,p1,_⟩:=I.seqK L;obtain⟨af,ah,p2,_⟩:=I.seqK M;have ac:ae.toArray[t.length]? =none\/af.toArray[t.length]? =none:=by
   have l1:=ag.length;have l2:=ah.length;by_cases q:G.length<=J.length
   .exact .inl (by simp;omega)
   .exact .inr (by simp;omega)
  have ab:∀B,(∀b o,b∉[z,TO,D,E]->s.heap.get? b=some o->B.get? b=some o)->R (.ok (.ret res)) { s with heap:=B }:=λB hk=>by
   have I':Inv X C σ H { s with heap:=B }:=by
    refine I.step (g':=s.gens) (d':=s.drawn) (t':=s.toks) (ch:=[z,TO,D,E]) (λb hb=>?_) (λb o _ _ hc e _=>hk b o hc e) (λb o _ _ hc e _=>{o.slots,hk b o hc e}) (λ_ _ _ _ n=>n) (λb o hc e=>{o,hk b o hc e})
     (λ_ _ e=>e) (λ_ _ _ e=>e) (λb ps e=>{#[],by rw[e];simp}) (λm hm=>?_) (λb u e=>?_) I.bare
    .obtain⟨_,g1,_,g3,g4,g5⟩:=O b (by simp at hb ⊢;rcases hb with q | q | q | q<;>simp[q])
     exact⟨g3,g1,g4,g5⟩
    .obtain⟨o,es,ep,ho,r⟩:=hm
     refine{o,es,ep,hk _ o (λq=>?_) ho,r}
     exact(O _ (by simp at q ⊢;rcases q with q | q | q | q<;>simp[q])).2.1 rfl
    .have tr:∀b u,H b=some u->b∉[z,TO,D,E]:=λb u e hb=>by
      rw[(O b (by simp at hb ⊢;rcases hb with q | q | q | q<;>simp[q])).1] at e;cases e
     refine(I.hok b u e).stay (λc v hc q=>hk c v ?_ q) (λ_ q=>q) λ_ _ q=>q
     rcases hc with z | z
     .rw[z];exact tr b u e
     .exact tr c _ z
   exact k _ t c H I' (u7 _) (O S 1e3) (hk S _ (λq=>hS (by simp at q ⊢;rcases q with q | q | q | q<;>simp[q])) hs) ak ht
  refine codeAny_builtin F.entry_extend_loop ?_
  rw[yg W9 _];show wpAny _ A.in1 (pyNext (.ref z) >>= _) _ _ s;have Y:∀b∈[z,TO,D,E],a1≠b:=λb hb=>L.ne_fp I (O b (by simp at hb ⊢;rcases hb with q | q | q | q<;>simp[q]))
  have aa:∀b∈[z,TO,D,E],a2≠b:=λb hb=>M.ne_fp I (O b (by simp at hb ⊢;rcases hb with q | q | q | q<;>simp[q]))
  rcases hz with ⟨rfl,Z⟩ | ⟨T0,Rr,b1,rfl,zh,alive,to,ti,r1,r2⟩
  .exact zc (zex hh N Z p1 p2 Y aa ac λB hk=>zg (ab B hk))
  .exact zc (zey hh N zh alive ti r1 r2 p1 p2 (λb hb=>Y b (by simp at hb ⊢;rcases hb with q | q | q<;>simp[q])) (λb hb=>aa b (by simp at hb ⊢;rcases hb with q | q | q<;>simp[q])) ac λB hk=>zg (ab B λb o hb e=>hk b o (λq=>hb (by simp at q ⊢;rcases q with q | q | q<;>simp[q])) e))
 | succ m ih=>
  intro s t c H hm aq I O hz hs L M ht k;have bb:t.length<min G.length J.length:=()
  obtain⟨ae,ag,p1,_⟩:=I.seqK L;obtain⟨af,ah,p2,_⟩:=I.seqK M;have l1:t.length<G.length:=()
  have l2:t.length<J.length:=()
  have ex:G[t.length]? =some G[t.length]:=by simp[l1]
  have ey:J[t.length]? =some J[t.length]:=by simp[l2]
  obtain⟨u1,an,ax⟩:=ag.get ex;obtain⟨u2,ao,ay⟩:=ah.get ey;have sub:∀b∈[z,TO,D,E],b∈[z,TI,TO,D,E,S]:=λb hb=>by simp at hb ⊢;rcases hb with q | q | q | q<;>simp[q]
  have Y:∀b∈[z,TO,D,E],a1≠b:=λb hb=>L.ne_fp I (O b (sub b hb))
  have aa:∀b∈[z,TO,D,E],a2≠b:=λb hb=>M.ne_fp I (O b (sub b hb))
  have lt:∀b∈[z,TI,TO,D,E],b<s.heap.objs.size:=λb hb=>by
   rcases hz with ⟨rfl,Z⟩ | ⟨T0,Rr,b1,rfl,zh,alive,to,ti,r1,r2⟩
   .obtain⟨a,b',q⟩:=Z.to
    obtain⟨o1,e1,_⟩:=Z.r1.obj;obtain⟨o2,e2,_⟩:=Z.r2.obj;simp at hb;rcases hb with r | r | r | r | r
    .rw[r];exact zK Z.zz
    .rw[r];exact zK Z.ti
    .rw[r];exact zK q
    .rw[r];exact zK e1
    .rw[r];exact zK e2
   .obtain⟨oo,eo⟩:=to
    obtain⟨o1,e1,_⟩:=r1.obj;obtain⟨o2,e2,_⟩:=r2.obj;simp at hb;rcases hb with r | r | r | r | r
    .rw[r];exact zK zh
    .rw[r];exact zK ti
    .rw[r];exact zK eo
    .rw[r];exact zK e1
    .rw[r];exact zK e2
  have ltS:S<s.heap.objs.size:=zK hs;have au:∀b∈[z,TI,TO,D,E,S],b<s.heap.objs.size:=λb hb=>by
   simp at hb;rcases hb with r | r | r | r | r | r
   .exact lt b (by simp[r])
   .exact lt b (by simp[r])
   .exact lt b (by simp[r])
   .exact lt b (by simp[r])
   .exact lt b (by simp[r])
   .rw[r];exact ltS
  have nS:S∉[z,TO,D,E]:=λq=>hS (by simp at q ⊢;rcases q with q | q | q | q<;>simp[q])
  have fT:H s.heap.objs.size=none:=I.hok.fresh (zx _);have go:∀B,(∀b o,b∉[z,TO,D,E]->s.heap.get? b=some o->B.get? b=some o)->IsPair B s.heap.objs.size u1 u2 ->
    (∀h2:Heap,(∀b o,b≠S->B.get? b=some o->h2.get? b=some o)->ZS k1 k2 h2 z TI TO D E a1 a2 (t++[s.heap.objs.size])) ->
    wpAny 0#e A.in1 (updateSeq S (·.push 0#m) >>= λ_=>again (.builtin "list.extend.loop" {[.ref S,.ref z,res],[]}))
     (λab s'=>match ab with | .done f=>R (.ok f) s' | .again c'=>c'.quiet=true/\codeAny 0#e A c' R s') (λe s'=>R (.error e) s') { s with heap:=B }:=by
   intro B hk hT as;have I1:Inv X C σ (upd H s.heap.objs.size (.tup [G[t.length],J[t.length]])) { s with heap:=B }:=
    JB (s:=s) (h':=B) (t':=s.toks) (ch:=[z,TO,D,E]) (its:=[u1,u2]) I (λb hb=>O b (sub b hb)) (zx _) hk (by rw[sizeLine_eq];exact(by decide:2<=16777216)) (.cons ax (.cons ay .nil)) (TupX.by hT)
   have f1:∀b∈[z,TI,TO,D,E,S],jH X C (upd H s.heap.objs.size (.tup [G[t.length],J[t.length]])) b:=λb hb=>{by rw[zj (zN (au b hb))];exact(O b hb).1,(O b hb).2}
   have al:=hk S _ nS hs;have sm:Same H (upd H s.heap.objs.size (.tup [G[t.length],J[t.length]])):=zb fT;obtain⟨g0,g1,_,g3,g4,g5⟩:=f1 S 1e3
   have ai:((t.map Value.ref).toArray.push 0#m)=((t++[s.heap.objs.size]).map Value.ref).toArray:=by
    rw[zG];simp
   have U:(t.map Value.ref).toArray.size=t.length:=1e3
   have ba:16777216<=sizeLine:=by rw[sizeLine_eq];exact zx _
   refine zc (wx al rfl (zg {plainId_quiet W9 _,?_}) (by rw[U];omega) (by show((t.map Value.ref).toArray.push 0#m).size<=sizeLine+1;rw[Array.size_push,U];omega))
   have ap:∀b o,b≠S->B.get? b=some o->(B.update S (Obj.mapSeq (·.push 0#m))).get? b=some o:=λb o hb e=>(vm _ _ (zS hb)).trans e
   have I2:=I1.turned (h':=B.update S (Obj.mapSeq (·.push 0#m))) (t':=s.toks) (it:=S) ap g0 g1 g3 g4 g5
   have ar:=xG (Obj.mapSeq (·.push (Value.ref s.heap.objs.size))) al rfl
   refine ih _ (t++[s.heap.objs.size]) _ _ (by rw[qu];simp;omega) (by rw[qu];simp;omega) I2 f1 (as _ ap) (by rw[<- ai];exact ar) (by cases k1 with | true=>exact sm.seq L | false=>exact sm.sqT L) (by cases k2 with | true=>exact sm.seq M | false=>exact sm.sqT M)
    ((ht.same sm).snoc ex ey zd) λs' Q c' H' I' az f' e' l' t'=>k s' Q c' H' I' (sm.trans az) f' e' l' t'
  refine codeAny_builtin F.entry_extend_loop ?_
  rw[yg W9 _];show wpAny _ A.in1 (pyNext (.ref z) >>= _) _ _ s;have up1:∀{h2:Heap} {B:Heap} {b:Addr} {o:Obj},(∀b o,b≠S->B.get? b=some o->h2.get? b=some o)->b∈[z,TI,TO,D,E]->B.get? b=some o->h2.get? b=some o:=λw hb e=>w _ _ (λq=>hS (by rw[<- q];exact hb)) e
  rcases hz with ⟨rfl,Z⟩ | ⟨T0,Rr,b1,rfl,zh,alive,to,ti,r1,r2⟩
  .refine zc (zdi N Z p1 p2 Y aa (by simpa using an) (by simpa using ao) λB zz ti to r1 r2 hT am hk=>?_)
   refine go B hk hT λh2 w=>.inr {s.heap.objs.size,[],false,rfl,up1 w 1e3 zz,{_,w _ _ (λq=>jW ltS q) hT},?_,up1 w 1e3 ti,r1.at λo e=>up1 w 1e3 e,r2.at λo e=>up1 w 1e3 e}
   obtain⟨a,b,q⟩:=to;exact{_,up1 w 1e3 q}
  .refine zc (zdj N zh alive ti r1 r2 p1 p2 (λb hb=>Y b (by simp at hb ⊢;rcases hb with q | q | q<;>simp[q])) (λb hb=>aa b (by simp at hb ⊢;rcases hb with q | q | q<;>simp[q])) (by simpa using an) (by simpa using ao) λB zz b0 av aw hT am hk=>?_)
   have aj:T0∉[z,D,E]/\T0≠S:=by
    obtain⟨x,y,_,_,hH⟩:=ht 0 T0 rfl;refine{λq=>?_,λq=>?_}
    .have:=(O T0 (by simp at q ⊢;rcases q with q | q | q<;>simp[q])).1
     rw[hH] at this;cases this
    .have:=(O S 1e3).1
     rw[<- q,hH] at this;cases this
   obtain⟨o0,e0⟩:=alive;obtain⟨oo,eo⟩:=to;refine go B (λb o hb e=>hk b o (λq=>hb (by simp at q ⊢;rcases q with q | q | q<;>simp[q])) e) hT λh2 w=>.inr {T0,Rr++[s.heap.objs.size],true,rfl,up1 w 1e3 zz,{_,w _ _ aj.2 (hk _ _ aj.1 e0)},{_,up1 w 1e3 (hk _ _ (by simp[N.b,N.h,N.i]) eo)},up1 w 1e3 b0,?_,?_}
   .rw[qu];exact av.at λo e=>up1 w 1e3 e
   .rw[qu];exact aw.at λo e=>up1 w 1e3 e
end
theorem Vh:∀(e:List Addr),Vals (e.map V.ref) (e.map Value.ref)
 | []=>.nil
 | T::e=>.cons rfl (Vh e)
section
variable{X:Cx}
theorem Vb{w:List (Addr×Obj)}{σ:St}{H:Hp}{s:Shared}{k1 k2:Bool}{z TI TO M O a1 a2:Addr}{xs ys:List V}{Q:VK}{E:Value->Shared->Prop}(hh:X.A.handled=none)(N:XU z TI TO M O)(I:Inv X w σ H s)(Z:Jf k1 k2 s.heap z TI TO M O a1 a2 0)
  (hf:∀b∈[z,TI,TO,M,O],jH X w H b) (ah:SqK X.K k1 H a1 xs) (ai:SqK X.K k2 H a2 ys) (aj:min xs.length ys.length<=1000000)
  (q:∀(D:Addr) (C:List Addr) Y,Same H Y->H D=none->Y D=some (.lst (C.map V.ref))->C.length=min xs.length ys.length->Tups Y xs ys C->Q (.ref D) Y) :
  wpAny 0#e X.A (call (.type "list") [.ref z]) (EP X w σ Q) E s:=by
 refine callType_codes (Q₁:=λac s₁=>ac=.ref s.heap.objs.size/\s₁={ s with heap:=s.heap.push { cls:=.type "list",data:=.seq #[] } }) F.called_list (F.typeCall_list_1 _) F.entry_list_init (code_list_new _ ⟨rfl,rfl⟩) λac s₁ h₁=>?_
 obtain⟨rfl,rfl⟩:=h₁;have hS:(s.heap.push { cls:=.type "list",data:=.seq #[] }).get? s.heap.objs.size=some { cls:=.type "list",data:=.seq #[] }:=qo _ rfl;have fS:H s.heap.objs.size=none:=I.hok.fresh (zx _);have ag:jH X w H s.heap.objs.size:=I.fpOk (zx _) fS;have lt:∀b∈[z,TI,TO,M,O],b<s.heap.objs.size:=λb hb=>by
  obtain⟨a,b',qq⟩:=Z.to;obtain⟨o1,e1,_⟩:=Z.r1.obj;obtain⟨o2,e2,_⟩:=Z.r2.obj;simp at hb;rcases hb with r | r | r | r | r
  .rw[r];exact zK Z.zz
  .rw[r];exact zK Z.ti
  .rw[r];exact zK qq
  .rw[r];exact zK e1
  .rw[r];exact zK e2
 have nS:s.heap.objs.size∉[z,TI,TO,M,O]:=λh=>xM _ (lt _ h)
 have G:∀b o,s.heap.get? b=some o->(s.heap.push { cls:=.type "list",data:=.seq #[] }).get? b=some o:=λb o e=>zH _ e
 have U:∀b o,s.heap.get? b=some o->s.heap.objs.size≠b:=λb o e=>jW (zK e)
 refine{{_,hS,rfl},F.args_list_init_2 _ _,?_}
 generalize s.heap.push { cls:=.type "list",data:=.seq #[] }=h1 at hS G;generalize eS:s.heap.objs.size=S at *
 show wpAny _ X.A.in1.in1 (do let ak<-Builtin.List.listItems (.ref S);Builtin.List.listUpdate (.ref S) (λ_=>#[]);letGo ak.toList.reverse;Builtin.List.listExtendWith (.ref S) (.ref z) .none) _ _ _
 refine zc ?_
 unfold Builtin.List.listItems;refine zc (xc hS rfl (zg ?_))
 show wpAny _ _ (updateSeq S (λ_=>#[]) >>= λ_=>letGo (#[]:Array Value).toList.reverse >>= λ_=>Builtin.List.listExtendWith (.ref S) (.ref z) .none) _ _ _
 refine zc (wx hS rfl ?_)
 have J:=xG (Obj.mapSeq (λ_=>(#[]:Array Value))) hS rfl
 have B:∀b o,s.heap.get? b=some o->(h1.update S (Obj.mapSeq (λ_=>(#[]:Array Value)))).get? b=some o:=λb o e=>(vm _ _ (U b o e)).trans (G b o e)
 generalize h1.update S (Obj.mapSeq (λ_=>(#[]:Array Value)))=h2 at J B
 refine zc (w8 ?_)
 have af:IsZip h2 z TI TO .none:=B _ _ Z.zz;have L:Shared.TypeIs { s with heap:=h2 } (.ref z) "zip" :={_,af,rfl};unfold Builtin.List.listExtendWith;refine zc (wq L ?_)
 have nz:S≠z:=λe=>nS (by rw[e];simp)
 have g1:Builtin.List.listSameRef (.ref S) (.ref z)=false:=by simp[Builtin.List.listSameRef,nz]
 have g2:(Value.type "zip" == Value.type "list")=false:=1e1
 have g3:(Value.type "zip" == Value.type "tuple")=false:=1e1
 simp only[g1,g2,g3,Bool.or_false,x5,if_false];refine zc (wpAny_pyIter_zip af ?_)
 refine zc (jy ?_)
 unfold Builtin.List.listLengthHint;refine zc (yH L zaH ?_)
 show wpAny _ _ (specialOf (Value.ref z) (Str.ofString "__length_hint__") >>= _) _ _ _;refine zc (yH L Yn ?_)
 refine zg ?_
 show wpAny _ _ (rule "list.extend.makes-room" >>= λ_=>Builtin.List.listTouch (.ref S) >>= λ_=>again (.builtin "list.extend.loop" {[.ref S,.ref z,.none],[]})) _ _ _
 refine zc (j9 ?_)
 refine zc ?_
 show wpAny _ _ (updateSeq S (·.push .none) >>= λ_=>updateSeq S (·.pop)) _ _ _
 refine zc (wx J rfl ?_)
 have aa:=xG (Obj.mapSeq (·.push Value.none)) J rfl
 have ae:∀b o,s.heap.get? b=some o->(h2.update S (Obj.mapSeq (·.push Value.none))).get? b=some o:=λb o e=>(vm _ _ (U b o e)).trans (B b o e)
 refine wx (hz:=by seq_fits) aa rfl ?_
 have ab:=xG (Obj.mapSeq (·.pop)) aa rfl
 have u:∀b o,s.heap.get? b=some o->((h2.update S (Obj.mapSeq (·.push Value.none))).update S (Obj.mapSeq (·.pop))).get? b=some o:=λb o e=>(vm _ _ (U b o e)).trans (ae b o e)
 generalize (h2.update S (Obj.mapSeq (·.push Value.none))).update S (Obj.mapSeq (·.pop))=h4 at ab u
 have I4:Inv X w σ H { s with heap:=h4 }:=I.kept (t':=s.toks) u;have Z4:Jf k1 k2 h4 z TI TO M O a1 a2 0:=by
  obtain⟨a,b,qq⟩:=Z.to;exact{u _ _ Z.zz,u _ _ Z.ti,{a,b,u _ _ qq},Z.r1.at λo e=>u _ o e,Z.r2.at λo e=>u _ o e}
 refine zg {plainId_quiet W9 _,zgK (A:=X.A.in1) hh N nS aj _ _ [] _ H rfl (qJ _) I4 (λb hb=>?_) (.inl ⟨rfl,Z4⟩) ab ah ai (λj T e=>by simp at e) λs' C c' Y I' sm f e l t=>?_}
 .rcases(show b∈[z,TI,TO,M,O]\/b=S by simp at hb ⊢;rcases hb with r | r | r | r | r | r<;>simp[r]) with r | r
  .exact hf b r
  .rw[r];exact ag
 .have I5:=I'.track (o:=.lst (C.map V.ref)) f {by rw[zm,l,sizeLine_eq];omega,C.map Value.ref,c',Vh C,e}
  exact{rfl,.ref S,_,I5,rfl,q S C _ (sm.trans (zb f.1)) fS zd l (t.same (zb f.1))}
theorem za3{l m:Expr}{ta:TA}{p G ab f:Pos}(hc:X.calm=true)(hg:Gl X "list")(hm:X.mg "list" = none)(U:Gl X "zip")(Y:X.mg "zip" = none)(hv:bootBuiltins "list" = some (.type "list"))(ha:PA X [l,m] ta)
  (hs:starEach [l,m] X.env=[(false,eval l X.env),(false,eval m X.env)]:=by rfl) (E:starEach [m] X.env=[(false,eval m X.env)]:=by rfl)
  (he:starEach [.Call (.Name "zip" G) [l,m] [] f] X.env=[(false,eval (.Call (.Name "zip" G) [l,m] [] f) X.env)]:=by rfl) :
  PE X (.Call (.Name "list" p) [.Call (.Name "zip" G) [l,m] [] f] [] ab) (λσ H Q=>ta σ H λvs t=>∃(k1 k2:Bool) (a1 a2:Addr) (J L:List V),vs=[.ref a1,.ref a2]/\SqK X.K k1 t a1 J/\SqK X.K k2 t a2 L/\min J.length L.length<=1000000 /\
   ∀(D:Addr) (O:List Addr) M,Same t M->t D=none->M D=some (.lst (O.map V.ref))->O.length=min J.length L.length->Tups M J L O->Q (.ref D) M):=by
 intro o s σ H Q I h;refine wpAny_Call_Name_kw (wn I hg hm hv ?_ 1e1 1e1)
 refine Je ?_ he rfl
 rw[he];refine ye ?_
 refine Call_ (wn I U Y boot_zip (Je (thn (ha f o s σ H _ I h) λus s1 ⟨vs,t,w,r1,q1⟩=>?_) (by rw[hs,E]) (by rw[E];rfl)))
 obtain⟨k1,k2,a1,a2,J,L,e,B,C,aa,q⟩:=q1;subst e;obtain⟨u,u',rfl,ru,ac⟩:=JK r1;cases ru;cases ac;obtain⟨af,aj,p1,ah⟩:=w.seqK B;obtain⟨ag,ak,G,ai⟩:=w.seqK C;refine zek p1 G λh' Z hk ae=>yT ?_
 have I2:Inv X o σ t { s1 with heap:=h' }:=w.kept (t':=s1.toks) hk;have N:XU (s1.heap.objs.size+4) (s1.heap.objs.size+2) (s1.heap.objs.size+3) s1.heap.objs.size (s1.heap.objs.size+1):=by
  constructor<;>(intro e;have e':(_:Nat)=_:=e;omega)
 refine Vb 0#Q N I2 Z (λb hb=>?_) B C aa q
 have A:s1.heap.objs.size<=b:=by
  simp only[zP,QO,or_false] at hb;rcases hb with r | r | r | r | r<;>(rw[r];first| exact WZ _ _ | exact zx _)
 exact w.fpOk A (w.hok.fresh A)
theorem zaj{K:W.Frag}(h:X.K=K):IxR X (zi9 K):=by rw[<- h];exact qR
theorem qA{K:W.Frag}(h:X.K=K):IxR X (zi8 K):=by rw[<- h];exact zF
theorem Zr{K:W.Frag}(h:X.K=K):jD X (.builtin "len") (vW K):=by rw[<- h];exact zC
theorem zeq{K:W.Frag}(h:X.K=K):jD X (.builtin "isinstance") (Z5 K):=by rw[<- h];exact wK
theorem ZE{K:W.Frag}(h:X.K=K):OpR X (compareOp .In) (rIn K false):=by rw[<- h];exact y8
theorem X6{K:W.Frag}(h:X.K=K):OpR X (compareOp .NotIn) (rIn K true):=by rw[<- h];exact Wp
end
section
open AutoSeq1 (wpAny_loadPart')
theorem yA(l:Addr)(e:Array Value)(n:Nat)(o:Option Addr)(C:Array (Option Value)) :
  Meets (Builtin.«enumerate.__new__» {[.type "enumerate",.ref l],[]}) (λ_ R s=>s.heap.get? l=some { cls:=.type "tuple",dict:=o,data:=.seq e n,slots:=C } /\
   R (.ok (.ret (.ref (s.heap.push { cls:=.type "tuple_iterator",data:=.fields #[.ref l,.int 0 0] }).objs.size)))
    { s with heap:=(s.heap.push { cls:=.type "tuple_iterator",data:=.fields #[.ref l,.int 0 0] }).push { cls:=.type "enumerate",data:=.fields #[.none,.bool false,.ref s.heap.objs.size,rawInt 0,.none,.none] } }):=
 .of_wp λB w A R s h=>by
  obtain⟨hp,g,d,D,os⟩:=s;obtain⟨f,h⟩:=h
  have u:=sub_enumerate;have t:Heap.IsTuple (Shared.heap ⟨hp,g,d,D,os⟩) l e:={_,f,rfl,n,rfl};wp_walk using wpAny_loadPart' f
  refine wpAny_stack_any λst=>zg ?_
  split
  .rename_i c _ _ _ _ _
   cases(c==Value.type "enumerate")
   .wp_walk using wpAny_loadPart' f,wpAny_pyIter_tuple t
    exact{_,rfl,h}
   .wp_walk using wpAny_loadPart' f,wpAny_pyIter_tuple t
    exact{_,rfl,h}
  .wp_walk using wpAny_loadPart' f,wpAny_pyIter_tuple t
   exact{_,rfl,h}
end
section
variable{prog:Program}{w:World}{A:Around}{E:Value->Shared->Prop}{s:Shared}
theorem yD{l:Addr}{e:Array Value}{Q:Value->Shared->Prop}(G:s.heap.IsTuple l e)
  (h:∀f,IsEnum f 0#O s.heap.objs.size 0 .none->f.IsTupleIter s.heap.objs.size l 0->f.objs.size=s.heap.objs.size+2 ->
   (∀b o,s.heap.get? b=some o->f.get? b=some o)->Q (.ref 0#O) { s with heap:=f }) :
  wpAny (model prog w) A (call (.type "enumerate") [.ref l]) Q E s:=by
 obtain⟨⟨c,t,D,I⟩,H,hc,n,hd⟩:=G;replace hc:c=.type "tuple" :=hc
 replace hd:D=.seq e n:=hd
 subst hc hd;refine callType_new F.called_enumerate 1e1 (F.typeCall_enumerate_1 _) (F.newCall_enumerate_1 _) (λB=>F.args_object_init_2 B _) F.entry_enumerate_new
  (yA l e n t I) {H,?_}
 have u:(s.heap.push { cls:=.type "tuple_iterator",data:=.fields #[.ref l,.int 0 0] }).objs.size=s.heap.objs.size+1:=jq ..;show _/\_;rw[u];have C:IsEnum ((s.heap.push { cls:=.type "tuple_iterator",data:=.fields #[.ref l,.int 0 0] }).push
   { cls:=.type "enumerate",data:=.fields #[.none,.bool false,.ref s.heap.objs.size,rawInt 0,.none,.none] }) 0#O s.heap.objs.size 0 .none:=by
  have:=qo (s.heap.push { cls:=.type "tuple_iterator",data:=.fields #[.ref l,.int 0 0] })
   (o:={ cls:=.type "enumerate",data:=.fields #[.none,.bool false,.ref s.heap.objs.size,rawInt 0,.none,.none] }) rfl
  rw[u] at this;exact this
 refine{{_,C,rfl},h _ C {_,zH _ (qo _ rfl),rfl,rfl} (by rw[jq,u]) λb o x=>zH _ (zH _ x)}
theorem Draws.tuple{prog:Program}{w:World}{A:Around}(L:A.handled=none)(B l:Addr)(D:l≠B)(f:Array Value) :
  Draws prog w A B [B,l] f.size (λi v=>f[i]? =some v) (λi h=>h.IsTupleIter B l i/\h.IsTuple l f) where
 live:=λ_ _ st=>let ⟨o,M,_⟩:=st.1;⟨o,M⟩
 frame:=λ_ _ _ st hk=>{ItrK.at (kd:=false) st.1 λo e=>hk B 1e3 o e,SeqK.at (kd:=false) st.2 λo e=>hk l 1e3 o e}
 item:=λi s Q E G st J=>by
  refine xg (kd:=false) st.1 st.2 (x:=f[i]) (by simp[G]) λH t u=>?_
  exact J _ H s.toks (by simp[G]) {t,SeqK.at (kd:=false) st.2 λo e=>u.extBut l o D e} u
 done:=λs Q E st I=>vD (kd:=false) L st.1 st.2 1e3 I
end
def zaG(K:W.Frag)(a:Addr):It:=
 {λi H=>∃e x,SqT K H a e/\e[i]? =some x,λi H x f=>∃T y,x=.ref T/\H T=none/\f=upd H T (.tup [.int i,y])/\∀e,SqT K H a e->e[i]? =some y,λi H=>∃e,SqT K H a e/\e.length<=i}
theorem zaM{P:Program}{w:World}{K:W.Frag}{N:List Expr}{kk:Nat}{ak:Pos}(a e t:Addr)(J:e≠t) :
  Qr P w K (.Tuple N kk ak) (zaG K a) [e,t] e (λi h=>(∃G,IsEnum h e t i G)/\h.IsTupleIter t a i) where
 mem:=1e3
 obj:=λi h st b hb=>by
  obtain⟨⟨G,B⟩,⟨o,ho,c,d⟩⟩:=st;rcases zP.mp hb with z | z
  .subst z;exact{_,B,λv q=>nomatch q}
  .rw[zR.mp z];exact{o,ho,λv q=>by rw[d] at q;cases q}
 keep:=λi h h' st k=>by
  obtain⟨⟨G,B⟩,hi⟩:=st;exact{{G,k e 1e3 _ B},ItrK.at (kd:=false) hi λo q=>k t 1e3 o q}
 item:=by
  intro X hP hw hK hc i Y s σ H E I hf st hg;subst hP hw hK;obtain⟨⟨G,B⟩,C⟩:=st;obtain⟨xs,x,hq,hx⟩:=hg;obtain⟨f,rv,p,hz⟩:=I.tuple hq;obtain⟨u,hu,ru⟩:=rv.get hx;have M:s.heap.IsTuple a f.toArray:=p;have O:a≠t:=λz=>by
   obtain⟨o,e1,c1,_⟩:=M;obtain⟨o',e2,c2,_⟩:=C;rw[z,e2] at e1;cases e1;rw[c2] at c1;exact absurd (yO c1) 1e1
  have ab:e≠a:=λz=>by
   obtain⟨o,e1,c1,_⟩:=M;rw[<- z,B] at e1;cases e1;exact absurd (yO c1) 1e1
  have D:=Draws.tuple (prog:=X.prog) (w:=X.w) (A:=X.A.in1) 0#Q t a O f.toArray;have hi:i<f.toArray.size:=by
   have h1:=(zO.mp hu).1;simpa using h1
  refine wpAny_pyNext_enum_itemD D B ⟨C,M⟩ hi J (by simp[J,ab]) λx' h' tk aa Q U hT an hk=>?_
  have ex:x'=u:=by
   have h2:f[i]? =some x':=by simpa using aa
   rw[hu] at h2;exact(jL h2).symm
  subst ex;refine{_,rfl,wpAny_letOwnedTupleGo_enum Q λh2 ag L=>?_}
  have eT:s.heap.objs.size≠e:=jW (zK B);have k2:∀b o,b∉[e,t]->s.heap.get? b=some o->h2.get? b=some o:=λb o hb q=>by
   have n1:b≠e:=λz=>hb (by simp[z])
   have n2:b≠t:=λz=>hb (by simp[z])
   exact(L.2 b n1).trans (hk b o n1 n2 q)
  have aj:h2.IsTupleIter t a (i+1):=ItrK.at (kd:=false) U.1 λo q=>L.extBut t o (zS J) q
  refine{.ref s.heap.objs.size,upd H s.heap.objs.size (.tup [.int i,x]),?_,rfl,{_,x,rfl,I.hok.fresh (zx _),rfl,λys hy=>by rw[I.tuple_inj hy hq];exact hx},{{_,by simpa using ag},aj},λb hb=>?_}
  .refine JB (s:=s) (h':=h2) (t':=tk+1) (its:=[.int i tk,x']) I hf (zx _) k2 (by rw[sizeLine_eq];exact(by decide:2<=16777216)) (.cons ⟨tk,rfl⟩ (.cons ru .nil)) (TupX.by ((L.2 _ eT).trans hT))
  .have ac:b<s.heap.objs.size:=by
    rcases zP.mp hb with z | z
    .rw[z];exact zK B
    .rw[zR.mp z]
     obtain⟨o',e',_⟩:=C;exact zK e'
   rw[zj (zN ac)];exact(hf b hb).1
 done:=by
  intro X hP hw hK hc i Y s σ H E I hf st hg;subst hP hw hK;obtain⟨⟨G,B⟩,C⟩:=st;obtain⟨xs,hq,hx⟩:=hg;obtain⟨f,rv,p,hz⟩:=I.tuple hq;have M:s.heap.IsTuple a f.toArray:=p;have O:a≠t:=λz=>by
   obtain⟨o,e1,c1,_⟩:=M;obtain⟨o',e2,c2,_⟩:=C;rw[z,e2] at e1;cases e1;rw[c2] at c1;exact absurd (yO c1) 1e1
  obtain⟨f0,f1,f2,f3,f4,f5⟩:=hf t 1e3
  have ah:f.toArray.size<=i:=by
   have:=rv.length;simp only[zW];omega
  have hT:s.TypeIs (.ref e) "enumerate" :={_,B,rfl};unfold pyNext;refine zc (wN (vn (name:=Str.ofString "__next__") hT Yd (jG Yd hT F.entry_enumerate_next ?_ (F.args_enumerate_next_1 _))))
  show wpAny _ _ (field (.ref e) 2 >>= _) _ _ _;refine zc (jJ B rfl (x:=.ref t) rfl (zc (vD (kd:=false) 0#Q C M (by simpa using ah) λh' x af ai=>?_)))
  obtain⟨o,ho,ae⟩:=ai;refine zc (xC (T:= "StopIteration") (b:=true) ⟨o,ho,ae⟩ isSubtype_stop ?_)
  exact zg {rfl,I.turned (t':=s.toks) (λb o hb q=>af b o hb q) f0 f1 f3 f4 f5}
 self:=λ_ _ _ _ _ st h=>let ⟨⟨_,B⟩,_⟩:=st;wpAny_pyIter_enum B h
section
variable{X:Cx}
def zjK(K:W.Frag)(f:TA):TI:=λσ H R=>f σ H λo e=>∃a,o=[.ref a]/\(∃t,SqT K e a t)/\R (zaG K a) e
theorem YZ{l:Expr}{D:TA}{p w tp:Pos}{o:List Expr}{U:Nat}(L:Gl X "enumerate")(hm:X.mg "enumerate" = none)(J:PA X [l] D)(N:starEach [l] X.env=[(false,eval l X.env)]:=by rfl) :
  PI X (.Tuple o U tp) (.Call (.Name "enumerate" p) [l] [] w) (zjK X.K D):=by
 intro f s σ H R I h;refine Call_ (wn I L hm boot_enumerate (Je (thn (J w f s σ H _ I h) λus s1 ⟨vs,B,A,r1,q1⟩=>?_) N rfl))
 obtain⟨a,e,⟨xs,hq⟩,q⟩:=q1;subst e;obtain⟨u,rfl,ru⟩:=vX r1;cases ru;obtain⟨Q,rv,Y,hz⟩:=A.tuple hq;refine yD Y λG C M O hk=>wpAny_pyIter_enum C ?_
 have E:Inv X f σ B { s1 with heap:=G }:=A.kept (t':=s1.toks) hk;refine{s1.heap.objs.size+1,[s1.heap.objs.size+1,s1.heap.objs.size],_,_,B,rfl,E,zaM a _ _ (Nat.succ_ne_self _),{{_,C},M},λb hb=>?_,q}
 have t:s1.heap.objs.size<=b:=by
  rcases zP.mp hb with z | z
  .rw[z];exact xH _
  .rw[zR.mp z];exact zx _
 exact A.fpOk t (A.hok.fresh t)
theorem zee{K:W.Frag}{a:Addr}{xs:List V}{g:TG}{B:TS}{D:XY}{σ:St}{H:Hp}(Pv:Nat->St->Hp->Prop)(h0:Pv 0 σ H)(G:∀i σ H,i<=xs.length->Pv i σ H->SqT K H a xs)
  (I:∀i x σ H T,xs[i]? =some x->Pv i σ H->H T=none->g (.ref T) σ (upd H T (.tup [.int i,x])) λw t=>B { D with nx:=Pv (i+1),ct:=Pv (i+1),bk:=D.nx } w t) (hd:∀σ H,Pv xs.length σ H->D.nx σ H) :
  ∃W:Nat->Nat->St->Hp->Prop,(∃m,W 0 m σ H)/\∀i m σ H,W i m σ H ->
   ((zaG K a).stop i H/\D.nx σ H)\/((zaG K a).go i H/\∃N:St->Hp->Prop,(∀u f,N u f->∃A,A<m/\W (i+1) A u f)/\∀x f,(zaG K a).yld i H x f->g x σ f λw t=>B { D with nx:=N,ct:=N,bk:=D.nx } w t):=by
 fail"b"
 rintro i m σ H ⟨rfl,E,p⟩;have q:=G i σ H E p;by_cases o:i<xs.length
 .refine .inr {{xs,xs[i],q,by simp[o]},Pv (i+1),λu f J=>{xs.length-(i+1),(),rfl,o,J},λx f y=>?_}
  obtain⟨T,z,e1,C,e2,y⟩:=y;subst e1 e2;exact I i z σ H T (y xs q) p C
 .have e:i=xs.length:=()
  subst e;exact .inl {{xs,q,zx _},hd σ H p}
end
end L2
namespace L2
open PySem PySem.Spec PyProof.Rows
section
variable{o:Program}{w:World}{A:Around}{R:Result->Shared->Prop}{s:Shared}
abbrev lc2(u D e:Expr)(f:List Expr)(E t:Expr)(B:List Expr)(scope:Scope)(C:Pos):Expr:=.ListComp u [{D,e,f,0},{E,t,B,0}] scope C
theorem zaq(C G t:Expr)(u:List Expr)(I f:Expr)(D:List Expr)(scope:Scope)(E:Pos)(H B:Value)(e:Env) :
  compTurn (lc2 C G t u I f D scope E) 1 H B e=(do
   standAt f.pos
   match<-pyNext H with
   | none=>pure (.done .next)
   | some v=>
    letOwnedTupleGo I H v
    assign I e v
    let mut ok:=true
    for c in D do
     if ok then ok<-isTrue c e (eval c e)
    if ok then
     (do let _<-call (.builtin "list.append") [B,<- eval C e])
    again (.compLoop (lc2 C G t u I f D scope E) 1 H B e)):=1e2
theorem WI(D B f:Expr)(u:List Expr)(I e:Expr)(E:List Expr)(scope:Scope)(G:Pos)(H C:Value)(t:Env) :
  compTurn (lc2 D B f u I e E scope G) 0 H C t=(do
   standAt f.pos
   match<-pyNext H with
   | none=>pure (.done .next)
   | some v=>
    letOwnedTupleGo B H v
    assign B t v
    let ok<-xT u t
    if ok=true then do
     let x<-eval e t
     standAt e.pos
     let x<-foldedSetIterable e t x
     let J<-holding [x] (pyIter x)
     let _<-runOwn (.compStart (lc2 D B f u I e E scope G) 1 J C t) t
     again (.compLoop (lc2 D B f u I e E scope G) 0 H C t)
    else again (.compLoop (lc2 D B f u I e E scope G) 0 H C t)):=1e2
theorem yC{C G e t L f D scope E J B u}
  (h0:codeAny 0#C A (.compLoop (lc2 C G e t L f D scope E) 1 J B u) R s)
  (h:wpAny 0#C A (pyIter J) (λH I=>codeAny 0#C A (.compLoop (lc2 C G e t L f D scope E) 1 H B u) R I)
   (notedBy 0#C A u λx I=>R (.error x) I) s) :
  codeAny 0#C A (.compStart (lc2 C G e t L f D scope E) 1 J B u) R s:=by
 refine codeAny_of_tree ?_
 show wpAny _ _ ((compStart (lc2 C G e t L f D scope E) 1 J B u).onRaise (λx=>do noteFrame x u;standAt theWindowsPlace)) _ _ s
 refine wpAny_notedAt ?_
 unfold compStart;show wpAny _ _ (ask >>= _) _ _ s;refine zc (QN (wpAny_ite ?_))
 split
 .first
   | exact zc (zg (zg (And.intro rfl h0)))
   | exact zg (And.intro rfl h0)
 .first
   | exact zc (j9 (zc (xZ (zc (z9 h (λH I M=>zg (And.intro rfl M)) λ_ _ x=>x)))))
   | (refine zc (j9 ?_);show wpAny _ _ (standAt f.pos >>= _) _ _ s;exact zc (xZ (zc (z9 h (λH I M=>zg (And.intro rfl M)) λ_ _ x=>x))))
theorem zjY{C M f:Expr}{D:List Expr}{tg G:Expr}{H:List Expr}{scope:Scope}{L:Pos}{O B:Value}{e:Env}(J:Nat->Shared->Prop)
  (N:∀n s,J n s->wpAny 0#C A (pyNext O) (λr s1=>match r with
   | none=>R (.ok .next) s1
   | some v=>wpAny 0#C A (letOwnedTupleGo tg O v) (λ_ s2=>wpAny 0#C A (assign tg e v) (λ_ s3=>
     wpAny 0#C A (xT H e) (λok U=>
      if ok=true then wpAny 0#C A (eval C e) (λx Y=>
       wpAny 0#C A (call (.builtin "list.append") [B,x]) (λ_ s6=>∃m,m<n/\J m s6) 0#h Y) 0#h U
      else ∃m,m<n/\J m U) 0#h s3) 0#h s2) 0#h s1) 0#h s)
  (n:Nat) (h:J n s):codeAny 0#C A (.compLoop (lc2 C M f D tg G H scope L) 1 O B e) R s:=by
 have I:∀{α:Type} {t:Sem α} {Q:α->Shared->Prop} {E:Value->Shared->Prop} {s:Shared},wpAny 0#C A t Q 0#h s->wpAny 0#C A t Q E s:=λx=>z9 x (λ_ _ q=>q) λ_ _ q=>q.elim
 refine codeAny_loop rfl J (λk u hJ=>?_) n h
 show wpAny _ A ((compTurn (lc2 C M f D tg G H scope L) 1 O B e).onRaise (λx=>do noteFrame x e;theTreesLotGoes x)) _ _ u
 refine wpAny_noted ?_
 rw[zaq];refine zc (xZ (zc (I (z9 (N k u hJ) (λr s1 h1=>?_) λ_ _ q=>q))))
 cases r with
 | none=>exact zg h1
 | some v=>
  refine zc (I (z9 h1 (λ_ s2 h2=>zc (I (z9 h2 (λ_ s3 h3=>zc (I (z9 h3 (λok U h4=>?_) λ_ _ q=>q))) λ_ _ q=>q))) λ_ _ q=>q))
  cases ok with
  | false=>exact zg ⟨rfl,h4⟩
  | true=>
   have aa:wpAny 0#C A (eval C e) (λx Y=>wpAny 0#C A (call (.builtin "list.append") [B,x]) (λ_ s6=>∃m,m<k/\J m s6) 0#h Y) 0#h U:=h4
   refine zc (zc (I (z9 aa (λx Y h5=>zc (I (z9 h5 (λ_ s6 h6=>zg (zg ⟨rfl,h6⟩)) λ_ _ q=>q))) λ_ _ q=>q)))
theorem zhX{L H D:Expr}{G:List Expr}{tg B:Expr}{M:List Expr}{scope:Scope}{N:Pos}{it I:Value}{C:Env}(hs:∀x,foldedSetIterable B C x=pure x)(J:Nat->Shared->Prop)
  (U:∀n s,J n s->wpAny 0#C A (pyNext it) (λr s1=>match r with
   | none=>R (.ok .next) s1
   | some v=>wpAny 0#C A (letOwnedTupleGo H it v) (λ_ s2=>wpAny 0#C A (assign H C v) (λ_ s3=>
     wpAny 0#C A (xT G C) (λok s4=>
      if ok=true then wpAny 0#C A (eval B C) (λx s5=>
       wpAny 0#C A (pyIter x) (λY s6=>codeAny 0#C A (.compStart (lc2 L H D G tg B M scope N) 1 Y I C) (λr s7=>match r with | .ok _=>∃m,m<n/\J m s7 | .error _=>False) s6) 0#h s5) 0#h s4
      else ∃m,m<n/\J m s4) 0#h s3) 0#h s2) 0#h s1) 0#h s)
  (n:Nat) (h:J n s):codeAny 0#C A (.compLoop (lc2 L H D G tg B M scope N) 0 it I C) R s:=by
 have O:∀{α:Type} {t:Sem α} {Q:α->Shared->Prop} {E:Value->Shared->Prop} {s:Shared},wpAny 0#C A t Q 0#h s->wpAny 0#C A t Q E s:=λx=>z9 x (λ_ _ q=>q) λ_ _ q=>q.elim
 refine codeAny_loop rfl J (λk u hJ=>?_) n h
 show wpAny _ A ((compTurn (lc2 L H D G tg B M scope N) 0 it I C).onRaise (λx=>do noteFrame x C;theTreesLotGoes x)) _ _ u
 refine wpAny_noted ?_
 rw[WI];refine zc (xZ (zc (O (z9 (U k u hJ) (λr s1 h1=>?_) λ_ _ q=>q))))
 cases r with
 | none=>exact zg h1
 | some v=>
  refine zc (O (z9 h1 (λ_ s2 h2=>zc (O (z9 h2 (λ_ s3 h3=>zc (O (z9 h3 (λok s4 h4=>?_) λ_ _ q=>q))) λ_ _ q=>q))) λ_ _ q=>q))
  cases ok with
  | false=>exact zg ⟨rfl,h4⟩
  | true=>
   have aa:wpAny 0#C A (eval B C) (λx s5=>
       wpAny 0#C A (pyIter x) (λY s6=>codeAny 0#C A (.compStart (lc2 L H D G tg B M scope N) 1 Y I C) (λr s7=>match r with | .ok _=>∃m,m<k/\J m s7 | .error _=>False) s6) 0#h s5) 0#h s4:=h4
   refine zc (O (z9 aa (λx s5 h5=>zc (xZ (zc (vS (hs x) (zc (jy (O (z9 h5 (λY s6 h6=>?_) λ_ _ q=>q)))))))) λ_ _ q=>q))
   refine zc (wpAny_runOwn (h:=none) ?_)
   rw[Around.mark_none];refine codeAny_mono h6 λr s7 h7=>?_
   cases r with
   | ok f=>exact zg ⟨rfl,h7⟩
   | error e=>exact h7.elim
end
def Sub:St->St->Prop
 | [],[]=>True
 | none::r,_::e=>Sub r e
 | some v::r,x::e=>x=some v/\Sub r e
 | _,_=>False
theorem Sub.len:∀{a b:St},Sub a b->a.length=b.length
 | [],[],_=>rfl
 | [],_::_,h=>h.elim
 | none::_,[],h=>h.elim
 | some _::_,[],h=>h.elim
 | none::r,_::e,h=>by rw[qH,qH,Sub.len (a:=r) (b:=e) h]
 | some _::r,_::e,h=>by rw[qH,qH,Sub.len (a:=r) (b:=e) h.2]
theorem Sub.get:∀{a b:St} {i:Nat} {v:V},Sub a b->a[i]? =some (some v)->b[i]? =some (some v)
 | [],[],_,_,_,e=>e
 | [],_::_,_,_,h,_=>h.elim
 | none::_,[],_,_,h,_=>h.elim
 | some _::_,[],_,_,h,_=>h.elim
 | none::r,_::f,0,v,h,e=>by simp at e
 | none::r,_::f,i+1,v,h,e=>by
  rw[List.getElem?_cons_succ] at e ⊢
  exact Sub.get (a:=r) (b:=f) h e
 | some _::r,_::f,0,v,h,e=>by
  rw[List.getElem?_cons_zero] at e ⊢
  rw[h.1];exact e
 | some _::r,_::f,i+1,v,h,e=>by
  rw[List.getElem?_cons_succ] at e ⊢
  exact Sub.get (a:=r) (b:=f) h.2 e
def tIn(M:TI)(g:TG)(L:TT)(I:TE)(O:List V)(N:List V->Hp->Prop):St->Hp->Prop:=λw E=>M w E λJ G=>
 ∃W:Nat->Nat->List V->Hp->Prop,(∃m,W 0 m O G)/\∀i m e o,W i m e o ->
  (J.stop i o/\N e o) \/
  (J.go i o/\∃u:List V->Hp->Prop,(∀e B,u e B->∃D,D<m/\W (i+1) D e B)/\∀x C,J.yld i o x C->g x w C λA H=>Sub w A/\L A H λb f=>
   if b=true then I A f λy t=>e.length<sizeLine/\u (e++[y]) t else u e f)
section
variable{X:Cx}{o C f:Expr}{u:List Expr}{B w:Expr}{t:List Expr}{scope:Scope}{A:Pos}{O L:TI}{g M:TG}{G H:TT}{E:TE}
theorem zhI{Y:Cx}{D:Addr}{Q:List (Addr×Obj)}{σ4:St}{H0:Hp}{s0:Shared}{it:Addr}{fp:List Addr}{tn:Nat->Heap->Prop}{J:It}{R:Result->Shared->Prop}{N:List V->Hp->Prop}{ys:List V}{aa:List Value}{z:Nat}{m0:Nat}{W:Nat->Nat->List V->Hp->Prop}
  (hc:Y.calm=true) (hx:Y.xe=λ_ _=>False) (hg:PG Y B g) (hf:PF Y t G) (he:PE Y o E)
  (T:Qr Y.prog Y.w Y.K B J fp it tn) (fD:∀U:Hp,U D=none->jH Y Q U D) (f2:∀b∈fp,∀U:Hp,U b=none->jH Y Q U b) (nD:∀b∈fp,D≠b)
  (I:Inv Y Q σ4 H0 s0) (st:tn 0 s0.heap) (fr:∀b∈fp,H0 b=none) (ag:H0 D=none) (ho:s0.heap.get? D=some { cls:=.type "list",data:=.seq aa.toArray z }) (rv:Vals ys aa) (w0:W 0 m0 ys H0)
  (ac:∀i m zs H7,W i m zs H7 ->
   (J.stop i H7/\N zs H7) \/
   (J.go i H7/\∃N2:List V->Hp->Prop,(∀zs U,N2 zs U->∃m',m'<m/\W (i+1) m' zs U)/\∀x H8,J.yld i H7 x H8->g x σ4 H8 λσ9 H9=>Sub σ4 σ9/\G σ9 H9 λb ab=>
    if b=true then E σ9 ab λy ae=>zs.length<sizeLine/\N2 (zs++[y]) ae else N2 zs ab))
  (af:∀s',LcE Y D Q σ4 N s'->R (.ok .next) s') :
  codeAny 0#J Y.A (.compLoop (lc2 o C f u B w t scope A) 1 (.ref it) (.ref D) Y.env) R s0:=by
 refine zjY (LcJ Y D tn fp Q σ4 W) (λn s5 j=>z9 (zcT hc hx hg hf he T fD f2 nD (λσ9 U s' J hd=>J.weak hd.len λk v e=>hd.get e) ac j) (λr s6 h6=>?_) λ_ _ q=>q) m0 {0,ys,aa,H0,z,I,st,fr,ag,ho,rv,w0}
 cases r with
 | some v=>exact h6
 | none=>exact af s6 h6
end
def zj9(t:TI)(n:Nat)(C:List Nat)(M:TG)(o:TT)(Y:TI)(g:TG)(U:TT)(O:TE):TE:=λσ H Q=>t σ H λJ I=>
 ∃W:Nat->Nat->List V->Hp->Prop,(∃m,W 0 m [] I)/\∀i m f e,W i m f e ->
  (J.stop i e/\f.length<=sizeLine/\∀D,e D=none->Q (.ref D) (upd e D (.lst f))) \/
  (J.go i e/\∃N:List V->Hp->Prop,(∀G w,N G w->∃E,E<m/\W (i+1) E G w)/\∀x A,J.yld i e x A->M x (upS n C σ) A λu L=>u.drop n=(upS n C σ).drop n/\o u L λb B=>
   if b=true then tIn Y g U O f N u B else N f B)
section
variable{X:Cx}{A w iter1:Expr}{t:List Expr}{G f:Expr}{B:List Expr}{scope:Scope}{pos:Pos}{O aa:TI}{g U:TG}{M E:TT}{L:TE}
theorem zfX{Y:Cx}{D it:Addr}{H:List Addr}{tn:Nat->Heap->Prop}{J:It}{σ4:St}{Kp:St->Prop}{W:Nat->Nat->List V->Hp->Prop}{N:List V->Hp->Prop}{n:Nat}{s5:Shared}
  (hc:Y.calm=true) (hx:Y.xe=λ_ _=>False) (hg:PG Y w U) (hf:PF Y t E) (be:PI Y G f O) (bd:PG Y G g) (bc:PF Y B M) (he:PE Y A L) (T:Qr Y.prog Y.w Y.K w J H it tn)
  (fB:∀b∈D::H,∀C:Hp,C b=none->jH Y [] C b) (nD:∀b∈H,D≠b) (bk:∀σ9 C s',Inv Y [] σ9 C s'->Kp σ9->Inv Y [] σ4 C s')
  (aw:∀i m zs H7,W i m zs H7->(J.stop i H7/\N zs H7)\/(J.go i H7/\∃N2:List V->Hp->Prop,(∀zs C,N2 zs C->∃m',m'<m/\W (i+1) m' zs C)/\∀x H8,J.yld i H7 x H8->U x σ4 H8 λσ9 H9=>Kp σ9/\E σ9 H9 λb ao=>
    if b=true then tIn O g M L zs N2 σ9 ao else N2 zs ao)) (j:LcJ Y D tn H [] σ4 W n s5) :
  wpAny 0#J Y.A (pyNext (.ref it)) (λr s1=>match r with
   | none=>LcE Y D [] σ4 N s1
   | some v=>wpAny 0#J Y.A (letOwnedTupleGo w (.ref it) v) (λ_ s2=>wpAny 0#J Y.A (assign w Y.env v) (λ_ s3=>
     wpAny 0#J Y.A (xT t Y.env) (λok s4=>
      if ok=true then wpAny 0#J Y.A (eval f Y.env) (λx s5=>
       wpAny 0#J Y.A (pyIter x) (λi2 s6=>codeAny 0#J Y.A (.compStart (lc2 A w iter1 t G f B scope pos) 1 i2 (.ref D) Y.env) (λr Q=>match r with | .ok _=>∃m,m<n/\LcJ Y D tn H [] σ4 W m Q | .error _=>False) s6) 0#h s5) 0#h s4
      else ∃m,m<n/\LcJ Y D tn H [] σ4 W m s4) 0#h s3) 0#h s2) 0#h s1) 0#h s5:=by
 have ah:=hg;have ag:=hf;have ai:=be
 unfold PG at ah;unfold PF at ag;unfold PI at ai
 rw[hx] at ah ag ai;obtain⟨i,ys,aj,H5,z5,I5,av,aq,ba,ar,al,w5⟩:=j;have ap:=I5.pinned (fp:=[D]) (λb hb=>by rw[zR.mp hb];exact fB D xp _ ba) (λb hb=>by rw[zR.mp hb];exact{_,ar,λv q=>nomatch q})
 have mD:(D,({ cls:=.type "list",data:=.seq aj.toArray z5 }:Obj))∈[]++zX [D] s5.heap:=zZ _ (qP (zR.mpr rfl) ar);have af:∀{C:Hp},(∀b∈H,C b=none)->∀b∈H,jH Y ([]++zX [D] s5.heap) C b:=λhn b hb=>by
  obtain⟨a1,a2,a3,a4,a5,a6⟩:=fB b (jf _ hb) _ (hn b hb);refine{a1,a2,a3,a4,a5,λp hp=>?_}
  rcases qL.mp hp with q | q
  .exact a6 p (jK _ q)
  .rw[zR.mp (vC ((qL.mp q).resolve_left 1e3)).1];exact nD b hb
 rcases aw i n ys H5 w5 with ⟨stop,q⟩ | ⟨go,N2,hN,step⟩
 .refine thn (T.done Y rfl rfl rfl hc i _ s5 _ H5 _ ap (af aq) av stop) λr s6 ⟨hr,I6⟩=>?_
  subst hr;obtain⟨o6,bh,_⟩:=I6.pin (D,_) (zZ _ mD);exact⟨ys,aj,H5,z5,I6.unpinned,bh,o6,al,q⟩
 .refine thn (T.item Y rfl rfl rfl hc i _ s5 _ H5 _ ap (af aq) av go) λr s6 ⟨u,hr,h6⟩=>?_
  subst hr;refine thn h6 λ_ Q ⟨x,H7,I7,r7,y7,am,az⟩=>?_
  refine thn (ah _ Q _ H7 x u _ (I7.pinned (af az) (T.obj _ _ am)) r7 (step x H7 y7)) λ_ s8 ⟨σ8,H8,I8,bb,q8⟩=>?_
  refine thn (ag _ s8 σ8 H8 _ I8 q8) λok s9 ⟨H9,I9,q9⟩=>?_
  have ak:=jK (zX H Q.heap) mD;have kp:∀{P:List 0#p} {C:Hp} {s':Shared},Inv Y P σ8 C s'->(∀p∈zX H Q.heap,p∈P)->Inv Y [] σ4 C s'/\tn (i+1) s'.heap/\∀b∈H,C b=none:=λ{P C s'} J hP=>
   {bk _ _ _ (J.pins_of λp hp=>absurd hp 1e3) bb,T.keep _ _ _ am λb hb o e=>(J.pin (b,o) (zZ _ (hP _ (qP hb e)))).1,λb hb=>by
    obtain⟨o,e,_⟩:=T.obj _ _ am b hb;exact(J.pin (b,o) (zZ _ (hP _ (qP hb e)))).2.1}
  cases ok with
  | false=>
   obtain⟨m',hm,w'⟩:=hN _ _ (show N2 ys H9 by simpa using q9)
   obtain⟨o9,bi,_⟩:=I9.pin (D,_) (zZ _ ak);obtain⟨k1,k2,k3⟩:=kp I9 λp hp=>zZ _ hp
   exact{m',hm,i+1,ys,aj,H9,z5,k1,k2,k3,bi,o9,al,w'}
  | true=>
   refine thn (ai _ s9 σ8 H9 _ I9 (show tIn O g M L ys N2 σ8 H9 by simpa using q9)) λxv bq b0=>thn b0 λbp bn ⟨bf,ay,br,J2,bo,ei,ac,T2,ab,ae,W2,⟨m2,w2⟩,an⟩=>?_
   subst ei;obtain⟨bj,au,_⟩:=ac.pin (D,_) (zZ _ ak);have ax:∀b∈ay,∀C:Hp,C b=none->jH Y (zX H Q.heap) C b:=λb hb C hn=>by
    obtain⟨_,a2,a3,a4,a5,a6⟩:=ae b hb;exact{hn,a2,a3,a4,a5,λp hp=>a6 p ((qL.mp hp).elim (λq=>jK _ q) λq=>zZ _ (zZ _ q))}
   have fD:∀C:Hp,C D=none->jH Y (zX H Q.heap) C D:=λC hn=>by
    obtain⟨a1,a2,a3,a4,a5,a6⟩:=fB D xp _ hn;refine{a1,a2,a3,a4,a5,λp hp=>?_}
    rcases qL.mp hp with q | q
    .exact a6 p (jK _ q)
    .exact zS (nD _ (vC q).1)
   have I:codeAny 0#J Y.A (.compLoop (lc2 A w iter1 t G f B scope pos) 1 (.ref bf) (.ref D) Y.env) (λr Q=>match r with
     | .ok _=>∃m,m<n/\LcJ Y D tn H [] σ4 W m Q
     | .error _=>False) bn:=by
    refine zhI (N:=N2) hc hx bd bc he T2 fD ax (λb hb=>(ae b hb).2.2.2.2.2 (D,_) (zZ _ ak)) (ac.pins_of λp hp=>ac.pin p (zZ _ (zZ _ hp))) ab (λb hb=>(ae b hb).1) au bj al w2 an λs' h'=>?_
    obtain⟨zs,as,C,z',I',bg,o',bm,q'⟩:=h';obtain⟨m',hm,w'⟩:=hN _ _ q';obtain⟨k1,k2,k3⟩:=kp I' λp hp=>hp
    exact{m',hm,i+1,zs,as,C,z',k1,k2,k3,bg,o',bm,w'}
   exact yC I (T2.self Y.A 0 _ _ _ ab I)
theorem zfY{C D it:Addr}{u:List Addr}{tn:Nat->Heap->Prop}{J:It}{W:Nat->Nat->List V->Hp->Prop}{H2:Hp}{s3 s4:Shared}{m0 n:Nat}{R:Result->Shared->Prop}{js:List Nat}{σ:St}{e:List Str}{N:List V->Hp->Prop}(hc:X.calm=true)
  (hg:∀C s H o,PG (zB X e scope C s H o) w U) (hf:∀C s H o,PF (zB X e scope C s H o) t E) (ai:∀C s H o,PI (zB X e scope C s H o) G f O) (ah:∀C s H o,PG (zB X e scope C s H o) G g) (ag:∀C s H o,PF (zB X e scope C s H o) B M) (he:∀C s H o,PE (zB X e scope C s H o) A L)
  (aj:∀C x,foldedSetIterable f 0#l x=pure x) (af:∀b∈D::u,∀H':Hp,H' b=none->jH (zB X e scope C s3 H2 (D::u)) [] H' b) (fD:∀b∈u,D≠b) (T:Qr X.prog X.w X.K w J u it tn)
  (ac:∀i m Q H7,W i m Q H7->(J.stop i H7/\N Q H7)\/(J.go i H7/\∃N2:List V->Hp->Prop,(∀Q H',N2 Q H'->∃m',m'<m/\W (i+1) m' Q H')/\∀x H8,J.yld i H7 x H8->U x (upS n js σ) H8 λσ9 H9=>σ9.drop n=(upS n js σ).drop n/\E σ9 H9 λb ab=>
    if b=true then tIn O g M L Q N2 σ9 ab else N2 Q ab))
  (j:LcJ (zB X e scope C s3 H2 (D::u)) D tn u [] (upS n js σ) W m0 s4) (ae:∀s6,LcE (zB X e scope C s3 H2 (D::u)) D [] (upS n js σ) N s6->R (.ok .next) s6) :
  codeAny 0#e X.A (.compLoop (lc2 A w iter1 t G f B scope pos) 0 (.ref it) (.ref D) 0#l) R s4:=by
 have hl:=(let ⟨_,_,_,_,_,I,_,_,_,_,_,_⟩:=j;I.len:(upS n js σ).length=e.length)
 refine zhX (aj C) (LcJ (zB X e scope C s3 H2 (D::u)) D tn u [] (upS n js σ) W) (λk s5 j=>z9 (zfX (iter1:=iter1) (scope:=scope) (pos:=pos) (Y:=zB X e scope C s3 H2 (D::u)) hc rfl (hg _ _ _ _) (hf _ _ _ _) (ai _ _ _ _) (ah _ _ _ _) (ag _ _ _ _) (he _ _ _ _) T af fD (λσ9 H' s' J hd=>Yv hl J hd) ac j) (λr s6 h6=>?_) λ_ _ q=>q) m0 j
 cases r with
 | some v=>exact h6
 | none=>exact ae s6 h6
theorem zjj(own N:List Str)(js:List Nat)(hc:X.calm=true)(hk:scope.kind=.function)(hb:Zs scope.names X.env.scope.names X.N N js=true)(hi:PI X w iter1 aa)
  (hg:∀C s H u,PG (zB X (own++N) scope C s H u) w U) (hf:∀C s H u,PF (zB X (own++N) scope C s H u) t E)
  (ae:∀C s H u,PI (zB X (own++N) scope C s H u) G f O) (ac:∀C s H u,PG (zB X (own++N) scope C s H u) G g) (ab:∀C s H u,PF (zB X (own++N) scope C s H u) B M) (he:∀C s H u,PE (zB X (own++N) scope C s H u) A L)
  (hs:∀x,foldedSetIterable iter1 X.env x=pure x:=by intro _;rfl) (af:∀C x,foldedSetIterable f 0#l x=pure x:=by intro _ _;rfl):PE X (lc2 A w iter1 t G f B scope pos) (zj9 aa own.length js U E O g M L):=by
 intro ah s σ H Q I h;rw[eval_ListComp];exact zgj own N js hk hb hi hs I h (λC D it fp tn J W H2 s3 s4 m0 R a b T tl j Y=>zfY hc hg hf ae ac ab he af a b T tl j Y) λs6 D C H6 m hn all _ q=>{m,hn,λh7 ag=>{.ref D,H6,all h7 λb o hb e=>ag.extBut b o hb e,rfl,q}}
end
section
variable{X:Cx}
inductive Jn(K:W.Frag)(f:List V)(H:Hp)(Q:VK):Prop
 | mk (p:Addr) (e:List Bool) (_:f=[.ref p]) (_:SqL K H p (e.map V.bl)) (_:Q (.bl (e.any id)) H):Jn K f H Q
theorem QF(hc:X.calm=true):jD X (.builtin "any") (Jn X.K):=by
 intro O s σ H xs us Q I r h;obtain⟨p,f,rfl,hq,q⟩:=h;obtain⟨u,rfl,L⟩:=vX r;cases L;obtain⟨t,M,pl,hz⟩:=I.list hq;have G:=pl.isList;have J:p≠s.heap.objs.size:=by
  obtain⟨o,e,_⟩:=G;exact zN (zK e)
 refine call_any_walk (wpAny_pyIter_list G ?_)
 refine{s.heap.objs.size,_,_,_,_,_,λi=>f.getD i false,rfl,QH (prog:=X.prog) (w:=X.w) (A:=X.A.in1) 0#Q _ p J t.toArray,{{_,qo _ rfl,rfl,rfl},G.push _},?_,λh' tk hk=>?_}
 .intro i v s' Y E' E hQ
  have E:t.toArray[i]? =some v:=E;have e1:t[i]? =some v:=by simpa using E
  have B:i<f.length:=by
   have h1:=(zO.mp e1).1;have h2:=M.length;rw[zm] at h2;omega
  have e2:(f.map V.bl)[i]? =some (.bl f[i]):=by simp[B]
  obtain⟨u',N,L⟩:=M.get e2;rw[e1] at N;cases N;cases L;have e3:f.getD i false=f[i]:=by simp[B]
  have C:Y (f.getD i false) s':=hQ;rw[e3] at C;exact yc C
 .have k:∀b o,s.heap.get? b=some o->h'.get? b=some o:=λb o e=>hk b o (by simp;exact zN (zK e)) (zH _ e)
  have ea:(List.range t.toArray.size).any (λi=>f.getD i false)=f.any id:=by
   have D:t.toArray.size=f.length:=by
    have:=M.length;rw[zm] at this;simp only[zW];omega
   rw[D,ZP,ZR,ZR];constructor
   .rintro⟨i,B,e⟩
    have B:=xo.mp B;exact{f[i],xP B,by simpa [B] using e}
   .rintro⟨b,hb,e⟩
    obtain⟨i,B,rfl⟩:=zbP.mp hb;exact{i,xo.mpr B,by simpa [B] using e}
  exact{.bl (f.any id),H,I.kept k,by rw[ea];rfl,q}
theorem Xu:bootBuiltins "any" = some (.builtin "any"):=by decide +kernel
end
theorem zfV{K:W.Frag}{a:Addr}{xs:List V}{g:TG}{J:TT}{I:TE}{A:St}{n:Nat}{R:List V->Hp->Prop}{H:Hp}(Pv:Nat->List V->Hp->Prop)(h0:Pv 0 [] H)
  (h1:∀i f H,Pv i f H->SqT K H a xs)
  (M:∀i x f H T,xs[i]? =some x->Pv i f H->H T=none->g (.ref T) A (upd H T (.tup [.int i,x])) λt D=>t.drop n=A.drop n/\J t D λb u=>
   if b=true then I t u λv E=>f.length<sizeLine/\Pv (i+1) (f++[v]) E else Pv (i+1) f u)
  (hd:∀f H,Pv xs.length f H->f.length<=sizeLine/\R f H) :
  ∃W:Nat->Nat->List V->Hp->Prop,(∃m,W 0 m [] H)/\∀i m f o,W i m f o ->
   ((zaG K a).stop i o/\f.length<=sizeLine/\R f o) \/
   ((zaG K a).go i o/\∃N:List V->Hp->Prop,(∀f B,N f B->∃G,G<m/\W (i+1) G f B)/\∀x C,(zaG K a).yld i o x C->g x A C λt D=>t.drop n=A.drop n/\J t D λb u=>
    if b=true then I t u λy E=>f.length<sizeLine/\N (f++[y]) E else N f u):=by
 fail"a"
 rintro i m f o ⟨rfl,hi,p⟩;have q:=h1 i f o p;by_cases w:i<xs.length
 .refine .inr {{xs,xs[i],q,by simp[w]},Pv (i+1),λY B O=>{_,(),rfl,w,O},λx C y=>?_}
  obtain⟨T,z,e1,L,e2,y⟩:=y;subst e1 e2;exact M i z f o T (y xs q) p L
 .have e:i=xs.length:=()
  subst e;obtain⟨Q,U⟩:=hd f o p;exact .inl {{xs,q,zx _},Q,U}
theorem zhA{K:W.Frag}{a:Addr}{xs:List V}{g:TG}{L:TT}{M:TI}{G:TG}{A:TT}{J:TE}{B:St}{n:Nat}{R:List V->Hp->Prop}{H:Hp}(Pv:Nat->List V->Hp->Prop)(h0:Pv 0 [] H)
  (h1:∀i f H,Pv i f H->SqT K H a xs)
  (O:∀i x f H,xs[i]? =some x->Pv i f H->g x B H λt E=>t.drop n=B.drop n/\L t E λb u=>
   if b=true then tIn M G A J f (Pv (i+1)) t u else Pv (i+1) f u)
  (hd:∀f H,Pv xs.length f H->f.length<=sizeLine/\R f H) :
  ∃W:Nat->Nat->List V->Hp->Prop,(∃m,W 0 m [] H)/\∀i m f o,W i m f o ->
   ((Itt K a).stop i o/\f.length<=sizeLine/\R f o) \/
   ((Itt K a).go i o/\∃N:List V->Hp->Prop,(∀f C,N f C->∃I,I<m/\W (i+1) I f C)/\∀x D,(Itt K a).yld i o x D->g x B D λt E=>t.drop n=B.drop n/\L t E λb u=>
    if b=true then tIn M G A J f N t u else N f u):=by
 fail"a"
 rintro i m f o ⟨rfl,hi,p⟩;have q:=h1 i f o p;by_cases w:i<xs.length
 .refine .inr {{xs,xs[i],q,by simp[w]},Pv (i+1),λaa C Q=>{_,(),rfl,w,Q},λx D y=>?_}
  obtain⟨e,y⟩:=y;subst e;exact O i x f _ (y xs q) p
 .have e:i=xs.length:=()
  subst e;obtain⟨U,Y⟩:=hd f o p;exact .inl {{xs,q,zx _},U,Y}
theorem zhJ{K:W.Frag}{a:Addr}{xs:List V}{g:TG}{L:TT}{J:TE}{A:St}{N:List V->Hp->Prop}{M:List V}{H:Hp}(Pv:Nat->List V->Hp->Prop)(h0:Pv 0 M H)
  (h1:∀i f H,Pv i f H->SqL K H a xs)
  (O:∀i x f H,xs[i]? =some x->Pv i f H->g x A H λt D=>Sub A t/\L t D λb u=>
   if b=true then J t u λv E=>f.length<sizeLine/\Pv (i+1) (f++[v]) E else Pv (i+1) f u)
  (hd:∀f H,Pv xs.length f H->N f H) :
  ∃W:Nat->Nat->List V->Hp->Prop,(∃m,W 0 m M H)/\∀i m f o,W i m f o ->
   ((Itl K a).stop i o/\N f o) \/
   ((Itl K a).go i o/\∃G:List V->Hp->Prop,(∀f B,G f B->∃I,I<m/\W (i+1) I f B)/\∀x C,(Itl K a).yld i o x C->g x A C λt D=>Sub A t/\L t D λb u=>
    if b=true then J t u λy E=>f.length<sizeLine/\G (f++[y]) E else G f u):=by
 fail"a"
 rintro i m f o ⟨rfl,Y,p⟩;have q:=h1 i f o p;by_cases w:i<xs.length
 .refine .inr {{xs,xs[i],q,by simp[w]},Pv (i+1),λU B Q=>{_,(),rfl,w,Q},λx C y=>?_}
  obtain⟨e,y⟩:=y;subst e;exact O i x f _ (y xs q) p
 .have e:i=xs.length:=()
  subst e;exact .inl {{xs,q,zx _},hd f o p}
section
variable{X:Cx}{t e:Expr}{o:List Expr}{f:Expr}{u:List Expr}{scope:Scope}{B:Pos}{J A:TI}{I w:TT}{G:TE}{x y z:Str}{D O E Q M:Pos}{N L:Nat}
theorem zhc(Y:List Str)(js:List Nat)(hc:X.calm=true)(hk:scope.kind=.function)(hb:vN scope.names X.env.scope.names X.N [x,z] Y js=true)(hi:PI X (.Name x D) e A)
  (hf:∀C s H U,PF (zB X ([x,z]++Y) scope C s H U) o w) (ab:∀C s H U,PI (zB X ([x,z]++Y) scope C s H U) (.Name z E) f J) (aa:∀C s H U,PF (zB X ([x,z]++Y) scope C s H U) u I) (he:∀C s H U,PE (zB X ([x,z]++Y) scope C s H U) t G)
  (hs:∀x,foldedSetIterable e X.env x=pure x:=by intro _;rfl) (ac:∀C x,foldedSetIterable f 0#l x=pure x:=by intro _ _;rfl) :
  PE X (lc2 t (.Name x D) e o (.Name z E) f u scope B) (zj9 A 2 js (j7 0) w J (j7 1) I G):=by
 obtain⟨h1,h2,h3⟩:=xn hb;exact zjj [x,z] Y js hc hk h1 hi (λC s H U=>xf (h2 x 1e3) h3 rfl) hf ab (λC s H U=>xf (h2 z 1e3) h3 rfl) aa he hs ac
end
section
variable{X:Cx}
theorem YY{K:W.Frag}(h:X.K=K){o l:Expr}{e:TE}(f:PE X l e):PI X o l (ziK K e):=by rw[<- h];exact qW f
def tLT(K:W.Frag)(t:TE):TT:=λσ H Q=>t σ H λx e=>∃a f,x=.ref a/\SqL K e a f/\Q (!f.isEmpty) e
theorem zg5{e:Expr}{t:TE}(h:PE X e t)(D:∀f,isTrue e X.env f=(do let v<-f;standAt e.pos;holding [v] (truthy v)):=by intro _;rfl):PT X e (tLT X.K t):=by
 intro o s σ H Q I G;refine isTrue_plain (thn (h o s σ H _ I G) λv s1 ⟨x,B,u,M,q1⟩=>?_) (D _)
 obtain⟨a,C,rfl,hq,q⟩:=q1;cases(show v=_ from M)
 obtain⟨w,A,L,J⟩:=u.list hq;have E:=A.length;refine wpAny_truthy_list L.isList (by rw[zW,<- E];rw[sizeLine_eq] at J;omega) ?_
 have e:(!C.isEmpty)=(!w.toArray.isEmpty):=by
  cases C with
  | nil=>cases A;rfl
  | cons y N=>cases A;rfl
 first
  | exact⟨B,u.tok _,by rw[e] at q;simpa using q⟩
  | exact⟨B,u,by rw[e] at q;simpa using q⟩
end
section
variable{X:Cx}{t C e:Expr}{f:List Expr}{N o:Expr}{u:List Expr}{scope:Scope}{A:Pos}{Q E:TI}{g G:TG}{M B:TT}{L:TE}{x z:Str}{I J O D:Pos}{H w:Nat}
end
def VP:Nat->List Obj->PySem.W.Frag
 | _,[]=>[]
 | n,o::r=>match o.data with
  | .freed=>VP (n+1) r
  | _=>(n,o)::VP (n+1) r
def WC(h:Heap):PySem.W.Frag:=VP 0 h.objs.toList
theorem zao:∀{l:List Obj} {n a:Nat} {o:Obj},(VP n l).lookup a=some o->n<=a/\l[a-n]? =some o/\o.data≠.freed
 | [],n,a,o,h=>by cases h
 | x::r,n,a,o,h=>by
  have f:(VP (n+1) r).lookup a=some o->n<=a/\(x::r)[a-n]? =some o/\o.data≠.freed:=λh=>by
   obtain⟨h1,h2,h3⟩:=zao h;refine{(),?_,h3}
   rw[show a-n=(a-(n+1))+1 by omega];exact h2
  unfold VP at h;split at h
  .exact f h
  .rename_i t
   rw[jO] at h;split at h
   .rename_i e
    cases h;have:=xY.mp e;subst this;exact{zx _,1e3,t}
   .exact f h
theorem zec(h:Heap):(WC h).In h:=λa o e=>by
 obtain⟨_,h2,h3⟩:=zao e;have h2:h.objs[a]? =some o:=by simpa using h2
 unfold Heap.get?;rw[h2];obtain⟨c,d,f,t⟩:=o;cases f<;>first| rfl | exact absurd rfl h3
inductive Fd(K:W.Frag)(e:Str)(st:Stmt):Prop
 | mk (f:Addr) (o:FuncData) (a:PySem.W.nsIn K mainGlobals e=some (some (.ref f))) (F:Fun K e e st f o):Fd K e st
def zkT:Value->Bool
 | .none=>true
 | _=>false
def WD(K:W.Frag)(o:Str):Option (Arguments×FuncBody×Scope×Bool):=match PySem.W.nsIn K mainGlobals o with
 | some (some (.ref f))=>(match K.lookup f with
  | some ⟨_,_,.func e,_⟩=>some (e.params,e.body,e.scope,e.name==o&&(e.qualname==o&&(e.globals==mainGlobals&&(e.closure.isEmpty&&(zkT e.defaults&&(e.builtins==builtinsNs&&PySem.W.codeIn K e.code o))))))
  | _=>none)
 | _=>none
def zc3(st:Stmt):Option (Arguments×FuncBody×Scope×Bool):=some (Qi st,.stmts (wY st),zv st,true)
theorem zk0{K:W.Frag}{H:Str}{st:Stmt}(e:WD K H=zc3 st):Fd K H st:=by
 unfold WD zc3 at e;split at e
 .rename_i f L
  split at e
  .rename_i c d J sl E
   simp only[zbG,Prod.mk.injEq,jX] at e;obtain⟨e1,e2,D,o,t,u,w,A,B,G⟩:=e;obtain⟨M,qn,pa,O,sc,Y,U,C,kw,I,pm,N,Q,ct,bl⟩:=J;dsimp only at e1 e2 D o t u w A B G;have o:=xY.mp o;have t:=xY.mp t;have u:=xY.mp u;have w:=List.isEmpty_iff.mp w;have B:=xY.mp B;have A:C=.none:=by cases C<;>first| rfl | exact Bool.noConfusion A
   subst e1 e2 D o t u w A B;exact{f,_,L,{{_,_,_,_,_,_,_,_,_,rfl,E,G},by unfold PySem.W.keepIn;dsimp only;rw[E]}}
  .cases e
 .cases e
theorem zjN{K:W.Frag}{l:List (Str×Stmt)}(e:l.map (λx=>WD K x.1)=l.map λx=>zc3 x.2)(i:Nat){f:Str}{st:Stmt}(h:l[i]? =some (f,st)):Fd K f st:=by
 have:=congrArg (λz=>z[i]?) e
 simp only[zT,h,QL,zbG] at this;exact zk0 this
theorem zhW{K:W.Frag}{l:List Str}(e:l.map (λx=>PySem.W.nsIn K mainGlobals x)=l.map λ_=>some none){x:Str}(i:Nat)(h:l[i]? =some x):PySem.W.nsIn K mainGlobals x=some none:=by
 have:=congrArg (λz=>z[i]?) e
 simpa only[zT,h,QL,zbG] using this
def zj4:List Value->Option (List Str)
 | []=>some []
 | .str x _::r=>(zj4 r).map (x:: ·)
 | _=>none
def ziQ(K:W.Frag)(f:Str):Option (List Str×Bool):=match PySem.W.nsIn K mainGlobals f with
 | some (some (.ref a))=>(match K.lookup a with
  | some ⟨.type t,_,.seq e _,_⟩=>(zj4 e.toList).map λl=>(l,t == "tuple" && decide (e.size<=1000))
  | _=>none)
 | _=>none
def zjz(f:List (Str×Stmt))(e:List Str)(o:List (Str×List Str))(K:W.Frag):List (Option (Arguments×FuncBody×Scope×Bool))×List (Option (Option Value))×List (Option (List Str×Bool)):=
 (f.map λx=>WD K x.1,e.map λx=>PySem.W.nsIn K mainGlobals x,o.map λx=>ziQ K x.1)
def zjR(f:List (Str×Stmt))(e:List Str)(o:List (Str×List Str)):List (Option (Arguments×FuncBody×Scope×Bool))×List (Option (Option Value))×List (Option (List Str×Bool)):=
 (f.map λx=>zc3 x.2,e.map λ_=>some none,o.map λx=>some (x.2,true))
def zjS(s:Stmt):Pos:=match s with
 | .FunctionDef _ _ _ _ _ _ _ _ _ p=>p
 | _=>{0,0,0,0}
def defRec(x:Str)(s:Stmt):DefRec:={x,Qi s,wY s,zv s,zjS s}
structure Tp(P:Program)(w:World)(K:W.Frag)(mg:Str->Option Value)(base h:Heap)(ds:List (Str×Stmt))(bs:List Str)(ts:List (Str×List Str)):Prop where
 x:K.In h
 g:h.Ns mainGlobals mg
 e:zjz ds bs ts K=zjR ds bs ts
section
variable{P:Program}{w:World}{K:W.Frag}{o:Str->Option Value}{e h:Heap}{t:List (Str×Stmt)}{u:List Str}{A:List (Str×List Str)}
theorem Tp.fd(Z:Tp P w K o e h t u A)(i:Nat){f:Str}{st:Stmt}(B:t[i]? =some (f,st)):Fd K f st:=zjN (congrArg Prod.fst Z.e) i B
theorem Tp.bl(Z:Tp P w K o e h t u A)(i:Nat){x:Str}(f:u[i]? =some x):o x=none:=PySem.W.mg_none_of Z.x Z.g (zhW (congrArg (λz=>z.2.1) Z.e) i f)
theorem Tp.dfn(Z:Tp P w K o e h t u A)(i:Nat){C:Str}{st:Stmt}{k:Nat}{D:List Str}{I:Sp}(L:t[i]? =some (C,st))
  (ok:∀f fd,Fun K C C st f fd->o C=some (.ref f)->Binds K fd D []->FnOk P w K o e CX0 k f fd D I)
  (hb:∀(kV H M:Value) (J:Option Addr) (G ct:Value) (E:List Value),E.length=D.length->bindArgs (PySem.W.fnOf C C (Qi st) (wY st) (zv st) .none kV H M J G ct) {E,[]}=pure (D.zip E):=by
   intro _ _ _ _ _ _ E B;first| (obtain⟨_,rfl⟩:=zkR B;rfl) | (obtain⟨_,_,rfl⟩:=zkQ B;rfl) | (obtain⟨_,_,_,rfl⟩:=zkP B;rfl) | (obtain⟨_,_,_,_,rfl⟩:=zkO B;rfl) | (obtain⟨_,_,_,_,_,rfl⟩:=zkN B;rfl) | (obtain⟨_,_,_,_,_,_,rfl⟩:=zkM B;rfl) | (exact match E,B with | [],_=>rfl)) :
  Dfn P w K o e C k D I:=by
 obtain⟨f,fd,a,F⟩:=Z.fd i L;have b:=F.binds hb;have m:=PySem.W.mg_of Z.x Z.g a;exact{f,fd,ok f fd F m b,m,F.kp,b}
end
inductive Seen{β:Type}(f:PySem.W.Frag->β)(v:β)(w:World)(h:Heap):Prop
 | mk (K:W.Frag) (k:K.In h) (e:f K=v):Seen f v w h
theorem Seen.keeps{β:Type}{f:PySem.W.Frag->β}{v:β}(w:World)(h t:Heap)(s:Seen f v w h)(k:∀b o,h.get? b=some o->t.get? b=some o):Seen f v w t:=by
 obtain⟨K,x,e⟩:=s;exact{K,x.keeps k,e}
theorem walkS{l:PySem.W.OpenLaw}{n k:Nat}{q:Program}{C:List Str}{XP:(Str->Option Value)->Heap->Prop}{β:Type}{f:PySem.W.Frag->β}{v:β}{d:DefRec}{sp:PySem.W.Frag->Sp}{x:Str}
  (hn:l.most=some n) (O:n<=sizeLine) (M:d.params.defaults=[]) (hr:Room k callerA)
  (F:∀(w:World) (D:Str->Option Value) (I:Addr) (K:W.Frag) (h:Heap),K.In h->f K=v->h.Ns mainGlobals D->D d.name=some (.ref I) ->
   ∃L:FuncData,(∀(s:Shared) (u:Value),BindsTo s L {[u],[]} [(x,u)]) /\
    ∀t:Heap,K.In t->t.Ns mainGlobals D->FnOk l.prog w K D t CX0 k I L [x] (sp K))
  (Q:∀(K:W.Frag) (H:Hp) (a:Addr) (J:List Int),J.length<=n->zj1 H->SqL K H a (J.map V.int)->sp K [.ref a] H (λv _=>v=.bl true) λ_ _ _=>False) :
  PySem.W.WalkO q C XP (Seen f v) l.row.toRowW d [] (λf vs=>PySem.call f vs):=by
 refine Att.attach_call hn M λw s₀ s₁ D mb I o pm cd aa a vs J G Y ho hd ab N E B A hg=>?_
 obtain⟨K,U,e⟩:=Y;obtain⟨L,hb,hF⟩:=F w D I K _ U e G.T.g N;exact zf1 U G.T.g G.T.b G.T.builtins G.T.nolimit hg E B (jx A O) hr hF hb (λH hO hS=>Q K H a J A hO hS) λH e s' z=>z
theorem ownHead{l:PySem.W.OpenLaw}{q:Program}{o:List Str}{β:Type}{f:PySem.W.Frag->β}{v:β}{d:DefRec}(N:Nat)
  (u:l.wellSaid=true)
  (left:∀w,(PySem.W.openEnds treeTable l.prog w N).map (λs=>(PySem.W.openSeen q o (importedModules l.prog.main.body) (λ_=>true) true s,f (WC s.heap)))=some (PySem.W.openGood q o,v))
  (t:PySem.W.defOf q l.name=some (d,[])) (hp:l.prog.theDef l.name=some (d.params,d.body,d.scope)) (hk:PySem.W.kwWritten? d.params.kwonlyargs d.params.kw_defaults=some [])
  (ok:(PySem.W.chainsOk q&&PySem.W.opensWell l.prog&&(PySem.W.frees l.row.toRowW&&l.row.within.isEmpty))=true) (hb:l.prog.bare) (A:l.row.toRowW.promised)
  (call:PySem.W.WalkO q o (λ_ _=>True) (Seen f v) l.row.toRowW d [] λf C=>PySem.call f C):l.Holds:=
 PySem.W.holds_law u λB=>PySem.W.holds_open (r:=l.row) (Yf:=λs=>f (WC s.heap)) (Ya:=λ_=>v) left (λ_ s e=>{_,zec s.heap,e}) Seen.keeps (λ_ _=>trivial) (λ_ _ _ _ _=>trivial) t hp hk (λ_ _=>PySem.W.recFacts_nil rfl) (Bool.or_true _) B ok hb A call
def topL(i:Nat):Stmt:=PySem.Challenge.pw_pickboard_k16_shortest_trips.main.body.getD i (.Pass {0,0,0,0})
structure Blt(mg:Str->Option Value):Prop where
 abs:mg "abs" = none
 all:mg "all" = none
 any:mg "any" = none
 bool:mg "bool" = none
 dict:mg "dict" = none
 divmod:mg "divmod" = none
 enumerate:mg "enumerate" = none
 int:mg "int" = none
 isinstance:mg "isinstance" = none
 len:mg "len" = none
 list:mg "list" = none
 max:mg "max" = none
 min:mg "min" = none
 range:mg "range" = none
 set:mg "set" = none
 sorted:mg "sorted" = none
 str:mg "str" = none
 sum:mg "sum" = none
 tuple:mg "tuple" = none
 zip:mg "zip" = none
theorem wM:bootBuiltins "abs" = some (.builtin "abs"):=by decide +kernel
theorem Xt:bootBuiltins "max" = some (.builtin "max"):=by decide +kernel
theorem yE:bootBuiltins "min" = some (.builtin "min"):=by decide +kernel
theorem zaw:bootBuiltins "divmod" = some (.builtin "divmod"):=by decide +kernel
theorem yF:bootBuiltins "int" = some (.type "int"):=by decide +kernel
theorem xm:bootBuiltins "list" = some (.type "list"):=by decide +kernel
theorem ja:bootBuiltins "tuple" = some (.type "tuple"):=by decide +kernel
theorem zav:bootBuiltins "str" = some (.type "str"):=by decide +kernel
theorem zes:bootBuiltins "bool" = some (.type "bool"):=by decide +kernel
theorem jF:bootBuiltins "sorted" = some (.builtin "sorted"):=by decide +kernel
theorem zer:bootBuiltins "dict" = some (.type "dict"):=by decide +kernel
def Zk(i:Int):Int:=if i<0 then -i else i
def zkr:Str:= "abcdefghijklmnopqrstuvwxyz"
def zac(c:Nat):Bool:=decide (97<=c)&&decide (c<=122)
theorem zfS:zkr.cps.toList=List.range' 97 26:=by decide +kernel
def zbo:List (Str×Stmt):=[(("way_between":Str),topL 1),(("turned":Str),topL 3),(("next_by":Str),topL 4),(("steps_from":Str),topL 5),(("all_from":Str),topL 6),(("ahead_of":Str),topL 7),(("feeders_for":Str),topL 8),(("kind_of":Str),topL 10),(("farther":Str),topL 11),(("picking_walks":Str),topL 12),(("laying_walks":Str),topL 13),(("picks_at":Str),topL 14),(("shortest_trip":Str),topL 15),(("_law_box":Str),topL 17),(("_law_take":Str),topL 18),(("_law_folded":Str),topL 19),(("_law_spelled":Str),topL 20),(("_law_name":Str),topL 21),(("_law_names":Str),topL 22),(("_law_place":Str),topL 23),(("_law_places":Str),topL 24),(("_law_shuffled":Str),topL 25),(("_law_feeders":Str),topL 26),(("_law_aheads":Str),topL 27),(("_law_job":Str),topL 28),(("_law_way":Str),topL 29),(("_law_over":Str),topL 30),(("_law_states":Str),topL 31),(("_law_least_trip":Str),topL 32),(("_law_long":Str),topL 33),(("_law_trip_long":Str),topL 34),(("_law_is_whole_number":Str),topL 35),(("_law_is_trip":Str),topL 36),(("_law_is_fit":Str),topL 37),(("_law_group":Str),topL 38),(("_law_right":Str),topL 39),(("law":Str),topL 40)]
def zet:List Str:=[("abs":Str),("all":Str),("any":Str),("bool":Str),("dict":Str),("divmod":Str),("enumerate":Str),("int":Str),("isinstance":Str),("len":Str),("list":Str),("max":Str),("min":Str),("range":Str),("set":Str),("sorted":Str),("str":Str),("sum":Str),("tuple":Str),("zip":Str)]
def zdA:List (Str×List Str):=[]
def zkk:List Str:=zbo.dropLast.map (·.1)++[("__name__":Str)]
def zi2:Program:={ PySem.Challenge.pw_pickboard_k16_shortest_trips with main:={ PySem.Challenge.pw_pickboard_k16_shortest_trips.main with body:=[topL 40] } }
theorem head1:PySem.Challenge.rw_pickboard_k16_shortest_trips.wellSaid=true:=by kernel_rfl
theorem head2:∀w,(PySem.W.openEnds treeTable PySem.Challenge.pw_pickboard_k16_shortest_trips w 9999).map (λs=>(PySem.W.openSeen zi2 zkk (importedModules PySem.Challenge.pw_pickboard_k16_shortest_trips.main.body) (λ_=>true) true s,zjz zbo zet zdA (WC s.heap)))=some (PySem.W.openGood zi2 zkk,zjR zbo zet zdA):=λw=>by kernel_rfl
theorem head3:(PySem.W.chainsOk zi2&&PySem.W.opensWell PySem.Challenge.pw_pickboard_k16_shortest_trips&&(PySem.W.frees PySem.Challenge.rw_pickboard_k16_shortest_trips.row.toRowW&&PySem.Challenge.rw_pickboard_k16_shortest_trips.row.within.isEmpty))=true:=by kernel_rfl
section
variable{κ:Type}[DecidableEq κ]
def qZ(e:List (κ×V))(k:κ):Option V:=(e.find? λf=>decide (f.1=k)).map (·.2)
def xt(e:List (κ×V))(k:κ)(v:V):List (κ×V):=
 if(e.any λf=>decide (f.1=k))=true then e.map (λf=>if f.1=k then(f.1,v) else f) else e++[(k,v)]
theorem jh{p:κ×V}{r:List (κ×V)}{k:κ}(e:p.1=k):qZ (p::r) k=some p.2:=by simp[qZ,wu,e]
theorem ji{p:κ×V}{r:List (κ×V)}{k:κ}(e:¬p.1=k):qZ (p::r) k=qZ r k:=by simp[qZ,wu,e]
theorem wz(k:κ):∀f:List (κ×V),(f.any λo=>decide (o.1=k))=(qZ f k).isSome
 | []=>rfl
 | p::r=>by
  rw[w9];by_cases e:p.1=k
  .simp only[jh e,zY e,Bool.true_or,Option.isSome_some]
  .rw[ji e,jA e,Bool.false_or];exact wz k r
theorem Ys(k j:κ)(y:V):∀f:List (κ×V),qZ (f.map λo=>if o.1=k then(o.1,y) else o) j=(qZ f j).map λx=>if j=k then y else x
 | []=>rfl
 | p::r=>by
  have t:=Ys k j y r;rw[jR];by_cases h:p.1=k
  .rw[zt h]
   by_cases e:p.1=j
   .rw[jh (p:=(p.1,y)) e,jh e,QL,zt (e.symm.trans h)]
   .rw[ji (p:=(p.1,y)) e,ji e,t]
  .rw[zq h]
   by_cases e:p.1=j
   .rw[jh (p:=p) e,jh e,QL,zq (λz=>h (e.trans z))]
   .rw[ji (p:=p) e,ji e,t]
theorem Vj(k j:κ)(y:V):∀f:List (κ×V),qZ f k=none->qZ (f++[(k,y)]) j=if j=k then some y else qZ f j
 | [],_=>by
  by_cases e:k=j
  .rw[zt e.symm];exact jh (p:=(k,y)) e
  .rw[zq (λz=>e z.symm)];exact ji (p:=(k,y)) e
 | p::r,o=>by
  rw[zbC];have hk:¬p.1=k:=λz=>by rw[jh z] at o;cases o
  rw[ji hk] at o;have t:=Vj k j y r o;by_cases e:p.1=j
  .rw[jh e,jh e,zq (λz=>hk (e.trans z))]
  .rw[ji e,ji e,t]
theorem JL(f:List (κ×V))(k j:κ)(y:V):qZ (xt f k y) j=if j=k then some y else qZ f j:=by
 unfold xt;by_cases a:(f.any λo=>decide (o.1=k))=true
 .rw[zt a,Ys]
  rw[wz] at a;by_cases e:j=k
  .obtain⟨x,hx⟩:=Option.isSome_iff_exists.mp a
   rw[zt e,e,hx,QL,zt rfl]
  .rw[zq e]
   cases qZ f j with
   | none=>rfl
   | some x=>rw[QL,zq e]
 .rw[zq a]
  refine Vj k j y f ?_
  rw[wz] at a;cases q:qZ f k with
  | none=>rfl
  | some x=>rw[q] at a;exact(a rfl).elim
theorem xh(e:List (κ×V))(k:κ)(v:V):(xt e k v).length<=e.length+1:=by
 unfold xt;split
 .rw[zm];omega
 .rw[qu,qH,yQ];omega
theorem Qe{e:List (κ×V)}{k:κ}(v:V)(h:qZ e k=none):xt e k v=e++[(k,v)]:=by
 unfold xt;rw[wz,h];exact zq 1e1
theorem RelO.isSome_eq{o:Option V}{u:Option Value}(r:RelO o u):o.isSome=u.isSome:=by
 cases o with
 | none=>cases u with
  | none=>rfl
  | some _=>exact(show False from r).elim
 | some _=>cases u with
  | none=>exact(show False from r).elim
  | some _=>rfl
theorem RelO.getD{o:Option V}{u:Option Value}{d:V}{e:Value}(r:RelO o u)(f:RelV d e):RelV (o.getD d) (u.getD e):=by
 cases o with
 | none=>cases u with
  | none=>exact f
  | some _=>exact(show False from r).elim
 | some _=>cases u with
  | none=>exact(show False from r).elim
  | some _=>exact r
theorem KV.val{f:List (κ×V)}{w:List (κ×Value)}(r:KV f w)(k:κ):RelO (qZ f k) (valueAt w k):=by
 unfold KV at r;induction r with
 | nil=>exact True.intro
 | @cons p q B u h t A=>
  obtain⟨h1,h2⟩:=h;by_cases e:p.1=k
  .have o:q.1=k:=h1.symm.trans e
   have b:valueAt (q::u) k=some q.2:=by simp[valueAt,wu,o]
   rw[jh e,b];exact h2
  .have o:¬q.1=k:=λz=>e (h1.trans z)
   have b:valueAt (q::u) k=valueAt u k:=by simp[valueAt,wu,o]
   rw[ji e,b];exact A
theorem KV.any{e:List (κ×V)}{o:List (κ×Value)}(r:KV e o)(k:κ):(e.any λf=>decide (f.1=k))=o.any λf=>decide (f.1=k):=by
 unfold KV at r;induction r with
 | nil=>rfl
 | cons h t u=>rw[w9,w9,u,h.1]
theorem KV.repl{o:List (κ×V)}{w:List (κ×Value)}(r:KV o w)(k:κ){y:V}{u:Value}(B:RelV y u) :
  KV (o.map λf=>if f.1=k then(f.1,y) else f) (w.map λf=>if f.1=k then(f.1,u) else f):=by
 unfold KV at r ⊢;induction r with
 | nil=>exact .nil
 | @cons p q C D h t A=>
  rw[jR,jR];refine .cons ?_ A
  obtain⟨h1,h2⟩:=h;by_cases e:p.1=k
  .rw[zt e,zt (h1.symm.trans e)];exact⟨h1,B⟩
  .rw[zq e,zq (λz=>e (h1.trans z))];exact⟨h1,h2⟩
theorem KV.put{f:List (κ×V)}{o:List (κ×Value)}(r:KV f o)(k:κ){y:V}{u:Value}(t:RelV y u):KV (xt f k y) (stored o k u):=by
 unfold xt stored;rw[r.any k];by_cases e:(o.any λw=>decide (w.1=k))=true
 .rw[zt e,zt e];exact r.repl k t
 .rw[zq e,zq e];exact Paired.snoc r ⟨rfl,t⟩
theorem KV.length{e:List (κ×V)}{f:List (κ×Value)}(r:KV e f):e.length=f.length:=XF r
end
theorem wI{P:Program}{w:World}{k:Key}{u:Value}(r:RelV (kV k) u):(zw P w).is k u=true:=by
 cases k with
 | inl i=>obtain⟨t,e⟩:=(show ∃t,u=Value.int i t from r);subst e;exact Y7 P w i t
 | inr x=>obtain⟨t,e⟩:=(show ∃t,u=Value.str x t from r);subst e;exact Y6 P w x t
theorem zjG{a b:Key}(e:kV a=kV b):a=b:=by
 cases a with
 | inl i=>cases b with
  | inl j=>have f:V.int i=V.int j:=e;injection f with f;rw[f]
  | inr y=>exact nomatch (show V.int i=V.str y from e)
 | inr x=>cases b with
  | inl j=>exact nomatch (show V.str x=V.int j from e)
  | inr y=>have f:V.str x=V.str y:=e;injection f with f;rw[f]
theorem wJ{P:Program}{w:World}:∀{e:List Key} {f:List Value},Vals (e.map kV) f->ItemsAre (zw P w) e f
 | [],_,r=>by rw[ZM] at r;cases r;exact .nil
 | k::e,_,r=>by
  rw[jR] at r;cases r with
  | cons h t=>exact .cons (wI h) (wJ t)
abbrev KT(H:Hp):List (List Key×V)->List (List Key×Addr×Value)->Prop:=Paired λp q=>p.1=q.1/\H q.2.1=some (.tup (p.1.map kV))/\RelV p.2 q.2.2
theorem KT.val{H:Hp}{f:List (List Key×V)}{w:List (List Key×Addr×Value)}(r:KT H f w)(k:List Key):RelO (qZ f k) ((atKey w k).map (·.2)):=by
 induction r with
 | nil=>exact True.intro
 | @cons p q B u h t A=>
  obtain⟨h1,_,h2⟩:=h;by_cases e:p.1=k
  .have o:q.1=k:=h1.symm.trans e
   have b:atKey (q::u) k=some q.2:=by simp[atKey,wu,o]
   rw[jh e,b];exact h2
  .have o:¬q.1=k:=λz=>e (h1.trans z)
   have b:atKey (q::u) k=atKey u k:=by simp[atKey,wu,o]
   rw[ji e,b];exact A
theorem KT.repl{H:Hp}{f:List (List Key×V)}{w:List (List Key×Addr×Value)}(r:KT H f w)(k:List Key){y:V}{u:Value}(B:RelV y u) :
  KT H (f.map λo=>if o.1=k then(o.1,y) else o) (w.map (putAt k u)):=by
 induction r with
 | nil=>exact .nil
 | @cons p q C D h t A=>
  rw[jR,jR];refine .cons ?_ A
  obtain⟨h1,h2,h3⟩:=h;unfold putAt;by_cases e:p.1=k
  .rw[zt e,zt (h1.symm.trans e)];exact⟨h1,h2,B⟩
  .rw[zq e,zq (λz=>e (h1.trans z))];exact⟨h1,h2,h3⟩
theorem KT.put{H:Hp}{f:List (List Key×V)}{o:List (List Key×Addr×Value)}(r:KT H f o)(k:List Key){b:Addr}{y:V}{u:Value}(hb:H b=some (.tup (k.map kV)))(t:RelV y u) :
  KT H (xt f k y) (storedH o k b u):=by
 have e:(f.any λw=>decide (w.1=k))=(atKey o k).isSome:=by
  rw[wz,(r.val k).isSome_eq,W3]
 unfold xt storedH;rw[e];by_cases q:(atKey o k).isSome=true
 .rw[zt q,zt q];exact r.repl k t
 .rw[zq q,zq q];exact Paired.snoc r ⟨rfl,hb,t⟩
theorem KT.keeps{H f:Hp}{e:List (List Key×V)}{o:List (List Key×Addr×Value)}(r:KT H e o)(u:∀b t,H b=some (.tup t)->f b=some (.tup t)):KT f e o:=
 Paired.mapP r λ_ _ z=>{z.1,u _ _ z.2.1,z.2.2}
section
variable{P:Program}{w:World}{H:Hp}{h:Heap}{a:Addr}
theorem ziu{u:HO}(ok:HOk P w H h)(e:Rd H a u):ObjOk P w H h a u:=e.ok ok
theorem Q9{f:List (Key×V)}(ok:HOk P w H h)(e:Rd H a (.dK f)):f.length<=sizeLine/\(a==sysModules)=false/\∃o,KV f o/\h.DictOf (zw P w) a o:=
 show ObjOk P w H h a (.dK f) from ziu ok e
theorem VS{f:List (Key×V)}(ok:HOk P w H h)(e:H a=some (.dK f)):f.length<=sizeLine/\(a==sysModules)=false/\∃o,KV f o/\h.DictOf (zw P w) a o:=Q9 ok (.inl e)
theorem Xg{t:List Key}(ok:HOk P w H h)(e:H a=some (.tup (t.map kV))):(tupleKind (zw P w)).is h t a:=by
 obtain⟨_,f,r,⟨o,h1,h2,n,h3⟩,_⟩:=(show ObjOk P w H h a (.tup (t.map kV)) from ok a _ e)
 exact{o,f.toArray,n,h1,h2,h3,by simpa using wJ r}
theorem VR{f:List (List Key×V)}(ok:HOk P w H h)(e:Rd H a (.dT f)):f.length<=sizeLine/\(a==sysModules)=false /\
  ∃u,KT H f u/\h.DictOfH (tupleKind (zw P w)) a u:=by
 obtain⟨z,y,u,r,o,B,A,h1,h2,h3,C,D⟩:=(show ObjOk P w H h a (.dT f) from ziu ok e)
 refine{z,y,u,r,o,B,A,h1,h2,h3,C,λx hx=>?_,D}
 have all:∀{l:List (List Key×V)} {m:List (List Key×Addr×Value)},KT H l m->∀x∈m,(tupleKind (zw P w)).is h x.1 x.2.1:=by
  intro l m q;induction q with
  | nil=>intro x hx;exact nomatch hx
  | @cons p q G I hq t E=>
   intro x hx;rcases zP.mp hx with e | hx
   .subst e
    exact Xg ok (by rw[<- hq.1];exact hq.2.1)
   .exact E x hx
 exact all r x hx
theorem zk2{f:List (List Key×V)}(ok:HOk P w H h)(e:H a=some (.dT f)):f.length<=sizeLine/\(a==sysModules)=false /\
  ∃o,KT H f o/\h.DictOfH (tupleKind (zw P w)) a o:=VR ok (.inl e)
end
def DGet(H:Hp)(a:Addr)(y:V)(r:Option V):Prop:=
 (∃e k,Rd H a (.dK e)/\y=kV k/\r=qZ e k)\/∃e k b,Rd H a (.dT e)/\y=.ref b/\H b=some (.tup (k.map kV))/\r=qZ e k
def zk8(H:Hp)(a:Addr)(y v:V)(f:Hp):Prop:=
 (∃e k,H a=some (.dK e)/\y=kV k/\e.length<sizeLine/\f=upd H a (.dK (xt e k v))) \/
 ∃e k b,H a=some (.dT e)/\y=.ref b/\H b=some (.tup (k.map kV))/\e.length<sizeLine/\f=upd H a (.dT (xt e k v))
theorem DGet.k{H:Hp}{a:Addr}{f:List (Key×V)}{k:Key}(e:H a=some (.dK f)):DGet H a (kV k) (qZ f k):=.inl {f,k,.inl e,rfl,rfl}
section
variable{X:Cx}{f:List (Addr×Obj)}{σ:St}{H:Hp}{s:Shared}{a:Addr}{y v:V}{u r:Value}{o:Option V}{A:Around}{E:Value->Shared->Prop}
theorem Inv.big(I:Inv X f σ H s):sysModules<s.heap.objs.size:=by
 have h:mainGlobals<s.heap.objs.size:=(I.mod.glob.keeps I.bk).lt;exact XE 1e1 h
theorem zeh{Q:Value->Shared->Prop}(hu:A.units+1<cLine)(I:Inv X f σ H s)(g:DGet H a y (some v))(M:RelV y u)(h:∀B N,Inv X f σ H N->RelV v B->Q B N) :
  wpAny 0#e A (getItem (.ref a) u) Q E s:=by
 rcases g with ⟨L,k,e,D,l⟩ | ⟨L,k,b,e,D,O,l⟩
 .subst D
  obtain⟨z,hd,U,t,C⟩:=Q9 I.hok e;obtain⟨B,J,w⟩:=RelO.some_of (v:=v) (o:=valueAt U k) (by rw[l];exact t.val k)
  exact wpAny_getItem_of (wI M) C.mapOf J (h B _ (I.tok _) w)
 .subst D
  cases(show u=Value.ref b from M)
  obtain⟨z,hd,Y,t,C⟩:=VR I.hok e;obtain⟨B,J,w⟩:=RelO.some_of (v:=v) (o:=(atKey Y k).map (·.2)) (by rw[l];exact t.val k)
  obtain⟨p,hp,G⟩:=qy.mp J;refine wpAny_getItem_heap (tupleKind_room_in1 hu) (Xg I.hok O) C hp ?_
  rw[G];exact h B _ (I.tok _) w
theorem zhS{Q:Value->Shared->Prop}(hu:A.units+1<cLine)(I:Inv X f σ H s)(g:DGet H a y o)(D:RelV y u)(h:∀G,Inv X f σ H G->Q (.bool (!o.isSome)) G) :
  wpAny 0#e A (compareOp .NotIn u (.ref a)) Q E s:=by
 rcases g with ⟨C,k,e,B,l⟩ | ⟨C,k,b,e,B,J,l⟩
 .subst B
  obtain⟨z,hd,L,t,w⟩:=Q9 I.hok e;refine wpAny_notIn_of (wI D) hd w.mapOf ?_
  rw[<- (t.val k).isSome_eq,<- l];exact h _ (I.tok _)
 .subst B
  cases(show u=Value.ref b from D)
  obtain⟨z,hd,M,t,w⟩:=VR I.hok e;refine wpAny_notIn_heap (tupleKind_room_in1 hu) (Xg I.hok J) hd w ?_
  have q:=(t.val k).isSome_eq;rw[W3] at q;rw[<- q,<- l];exact h _ (I.tok _)
theorem wf{t:Heap}{t':Nat}{B:HO}(I:Inv X f σ H s)(G:Mut (H a))(D:Heap.SameBut a s.heap t)(C:∃q,t.get? a=some q)(w:ObjOk X.prog X.w (upd H a B) t a B) :
  Inv X f σ (upd H a B) { s with heap:=t,toks:=t' }:=
 I.write (x:=a) (e:=a) G (.inl rfl) (λb q hb z=>(D.2 b hb).trans z) C w
theorem QB{P:Program}{w:World}{D:Hp}{C:Heap}{e:List (Key×V)}{B:List (Key×Value)}(z:e.length<=sizeLine)(hd:(a==sysModules)=false)(t:KV e B)(G:C.DictOf (zw P w) a B) :
  ObjOk P w D C a (.dK e):=⟨z,hd,B,t,G⟩
theorem zeg{O:Hp}{Q:Unit->Shared->Prop}(hu:A.units+1<cLine)(I:Inv X f σ H s)(g:zk8 H a y v O)(ry:RelV y u)(rv:RelV v r)(h:∀s',Inv X f σ O s'->Q Unit.unit s') :
  wpAny 0#e A (setItem (.ref a) u r) Q E s:=by
 rcases g with ⟨t,k,e,G,l,D⟩ | ⟨t,k,b,e,G,U,l,D⟩
 .subst G D
  obtain⟨z,hd,vs,w,C⟩:=VS I.hok e;have N:vs.length<=sizeLine:=by rw[<- w.length];exact z
  have J:(xt t k v).length<=sizeLine:=by have:=xh t k v;omega
  refine wpAny_setItem_pairs (hsz:=N) (wI ry) C λh' B L=>h _ ?_
  have he:∃q,h'.get? a=some q:=let ⟨q,_,_,hq,_⟩:=B;⟨q,hq⟩
  exact wf I (by rw[e];exact True.intro) L he (QB J hd (w.put k rv) B)
 .subst G D
  cases(show u=Value.ref b from ry)
  obtain⟨z,hd,xs,w,C⟩:=zk2 I.hok e;have N:xs.length<=sizeLine:=by rw[<- XF w];exact z
  have J:(xt t k v).length<=sizeLine:=by have:=xh t k v;omega
  refine wpAny_setItem_heap (hsz:=N) (tupleKind_room_in1 hu) (Xg I.hok U) C λh' B L=>h _ ?_
  obtain⟨q,es,ep,hq,h2,h3,h4,_,h5⟩:=B;refine wf I (by rw[e];exact True.intro) L ⟨q,hq⟩ {J,hd,_,(w.put k U rv).keeps λc ys Y=>?_,q,es,ep,hq,h2,h3,h4,h5}
  rw[zj (zcO Y e (λz=>nomatch z))]
  exact Y
end
section
variable{X:Cx}{e:List (Addr×Obj)}{σ:St}{H:Hp}{s:Shared}{a:Addr}{f:List (Key×V)}{k:Key}{u:Value}{A:Around}{E:Value->Shared->Prop}
end
def zh4(i:Expr):Prop:=∀f e,subscripted i false f e=operate [f,e] (getItem f e)
theorem zca{e:Program}{w:World}{A:Around}{E:Value->Shared->Prop}{s:Shared}{u:Env}{t f:Expr}{G:Pos}{T id:String}{Q:Value->Shared->Prop}
  (L:typeLookup (.type T) "__getitem__" = pure (some (.builtin id))) (M:zh4 f)
  (h:wpAny 0#w A (eval t u) (λo I=>wpAny 0#w A (eval f u) (λi C=>C.TypeIs o T/\wpAny 0#w A (getItem o i) Q E C) E I) E s) :
  wpAny 0#w A (eval (.Subscript t f G) u) Q E s:=by
 refine Subscript_ (z9 h (λo I N=>z9 N (λi C D=>?_) λ_ _ x=>x) λ_ _ x=>x)
 obtain⟨H,D⟩:=D;unfold subscriptTail;refine zc ?_
 rw[getitemInPython_of_ne H.not_modules];refine zc (yH H L ?_)
 have B:wpAny 0#w A (subscripted f false o i) (λr J=>wpAny 0#w A (letTemporaryGo t o r >>= λ_=>pure r) Q E J) E C:=by
  rw[M o i];exact wpAny_operating (z9 D (λr J O=>zc (wpAny_letTemporaryGo (zg O))) λ_ _ x=>x)
 first
  | exact zg (zc B)
  | exact zc (zg (zc B))
  | exact zc B
theorem zap{X:Cx}{f:List (Addr×Obj)}{σ:St}{H:Hp}{s:Shared}{a:Addr}{y:V}{o:Option V}(I:Inv X f σ H s)(g:DGet H a y o):s.TypeIs (.ref a) "dict" :=by
 rcases g with ⟨u,k,e,_,_⟩ | ⟨u,k,b,e,_,_,_⟩
 .obtain⟨_,_,w,_,t⟩:=Q9 I.hok e
  exact t.typeIs
 .obtain⟨_,_,A,_,t⟩:=VR I.hok e
  exact t.typeIs
def zkf(o ty:TE):TE:=λσ H Q=>o σ H λx f=>ty σ f λy e=>∃a v,x=.ref a/\DGet e a y (some v)/\Q v e
def zgS(ty t:TE):TE:=λσ H Q=>ty σ H λy f=>t σ f λx e=>∃a o,x=.ref a/\DGet e a y o/\Q (.bl (!o.isSome)) e
def zks(u ty w:TE):TS:=λD σ H=>w σ H λv f=>u σ f λx o=>ty σ o λy t=>∃a e,x=.ref a/\zk8 t a y v e/\D.nx σ e
section
variable{X:Cx}{o i e f:Expr}{w t B:Pos}{A ty C:TE}
theorem Wo(hu:X.A.units+1<cLine)(Y:PE X o A)(U:PE X i ty)(hs:zh4 i):PE X (.Subscript o i w) (zkf A ty):=by
 intro D s σ H Q I h;refine zca zgp.lookup hs (thn (Y D s σ H _ I h) λu s1 ⟨x,J,M,rx,q1⟩=>thn (U D s1 σ J _ M q1) λiv s2 ⟨y,L,G,ry,a,v,O,g,q2⟩=>?_)
 subst O;obtain rfl:u=Value.ref a:=rx;exact{zap G g,zeh hu G g ry λw' s3 N E=>⟨v,L,N,E,q2⟩}
theorem zdT(hu:X.A.units+1<cLine)(O:PE X i ty)(U:PE X o A):PC X .NotIn i o (zgS ty A):=by
 intro D s σ H Q I h;refine thn (O D s σ H _ I h) λiv s1 ⟨y,E,J,ry,q1⟩=>thn (U D s1 σ E _ J q1) λu s2 ⟨x,G,L,rx,a,Y,N,g,q2⟩=>?_
 subst N;obtain rfl:u=Value.ref a:=rx;exact zhS hu L g ry λs3 M=>{.bl (!Y.isSome),G,M,rfl,q2}
theorem zg6(hu:X.A.units+1<cLine)(ho:PE X o A)(Y:PE X i ty)(hv:PE X f C)(hs:swapsWith f (some (.Subscript o i t)) w.line X.env=pure false) :
  PS X (.Assign [.Subscript o i t] f w) (zks A ty C):=by
 intro E s σ H D I h;refine wpAny_Assign_Subscript (thn (hv E s σ H _ I h) λr s1 ⟨v,G,M,rv,q1⟩=>thn (ho E s1 σ G _ M q1) λu s2 ⟨x,J,N,rx,q2⟩=>thn (Y E s2 σ J _ N q2) λiv s3 ⟨y,H3,O,ry,a,L,U,g,q3⟩=>?_) hs
 subst U;obtain rfl:u=Value.ref a:=rx;exact zeg hu O g ry rv λs4 Q=>⟨σ,L,Q,q3⟩
end
theorem Xo{P:Program}{w:World}{H:Hp}(h:Heap)(hb:sysModules<h.objs.size):ObjOk P w H (h.push { cls:=.type "dict",data:=.dict #[] }) h.objs.size (.dK []):=
 {qJ _,beq_eq_false_iff_ne.mpr (zS (zN hb)),[],.nil,Heap.DictOf.new h}
def ziW:TE:=λ_ H Q=>∀p,H p=none->Q (.ref p) (upd H p (.dK []))
section
variable{X:Cx}{e:Pos}
theorem zfq:PE X (.Dict [] [] e) ziW:=λf s σ H Q I h=>
 wpAny_Dict_empty {.ref s.heap.objs.size,_,I.laid (a:=s.heap.objs.size) (o:=.dK []) (t':=s.toks) (λ_ _ q=>zH _ q) (zx _) (Xo s.heap I.big),rfl,h _ (I.hok.fresh (zx _))}
end
def Zy:List (TE×TE)->St->Hp->(List (V×V)->Hp->Prop)->Prop
 | [],_,H,Q=>Q [] H
 | (u,w)::r,σ,H,Q=>u σ H λx e=>w σ e λy f=>Zy r σ f λt o=>Q ((x,y)::t) o
abbrev VV:List (V×V)->List (Value×Value)->Prop:=Paired λp q=>RelV p.1 q.1/\RelV p.2 q.2
def PPs(X:Cx)(t:Pos)(o:List (Option Expr))(e:List Expr)(u:List (TE×TE)):Prop:=
 ∀(f:List 0#p) (s:Shared) (σ:St) (H:Hp) (Q:List (V×V)->Hp->Prop),Inv X f σ H s->Zy u σ H Q ->
  wpAny 0#e X.A (evalPairs (pairTrees o e X.env t)) (λC B=>∃A w,Inv X f σ w B/\VV A C/\Q A w) X.xe s
theorem Wl{X:Cx}{e:Pos}:PPs X e [] [] []:=λf s σ H Q I h=>pairTrees_nil_walk {[],H,I,.nil,h}
theorem JV{X:Cx}{pos:Pos}{k v:Expr}{t:List (Option Expr)}{B:List Expr}{w A:TE}{f:List (TE×TE)}(hk:PE X k w)(N:PE X v A)(M:PPs X pos t B f) :
  PPs X pos (some k::t) (v::B) ((w,A)::f):=λe s σ H Q I h=>
 pairTrees_cons_walk (thn (hk e s σ H _ I h) λu s1 ⟨x,C,G,U,q1⟩=>thn (N e s1 σ C _ G q1) λw2 s2 ⟨y,D,J,Y,q2⟩=>
  thn (M e s2 σ D _ J q2) λws s3 ⟨O,E,L,o,q3⟩=>{(x,y)::O,E,L,.cons ⟨U,Y⟩ o,q3})
def jZ(f more:List (Key×V)):List (Key×V):=more.foldl (λe o=>xt e o.1 o.2) f
theorem KV.merge:∀{more:List (Key×V)} {u:List (Key×Value)} {f:List (Key×V)} {o:List (Key×Value)},KV more u->KV f o->KV (jZ f more) (merged o u):=by
 intro more u f o r;unfold KV at r;induction r generalizing f o with
 | nil=>intro q;exact q
 | @cons p q B C h t w=>
  intro A;have e:KV (xt f p.1 p.2) (stored o q.1 q.2):=by
   have:=A.put p.1 h.2;rw[<- h.1];exact this
  exact w e
theorem xV:∀(more e:List (Key×V)),(jZ e more).length<=e.length+more.length
 | [],e=>by show e.length<=e.length+0;omega
 | p::r,e=>by
  have h1:=xV r (xt e p.1 p.2);have h2:=xh e p.1 p.2;show(jZ (xt e p.1 p.2) r).length<=_;rw[qH];omega
theorem Xq{P:Program}{w:World}:∀{e:List (Key×V)} {u:List (Value×Value)},VV (e.map λo=>(kV o.1,o.2)) u->∃f,Carries (zw P w) u f/\KV e f
 | [],_,r=>by rw[ZM] at r;cases r;exact{[],True.intro,.nil}
 | p::e,_,r=>by
  rw[jR] at r;cases r with
  | @cons a b A B h t=>
   obtain⟨f,c,q⟩:=Xq (P:=P) (w:=w) t;obtain⟨b1,b2⟩:=b;exact{(p.1,b2)::f,{wI h.1,rfl,c},.cons ⟨rfl,h.2⟩ q}
def zkd(f:List (TE×TE)):TE:=λσ H Q=>∀p,H p=none->Zy f σ (upd H p (.dK [])) λu o=>o p=some (.dK [])/\∃e:List (Key×V),u=e.map (λt=>(kV t.1,t.2))/\e.length<=15/\Q (.ref p) (upd o p (.dK (jZ [] e)))
theorem zhe{X:Cx}{D:Pos}{f:List (Option Expr)}{t:List Expr}{E:List (TE×TE)}(h:PPs X D f t E)(A:f.all (·.isSome)=true)(hl:f.length=t.length)(h0:f≠[])
  (G:f.length<=15):PE X (.Dict f t D) (zkd E):=by
 intro C s σ H Q I q;have hn:=I.hok.fresh (zx s.heap.objs.size);have N:=I.laid (a:=s.heap.objs.size) (o:=.dK []) (h':=s.heap.push { cls:=.type "dict",data:=.dict #[] }) (t':=s.toks) (λ_ _ q=>zH _ q) (zx _) (Xo s.heap I.big)
 refine wpAny_Dict_walk (knd:=zw X.prog X.w) A hl h0 G (thn (h C _ σ _ _ N (q _ hn)) λws s2 ⟨ps,H2,L,J,e,B,U,lk,q2⟩=>?_)
 subst U;obtain⟨rs,c,rk⟩:=Xq (P:=X.prog) (w:=X.w) J;obtain⟨z,hd,ab,r0,O⟩:=VS L.hok e;cases r0;refine{rs,c,O,λM u hs=>{.ref s.heap.objs.size,_,?_,rfl,q2}}
 have hz:(jZ [] B).length<=sizeLine:=by
  have h1:=xV B [];rw[yQ] at h1;rw[sizeLine_eq];omega
 have Y:∃q,M.get? s.heap.objs.size=some q:=let ⟨q,_,_,hq,_⟩:=u;⟨q,hq⟩
 exact wf L (by rw[e];exact True.intro) hs Y (QB hz hd (rk.merge .nil) u)
structure M1(X:Cx)(o:Expr)(m:Str)(apos:Pos)(e:Expr)(cpos:Pos):Prop where
 base:attributeBase o m X.env (eval o X.env)=eval o X.env
 few:((backTo cpos (starEach [e] X.env)).all (λx=>!x.1)&&(backToKw cpos (keywordEach [] X.env)).all (λx=>x.1.isSome)
  && decide (([e]:List Expr).length+([]:List Keyword).length+(if([]:List Keyword).isEmpty then 0 else 1)<30))=true
 line:(apos.endLine==cpos.line)=true
 trees:backTo cpos (starEach [e] X.env)=[(false,eval e X.env)]
structure M2(X:Cx)(o:Expr)(m:Str)(apos:Pos)(e f:Expr)(cpos:Pos):Prop where
 base:attributeBase o m X.env (eval o X.env)=eval o X.env
 few:((backTo cpos (starEach [e,f] X.env)).all (λx=>!x.1)&&(backToKw cpos (keywordEach [] X.env)).all (λx=>x.1.isSome)
  && decide (([e,f]:List Expr).length+([]:List Keyword).length+(if([]:List Keyword).isEmpty then 0 else 1)<30))=true
 line:(apos.endLine==cpos.line)=true
 trees:backTo cpos (starEach [e,f] X.env)=[(false,eval e X.env),(false,eval f X.env)]
def IsD(H:Hp)(a:Addr):Prop:=(∃e,Rd H a (.dK e))\/∃e,Rd H a (.dT e)
theorem zbh{X:Cx}{t:List (Addr×Obj)}{σ:St}{H:Hp}{s:Shared}{a:Addr}(I:Inv X t σ H s)(d:IsD H a) :
  s.TypeIs (.ref a) "dict" /\ (∀b,Value.ref a=.ref b->∃f,s.heap.get? b=some f/\f.dict=none)/\(a==sysModules)=false:=by
 rcases d with ⟨u,e⟩ | ⟨u,e⟩
 .obtain⟨_,hd,w,_,o⟩:=Q9 I.hok e
  refine{o.typeIs,λb q=>?_,hd}
  cases q;obtain⟨f,_,_,h1,h2,_⟩:=o;exact⟨f,h1,h2.2.1⟩
 .obtain⟨_,hd,A,_,o⟩:=VR I.hok e
  refine{o.typeIs,λb q=>?_,hd}
  cases q;obtain⟨f,_,_,h1,h2,_⟩:=o;exact⟨f,h1,h2.2.1⟩
section
variable{X:Cx}{f:List (Addr×Obj)}{σ:St}{H:Hp}{s:Shared}{a:Addr}{y d:V}{u r:Value}{o:Option V}{A:Around}{E:Value->Shared->Prop}
theorem zjU{Q:Value->Shared->Prop}(hu:A.units+1<cLine)(I:Inv X f σ H s)(g:DGet H a y o)(G:RelV y u)(D:RelV d r)(h:∀L J,Inv X f σ H J->RelV (o.getD d) L->Q L J) :
  wpAny 0#e A (call (.builtin "dict.get") [.ref a,u,r]) Q E s:=by
 rcases g with ⟨C,k,e,B,l⟩ | ⟨C,k,b,e,B,M,l⟩
 .subst B
  obtain⟨z,hd,O,t,w⟩:=Q9 I.hok e;refine call_meetsIn Z1 w.typeIs Ye (Yi _ _ _) (meets_dict_get_default 0#x a (wI G) hd r) {_,w.mapOf,h _ _ (I.tok _) ?_}
  rw[l];exact(t.val k).getD D
 .subst B
  cases(show u=Value.ref b from G)
  obtain⟨z,hd,N,t,w⟩:=VR I.hok e;refine call_meetsIn Z1 w.typeIs Ye (Yi _ _ _) (meetsH_dict_get_default (tupleKind 0#x) a b hd r) {tupleKind_room_in1 hu,k,N,Xg I.hok M,w,h _ _ (I.tok _) ?_}
  rw[l];exact(t.val k).getD D
end
def ziX(u ty w:TE):TE:=λσ H Q=>u σ H λx e=>∃a,x=.ref a/\IsD e a/\ty σ e λy t=>w σ t λz f=>∃o,DGet f a y o/\Q (o.getD z) f
section
variable{X:Cx}{o e f:Expr}{t w:Pos}{A ty B:TE}
theorem zft(hu:X.A.units+1<cLine)(ho:PE X o A)(Y:PE X e ty)(hf:PE X f B)(m:M2 X o "get" t e f w):PE X (.Call (.Attribute o "get" t) [e,f] [] w) (ziX A ty B):=by
 intro C s σ H Q I h;refine wpAny_Call_method m.base m.few m.line QV Z1 zbQ (thn (ho C s σ H _ I h) λu s1 ⟨x,G,E,rx,a,U,d,q1⟩=>?_)
 subst U;obtain rfl:u=Value.ref a:=rx;obtain⟨t1,t2,_⟩:=zbh E d;refine{t1,t2,?_}
 rw[m.trees];refine Z2 rfl (QT (ye (thn (Y C s1 σ G _ E q1) λiv s2 ⟨y,J,M,ry,q2⟩=>
  ye (thn (hf C s2 σ J _ M q2) λfv s3 ⟨z,L,N,rz,ov,g,q3⟩=>yT ?_))))
 exact zjU hu N g ry rz λw' s4 O D=>{_,L,O,D,q3}
end
section
variable{X:Cx}{e:List (Addr×Obj)}{σ:St}{H:Hp}{s:Shared}{a:Addr}{f:List (Key×V)}{A:Around}{E:Value->Shared->Prop}
end
section
variable{X:Cx}{e:List (Addr×Obj)}{σ:St}{H:Hp}{s:Shared}{a:Addr}{y:V}{u:Value}{A:Around}{E:Value->Shared->Prop}
end
end L2
namespace PySem
open PySem PySem.W PySem.Calls PyProof.Rows PyProof.V PySem.Spec
end PySem
namespace L2
open PySem PySem.Spec PyProof.Rows
section
variable{X:Cx}
end
section
variable{X:Cx}{e:Expr}
end
section
variable{X:Cx}
inductive Jj(K:W.Frag)(f:List V)(H:Hp)(Q:VK):Prop
 | mk (p:Addr) (e:List Int) (_:f=[.ref p]) (_:SqL K H p (e.map V.int)) (_:e≠[]) (_:∀m:Int,m∈e->(∀a∈e,m<=a)->Q (.int m) H):Jj K f H Q
theorem zeo(hc:X.calm=true):jD X (.builtin "min") (Jj X.K):=by
 intro Y s σ H xs us Q I r h;obtain⟨p,B,rfl,hq,J,q⟩:=h;obtain⟨u,rfl,M⟩:=vX r;cases(show u=_ from M)
 obtain⟨f,rv,pl,_⟩:=I.list hq;have G:=pl.isList;have L:p≠s.heap.objs.size:=by
  obtain⟨o,e,_⟩:=G;exact zN (zK e)
 have U:f.length=B.length:=by have:=rv.length;rw[zm] at this;omega
 have h0:0<B.length:=W8.mpr J;have D:p<s.heap.objs.size:=by
  obtain⟨o,e,_⟩:=G;exact zK e
 refine call_min_walk (wpAny_pyIter_list G ?_)
 have C:∀i v,f.toArray[i]? =some v->∃t,v=Value.int (B.getD i 0) t:=by
  intro i v E;have e1:f[i]? =some v:=by simpa using E
  have O:i<B.length:=by
   have h1:=(zO.mp e1).1;omega
  have e2:(B.map V.int)[i]? =some (.int B[i]):=by simp[O]
  obtain⟨u',N,M⟩:=rv.get e2;rw[e1] at N;cases N;obtain⟨t,rfl⟩:=M;exact{t,by simp[O]}
 refine{s.heap.objs.size,_,_,_,_,_,λi j=>decide (B.getD i 0<B.getD j 0),rfl,QH (prog:=X.prog) (w:=X.w) (A:=X.A.in1) 0#Q _ p L f.toArray,{{_,qo _ rfl,rfl,rfl},G.push _},?_,?_,CmpOf.ints_lt (λi=>B.getD i 0) C,λv h' tk E hk=>?_}
 .intro b hb
  show b<(s.heap.push _).objs.size;rw[jq];rcases zP.mp hb with rfl | hb
  .exact wP _
  .rcases zP.mp hb with rfl | hb
   .exact vP D
   .cases hb
 .show 0<f.toArray.size
  rw[zW];omega
 .obtain⟨t,rfl⟩:=C _ v E
  obtain⟨h1,h2⟩:=argBest_lt (λi=>B.getD i 0) (f.toArray.size-1)
  rw[zW] at h1 h2 E;refine{.int _,H,I.kept (old_kept hk),⟨t,rfl⟩,q _ ?_ λa ha=>?_}
  .rw[zW]
   have hb:argBest (λi j=>decide (B.getD i 0<B.getD j 0)) (f.length-1)<B.length:=()
   rw[Jd,vo hb];exact xP _
  .rw[zW]
   obtain⟨j,hj,rfl⟩:=XO ha;have:=h2 j ()
   rw[show B.getD j 0=B[j] by simp[hj]] at this
   exact this
end
section
variable{X:Cx}
variable{e st:Expr}{t:TE}{u:TO}{f o:Pos}
end
end L2
namespace PySem
def RawD(h:Heap)(d:Addr)(f:Array DictEntry)(e:Nat):Prop:=∃o,h.get? d=some o/\o.ExactDict/\o.data=.dict f e
theorem RawD.at{h u:Heap}{d:Addr}{t:Array DictEntry}{f:Nat}(x:RawD h d t f)(e:∀o,h.get? d=some o->u.get? d=some o):RawD u d t f:=let ⟨o,a,b⟩:=x;{o,e _ a,b}
section
variable{u:Program}{w:World}{A:Around}{E:Value->Shared->Prop}{s:Shared}{d t:Addr}{f:Array DictEntry}{B i:Nat}
theorem YU{Q:Value->Shared->Prop}(hd:(d==sysModules)=false)(hm:RawD s.heap d f B)
  (D:Q 0#m { s with heap:=s.heap.push { cls:=.type "dict_keyiterator",data:=.fields #[.ref d,.int 0 0,.int f.size 0,.int B 0] } }):wpAny (model u w) A (pyIter (.ref d)) Q E s:=by
 obtain⟨o,C,hc,e⟩:=hm;have ty:s.TypeIs (.ref d) "dict" :=⟨o,C,hc.1⟩;refine wpAny_pyIter_slot ty F.slot_dict_iter (jG F.slot_dict_iter ty F.entry_dict_iter ?go (F.args_dict_iter_1 _))
 unfold Builtin.«dict.__iter__» Builtin.Dict.dictSlotNone;refine zc (zc (wpAny_notOrdered_dict ty ?go2));refine(zg ?go3:wpAny _ _ (pure (Value.ref d)) _ _ s)
 refine(?go7:wpAny _ _ (Builtin.Dict.showsAll d >>= _) _ _ s);unfold Builtin.Dict.showsAll
 rw[zq (by rw[hd];exact jr)];refine zc (zg ?go5)
 refine zc (ZW C e (zc (QK C e (zc (jv (zg {_,rfl, "dict_keyiterator",_,{_,qo _ rfl,rfl},XS.lookup,?go6}))))))
 simpa [rawInt] using D
theorem YV{e:DictEntry}{Q:Option Value->Shared->Prop}(G:s.heap.IsKeyIter t d i f.size B)(hm:RawD s.heap d f B)(hx:f[i]? =some e)
  (N:∀I,I.IsKeyIter t d (i+1) f.size B->Heap.SameBut t s.heap I->Q (some e.key) { s with heap:=I }):wpAny (model u w) A (pyNext (.ref t)) Q E s:=by
 obtain⟨o,J,hc,hd⟩:=id G;obtain⟨Y,H,O,D⟩:=hm;have ty:=G.typeIs;obtain⟨U,M⟩:∃h:i<f.size,f[i]=e:=XR.mp hx;unfold pyNext;refine zc (wN (vn (name:=Str.ofString "__next__") ty XS (jG XS ty zgy ?a (zgA _))))
 refine zc (zg ?a1);refine zc (zc ?a2)
 first| refine zc (wpAny_typeNameOfWhole_keyiter ty (zg ?a3)) | refine zc (wpAny_typeNameOf_keyiter ty (zg ?a3))
 refine zc (wpAny_fieldsOf J hd ?a4)
 simp only[show Builtin.Dict_items.ownsTuple "dict_keyiterator" = false by decide,x5,if_false]
 refine(?a5:wpAny _ _ (if(Value.ref d==Value.none)=true then _ else _) _ _ s)
 rw[zq (show ¬((Value.ref d==Value.none)=true) from jr)];refine zc (zg (zc (ZW H D ?a6)))
 rw[zq 1e3];refine zc (zg (zc (QK H D ?a7)))
 rw[zq 1e3];refine zg ?a8
 simp only[show ¬((i:Int)<0) from (),if_false,jC,jY U];refine zc ?a9
 first| refine zc (wpAny_typeNameOfWhole_keyiter ty (zg ?b1)) | refine zc (wpAny_typeNameOf_keyiter ty (zg ?b1))
 refine zc (wpAny_isOneOf_keyiter ty ?b2);refine(?b3:wpAny _ _ (setField (.ref t) 1 (rawInt ((i:Int)+1)) >>= _) _ _ s)
 have C:(s.heap.update t (Obj.mapFields (·.setIfInBounds 1 (rawInt ((i:Int)+1))))).IsKeyIter t d (i+1) f.size B:=
  {_,xG _ J (zbR (XN hd _)),(zbH ..).trans hc,(by rw[XN hd];simp[rawInt])}
 refine zc (vV J hd 1e3 (zc (jy (zc (wpAny_isOneOf_keyiter (s:={ s with heap:=s.heap.update t (Obj.mapFields (·.setIfInBounds 1 (rawInt ((i:Int)+1)))) }) C.typeIs ?b4)))))
 refine(?b5:wpAny _ _ (pure f[i].key) _ _ _)
 rw[M];exact zg (zg {_,rfl,zg (N _ C (yI ..))})
theorem zcD{Q:Option Value->Shared->Prop}(M:A.handled=none)(C:s.heap.IsKeyIter t d i f.size B)(hm:RawD s.heap d f B)(hx:f.size<=i)
  (J:∀G,Heap.ExtBut t s.heap G->Q none { s with heap:=G }):wpAny (model u w) A (pyNext (.ref t)) Q E s:=by
 obtain⟨o,H,hc,hd⟩:=id C;obtain⟨N,D,L,e⟩:=hm;have ty:=C.typeIs;unfold pyNext;refine zc (wN (vn (name:=Str.ofString "__next__") ty XS (jG XS ty zgy ?a (zgA _))))
 refine zc (zg ?a1);refine zc (zc ?a2)
 first| refine zc (wpAny_typeNameOfWhole_keyiter ty (zg ?a3)) | refine zc (wpAny_typeNameOf_keyiter ty (zg ?a3))
 refine zc (wpAny_fieldsOf H hd ?a4)
 simp only[show Builtin.Dict_items.ownsTuple "dict_keyiterator" = false by decide,x5,if_false]
 refine(?a5:wpAny _ _ (if(Value.ref d==Value.none)=true then _ else _) _ _ s)
 rw[zq (show ¬((Value.ref d==Value.none)=true) from jr)];refine zc (zg (zc (ZW D e ?a6)))
 rw[zq 1e3];refine zc (zg (zc (QK D e ?a7)))
 rw[zq 1e3];refine zg ?a8
 simp only[show ¬((i:Int)<0) from (),if_false,jC,QU hx];refine zc ?a9
 first| refine zc (wpAny_typeNameOfWhole_keyiter ty (zg ?b1)) | refine zc (wpAny_typeNameOf_keyiter ty (zg ?b1))
 refine(?b3:wpAny _ _ (setField (.ref t) 0 .none >>= _) _ _ s);refine zc (vV H hd 1e3 ?b4)
 refine(?b5:wpAny _ _ (newExc (.type "StopIteration") [] >>= _) _ _ _);refine zc ?b6
 simp only[newExc,newTuple];refine zc (jv ?b7 (by size_fits))
 refine zc (m:=firstArgMember _ _) (vS (a:=Value.none) (by first| rfl | (simp only[firstArgMember];rfl)) (jv ?b8 (by size_fits)))
 simp only[raiseNew];refine zc (QI ?b9)
 rw[show A.in1.handled=none from M];refine zc (zg (yK ?c1))
 exact zc (xC (T:= "StopIteration") (b:=true) {_,qo _ rfl,rfl} isSubtype_stop (zg (J _ (((yI ..).extBut.push _).push _))))
end
end PySem
namespace L2
open PySem PySem.Spec PyProof.Rows
section
variable{X:Cx}{e:Expr}
end
section
variable{e:Program}{w:World}{A:Around}{R:Result->Shared->Prop}{s:Shared}
end
section
variable{X:Cx}{M Y G f:Expr}{t:List Expr}{O w:Expr}{A:List Expr}{scope:Scope}{D:Pos}{wi J:TI}{g L:TG}{N E:TT}{Q U:TE}
theorem Xv{ab:List (Addr×Obj)}{σ:St}{H:Hp}{s:Shared}{fp:List Addr}(own fr:List Str)(js:List Nat)(I:Inv X ab σ H s)(B:zgJ scope.names X.env.scope.names X.N fr js)(hk:scope.kind=.function)
  (f2:∀b∈fp,jH X ab H b) (fl:∀b∈fp,b<s.heap.objs.size) {C:Addr} (hC:C=s.heap.objs.size) {h1:Heap} {m:Str->Option Value} (ah:h1.Ns C m) (k4:∀b o,s.heap.get? b=some o->h1.get? b=some o) {t4:Nat} :
  Inv (zB X (own++fr) scope C s H fp) [] 0#R H { s with heap:=h1,toks:=t4 }:=by
 have aa:∀y∈scope.names,y.2=NameKind.free->∃c,X.env.cells.lookup y.1=some c:=λy hy e=>I.ok.has y.1 (B.free y hy e)
 refine{{I.ok.mod,hk,I.ok.glob,I.ok.blt,vT hC.symm,λx y c e1 e2=>?_,λx hx=>?_,λx c hf=>(nomatch hf),λhc=>I.ok.hd hc,I.ok.frames,.inl rfl,λb hb=>?_,I.bs,jx I.ok.bsz I.sz,λb o e hb=>?_,λb hb hf=>?_,I.stack,I.stkFree},
  rfl,I.bare,Un.kept k4,{m,ah,λi x v e1 e2 ai=>?_},λx c e=>?_,?_,λx c e=>?_,λp hp=>absurd (show p∈([]:List 0#p) from hp) 1e3,I.hok.kept k4,?_}
 .exact I.ok.inj x y c (zV e1 aa) (zV e2 aa)
 .obtain⟨k,e,z⟩:∃k,scope.names.lookup x=some k/\(k=.free):=by
   rcases hx with hx | hx
   .obtain⟨k,e,z⟩:=vJ hx
    rcases z with z | z
    .subst z;exact absurd rfl (B.cell _ (yf e))
    .exact⟨k,e,z.1⟩
   .obtain⟨k,e,z⟩:=vJ hx
    rcases z with z | z
    .subst z;exact{_,e,rfl}
    .exact⟨k,e,z.1⟩
  subst z;exact{_,vG e}
 .refine{by rw[hC];exact zN (fl b hb),λx c e=>?_}
  exact(f2 b hb).2.2.2.2.1 x c (zV e aa)
 .rcases(f2 b hb).2.2.2.1 with z | z
  .exact I.ok.noex b o e z
  .exact absurd (jM (zK (I.ok.bs b o e).1) z) (xM _)
 .rcases zP.mp (I.stkSub b hf) with y | y
  .exact(f2 b hb).2.1 y
  .exact(f2 b hb).2.2.1 y
 .obtain⟨hn,_,j,ej,es⟩:=vH e2
  have ex:fr[i-own.length]? =some x:=by rw[xr hn] at e1;exact e1
  obtain⟨ac,j',ae,eN⟩:=B.fr _ x ex;have:j'=j:=by rw[ej] at ae;exact(jL ae).symm
  subst this;have af:=B.free _ (yf ac) rfl;obtain⟨m0,_,hl⟩:=I.loc;obtain⟨u,r,l⟩:=hl j' x v eN es (by rcases af with z | z;exact .inr (.inl z);exact .inr (.inr z))
  refine{u,r,.inr ?_}
  rcases l with ⟨kl,_⟩ | ⟨_,c,ec,o,eo,ed⟩
  .have ag:X.env.scope.names.lookup x=some .local:=kl
   rcases af with z | z
   .exact absurd (z.symm.trans ag) 1e1
   .exact absurd (z.symm.trans ag) 1e1
  .obtain⟨k',e',z⟩:=wR (env:=X.env) ac
   have eq:(qX X.env.cells scope.names []).lookup x=some c:=by rw[vG ac,ec];rfl
   refine{?_,c,eq,o,k4 c o eo,ed}
   rcases z with z | z
   .subst z;exact .inl e'
   .subst z;exact .inr e'
 .obtain⟨v,o,eo,ed⟩:=I.cell x c (zV e aa)
  exact{v,o,k4 c o eo,ed}
 .exact I.hok.fresh (vT hC.symm)
 .exact I.freeC x c (zV e aa)
 .rw[V9,<- B.len]
  show _=(own++fr).length;rw[qu]
end
abbrev jV(X:Cx)(e:List Str)(scope:Scope)(x:Str)(C:Addr)(s:Shared)(H:Hp)(ex:List Addr):Cx where
 prog:=X.prog
 w:=X.w
 K:=X.K
 mg:=X.mg
 base:=X.base
 A:=X.A
 N:=e
 s₀:=s
 H₀:=H
 env:=compEnvC scope ((x,C+1)::qX X.env.cells scope.names []) C X.env
 outer:=X.stack
 stack:=X.stack
 ex:=ex
 fn:=λy=>y==x
 calm:=X.calm
 pn:=[]
 xe:=λ_ _=>False
def WL(sn on:List (Str×NameKind))(N:List Str)(x:Str)(e:List Str)(f:List Nat):Bool:=
 (sn.filter λy=>y.2==.cell)==[(x,.cell)]&&sn.lookup x==some .cell&&decide ([x]++e).Nodup&&sn.all (λy=>(y.2 != .local||sn.lookup y.1==some .local)&&(y.2 != .free||(on.lookup y.1==some .cell||on.lookup y.1==some .free)))&&e.length==f.length
  && (e.zip f).all λp=>sn.lookup p.1==some .free&&N[p.2]? ==some p.1
structure BlkOkC(sn on:List (Str×NameKind))(N:List Str)(x:Str)(fr:List Str)(js:List Nat):Prop where
 one:(sn.filter λy=>y.2==.cell)=[(x,.cell)]
 lk:sn.lookup x=some .cell
 nd:([x]++fr).Nodup
 loc:∀y∈sn,y.2=NameKind.local->sn.lookup y.1=some .local
 free:∀y∈sn,y.2=NameKind.free->on.lookup y.1=some .cell\/on.lookup y.1=some .free
 len:fr.length=js.length
 fr:∀(k:Nat) (x:Str),fr[k]? =some x->sn.lookup x=some .free/\∃j:Nat,js[k]? =some j/\N[j]? =some x
theorem BlkOkC.is{sn on:List (Str×NameKind)}{N:List Str}{x:Str}{f:List Str}{o:List Nat}(B:BlkOkC sn on N x f o){y:Str×NameKind}(h:y∈sn)(e:y.2=.cell):y.1=x:=by
 have:y∈sn.filter λy=>y.2==.cell:=xO.mpr {h,by rw[e];rfl}
 rw[B.one,zR] at this;rw[this]
theorem VX{sn on:List (Str×NameKind)}{N:List Str}{x:Str}{o:List Str}{f:List Nat}(h:WL sn on N x o f=true):BlkOkC sn on N x o f:=by
 unfold WL at h;simp only[jX,xD,xY,decide_eq_true_eq] at h;obtain⟨⟨⟨⟨⟨h0,h1⟩,w⟩,h2⟩,h3⟩,u⟩:=h;refine{h0,h1,w,λy hy e=>?_,λy hy e=>?_,h3,λk x e=>?_}
 .have:=(h2 y hy).1
  simp only[WV,bne_iff_ne,xY] at this;exact this.resolve_left λz=>z e
 .have:=(h2 y hy).2
  simp only[WV,bne_iff_ne,xY] at this;exact this.resolve_left λz=>z e
 .have hk:k<o.length:=(zO.mp e).1
  have t:k<f.length:=()
  have hm:(x,f[k])∈o.zip f:=by
   refine qw (i:=k) ?_
   rw[zgq];exact{e,by simp[t]}
  have:=u _ hm;exact{this.1,f[k],by simp[t],this.2}
theorem Xp:∀{names:List (Str×NameKind)} (n:Nat) (f:List (Str×Addr)) (h:Heap),(names.filter λy=>y.2==.cell)=[]->cellsFrom n names f=f/\pushCells h names=h
 | [],_,_,_,_=>⟨rfl,rfl⟩
 | (a,k)::r,n,f,h,e=>by
  by_cases q:(k==NameKind.cell)=true
  .rw[QM,zt (show((a,k).2==NameKind.cell)=true from q)] at e
   cases e
  .rw[QM,zq (show ¬((a,k).2==NameKind.cell)=true from q)] at e
   unfold cellsFrom pushCells;rw[zq q,zq q];exact Xp n f h e
theorem VT{x:Str}:∀{names:List (Str×NameKind)} (n:Nat) (f:List (Str×Addr)) (h:Heap),(names.filter λy=>y.2==.cell)=[(x,.cell)]->cellsFrom n names f=(x,n)::f/\pushCells h names=h.push { cls:=.type "cell",data:=.cell none }
 | [],_,_,_,e=>by cases e
 | (a,k)::r,n,f,h,e=>by
  by_cases q:(k==NameKind.cell)=true
  .rw[QM,zt (show((a,k).2==NameKind.cell)=true from q)] at e
   injection e with e1 e2;cases e1;unfold cellsFrom pushCells;rw[zt q,zt q];exact Xp _ _ _ e2
  .rw[QM,zq (show ¬((a,k).2==NameKind.cell)=true from q)] at e
   unfold cellsFrom pushCells;rw[zq q,zq q];exact VT n f h e
theorem zba{M:Model}{A:Around}{E:Value->Shared->Prop}{s:Shared}{scope:Scope}{globals:Addr}{f:List (Str×Addr)}{qual:Str}{e:Env}{x:Str}{Q:Env->Shared->Prop}(t:(scope.names.filter λy=>y.2==.cell)=[(x,.cell)])
  (w:Q { scope:=scope,locals:=s.heap.objs.size,globals:=globals,cells:=(x,s.heap.objs.size+1)::f,qual:=qual,func:=none,code:=e.code,frame:=e.frame,builtins:=e.builtins } { s with heap:=(s.heap.push { cls:=.type "dict",data:=.dict #[] }).push { cls:=.type "cell",data:=.cell none } }) :
  wpAny M A (newFunctionEnv scope globals f [] qual none .none (some e)) Q E s:=by
 simp only[newFunctionEnv,Option.isSome_some,if_true];refine zc (wpAny_alloc (zc (wpAny_layCells _ (λu kind cells=>by cases o:kind==NameKind.cell<;>simp[o]) _ _ _ _ ?_)))
 obtain⟨e1,e2⟩:=VT (names:=scope.names) (x:=x) (s.heap.push { cls:=.type "dict",data:=.dict #[] }).objs.size f (s.heap.push { cls:=.type "dict",data:=.dict #[] }) t;rw[e1,e2,jq];exact zc (zg (zg w))
theorem ZA{e:Env}{x:Str}:∀{names:List (Str×NameKind)},names.lookup x=some .cell->(names.map λ(n,k)=>if(k==NameKind.free&&e.scope.kind==.function&&e.kindOf n==some .cell) then(n,NameKind.cell) else(n,k)).lookup x=some .cell
 | [],h=>by simp at h
 | (n,k)::r,h=>by
  show List.lookup x ((if(k==NameKind.free&&e.scope.kind==.function&&e.kindOf n==some .cell)=true then(n,NameKind.cell) else(n,k))::_)=some NameKind.cell
  by_cases hx:(x==n)=true
  .rw[jO,hx] at h
   cases(jL h);split<;>simp[jO,hx]
  .have f:(x==n)=false:=by simpa using hx
   rw[jO,f] at h;split
   .rw[jO,f];exact ZA h
   .rw[jO,f];exact ZA h
section
variable{X:Cx}{t J f:Expr}{w:List Expr}{scope:Scope}{A:Pos}{L:TI}{g:TG}{G:TT}{E:TE}{x:Str}
theorem zbt{Q:List (Addr×Obj)}{σ:St}{H:Hp}{s:Shared}{fp:List Addr}(fr:List Str)(js:List Nat)(I:Inv X Q σ H s)(B:BlkOkC scope.names X.env.scope.names X.N x fr js)(hk:scope.kind=.function)
  (f2:∀b∈fp,jH X Q H b) (fl:∀b∈fp,b<s.heap.objs.size) {D C:Addr} (hD:D=s.heap.objs.size) {h3 h1:Heap} (e3:h3=s.heap.push { cls:=.type "list",dict:=none,data:=.seq ([]:List Value).toArray }) (Y:C=h3.objs.size)
  {m:Str->Option Value} (ai:h1.Ns C m) (aa:h1.IsCell (C+1) none) (k4:∀b o,h3.get? b=some o->h1.get? b=some o) {t4:Nat} :
  Inv (jV X ([x]++fr) scope x C { s with heap:=h3 } H (D::fp)) [] (upS 1 js σ) H { s with heap:=h1,toks:=t4 }:=by
 have k3:∀b o,s.heap.get? b=some o->h3.get? b=some o:=λb o e=>by rw[e3];exact zH _ e
 have I3:Inv X Q σ H { s with heap:=h3 }:=I.kept (t':=s.toks) k3;have hz:h3.objs.size=s.heap.objs.size+1:=by rw[e3,jq]
 have M:∀y∈scope.names,y.2=NameKind.free->∃c,X.env.cells.lookup y.1=some c:=λy hy e=>I.ok.has y.1 (B.free y hy e)
 have N:∀x c,X.env.cells.lookup x=some c->c<s.heap.objs.size:=λx c e=>by
  obtain⟨v,q⟩:=I.cell x c e;exact q.lt
 have ab:∀y c,(qX X.env.cells scope.names []).lookup y=some c->c<C:=λy c e=>by
  have:=N y c (zV e M);rw[Y,hz];exact vP this
 have look:∀y c,((x,C+1)::qX X.env.cells scope.names []).lookup y=some c->(y=x/\c=C+1)\/(y≠x/\(qX X.env.cells scope.names []).lookup y=some c):=λy c e=>by
  rw[jO] at e;by_cases q:(y==x)=true
  .rw[q] at e
   exact .inl {by simpa using q,(jL e).symm}
  .rw[(zbB _).mp q] at e
   exact .inr {λz=>q (by simpa using z),e}
 refine{{I.ok.mod,hk,I.ok.glob,I.ok.blt,vT Y.symm,λy1 y2 c e1 e2=>?_,λy hy=>?_,λy c hf e=>?_,λhc=>I.ok.hd hc,I.ok.frames,.inl rfl,λb hb=>?_,I3.bs,jx I.ok.bsz I3.sz,λb o e hb=>?_,λb hb hf=>?_,I3.stack,I3.stkFree},
  rfl,I.bare,Un.kept k4,{m,ai,λi y v e1 e2 aj=>?_},λy c e=>?_,?_,λy c e=>?_,λp hp=>absurd (show p∈([]:List 0#p) from hp) 1e3,I3.hok.kept k4,?_}
 .rcases look _ _ e1 with ⟨a1,a2⟩ | ⟨a1,a2⟩<;>rcases look _ _ e2 with ⟨b1,b2⟩ | ⟨b1,b2⟩
  .rw[a1,b1]
  .have:=ab _ _ b2
   rw[a2] at this;exact absurd this (Nat.not_lt.mpr (xH _))
  .have:=ab _ _ a2
   rw[b2] at this;exact absurd this (Nat.not_lt.mpr (xH _))
  .exact I.ok.inj _ _ c (zV a2 M) (zV b2 M)
 .by_cases q:y=x
  .subst q
   exact{C+1,by show List.lookup y ((y,C+1)::_)=_;simp[jO]}
  obtain⟨k,e,z⟩:∃k,scope.names.lookup y=some k/\(k=.free):=by
   rcases hy with hx | hx
   .obtain⟨k,e,z⟩:=vJ hx
    rcases z with z | z
    .subst z;exact absurd (B.is (yf e) rfl) q
    .exact⟨k,e,z.1⟩
   .obtain⟨k,e,z⟩:=vJ hx
    rcases z with z | z
    .subst z;exact{_,e,rfl}
    .exact⟨k,e,z.1⟩
  subst z;refine{(X.env.cells.lookup y).getD 0,?_}
  show List.lookup y ((x,C+1)::_)=_;rw[jO,show(y==x)=false from by simpa using q]
  exact vG e
 .rcases look _ _ e with ⟨a1,a2⟩ | ⟨a1,a2⟩
  .rw[a2]
   show h3.objs.size<=C+1;rw[Y];exact xH _
  .exact absurd (by simpa using hf) a1
 .have O:∀b,b<C->∀y c,((x,C+1)::qX X.env.cells scope.names []).lookup y=some c->(∀y c,X.env.cells.lookup y=some c->c≠b)->c≠b:=λb hb y c e h=>by
   rcases look _ _ e with ⟨a1,a2⟩ | ⟨a1,a2⟩
   .rw[a2];exact jW (vP hb)
   .exact h y c (zV a2 M)
  rcases zP.mp hb with z | hb
  .subst z
   refine{by rw[hD,Y,hz];exact zN (wP _),λy c e=>O _ (by rw[hD,Y,hz];exact wP _) y c e λy c e=>?_}
   have:=N y c e;rw[hD];exact zN this
  .have ag:b<C:=by rw[Y,hz];exact vP (fl b hb)
   exact{zN ag,λy c e=>O _ ag y c e λy c e=>(f2 b hb).2.2.2.2.1 y c e}
 .rcases zP.mp hb with z | hb
  .have:=zK (I.bk b o e)
   rw[z,hD] at this;exact xM _ this
  .rcases(f2 b hb).2.2.2.1 with z | z
   .exact I.ok.noex b o e z
   .exact absurd (jM (zK (I.ok.bs b o e).1) z) (xM _)
 .have ae:=zP.mp (I.stkSub b hf)
  rcases zP.mp hb with z | hb
  .rcases ae with y | y
   .have:=I.lt
    rw[<- y,z,hD] at this;exact xM _ this
   .exact I.nofs (a:=b) (by rw[z,hD];exact zx _) y
  .rcases ae with y | y
   .exact(f2 b hb).2.1 y
   .exact(f2 b hb).2.2.1 y
 .obtain⟨hn,_,j,ej,es⟩:=vH e2
  have ex:fr[i-1]? =some y:=by
   rw[xr (show([x]:List Str).length<=i from hn)] at e1
   exact e1
  obtain⟨U,j',ac,eN⟩:=B.fr _ y ex;have:j'=j:=by rw[ej] at ac;exact(jL ac).symm
  subst this;have af:=B.free _ (yf U) rfl;obtain⟨m0,_,hl⟩:=I.loc;obtain⟨u,r,l⟩:=hl j' y v eN es (by rcases af with z | z;exact .inr (.inl z);exact .inr (.inr z))
  refine{u,r,.inr ?_}
  have yx:y≠x:=λz=>by
   have:=B.lk;rw[<- z,U] at this;cases this
  rcases l with ⟨kl,_⟩ | ⟨_,c,ec,o,eo,ed⟩
  .have ah:X.env.scope.names.lookup y=some .local:=kl
   rcases af with z | z
   .exact absurd (z.symm.trans ah) 1e1
   .exact absurd (z.symm.trans ah) 1e1
  .obtain⟨k',e',z⟩:=wR (env:=X.env) U
   have eq:((x,C+1)::qX X.env.cells scope.names []).lookup y=some c:=by
    rw[jO,show(y==x)=false from by simpa using yx]
    show(qX X.env.cells scope.names []).lookup y=some c;rw[vG U,ec];rfl
   refine{?_,c,eq,o,k4 c o (k3 c o eo),ed}
   rcases z with z | z
   .subst z;exact .inl e'
   .subst z;exact .inr e'
 .rcases look _ _ e with ⟨a1,a2⟩ | ⟨a1,a2⟩
  .rw[a2];exact⟨none,aa⟩
  .obtain⟨v,o,eo,ed⟩:=I.cell y c (zV a2 M)
   exact{v,o,k4 c o (k3 c o eo),ed}
 .exact I3.hok.fresh (vT Y.symm)
 .rcases look _ _ e with ⟨a1,a2⟩ | ⟨a1,a2⟩
  .rw[a2]
   exact I3.hok.fresh (by show h3.objs.size<=C+1;rw[Y];exact xH _)
  .exact I.freeC y c (zV a2 M)
 .rw[V9,<- B.len]
  show _=([x]++fr).length;rw[qu];rfl
end
end L2
namespace L2
end L2
namespace L2
open PySem PySem.W PySem.Spec PyProof.Rows
abbrev bmV:List Value:=[.type "ValueError",.type "Exception",.type "BaseException",.type "object"]
def zlb(K:Frag)(C:Addr)(f:Option Value):Bool:=match K.lookup C with
 | some ⟨.type "type",_,.cls e,u⟩=>(match e.mro with
  | .ref o::t=>(match u.toList with
   | [_,_,_,_,some (.builtin n),_]=>o==C&&(n == "ValueError.__new__" && (!e.hasDel&&(tailIn K bmV t&&(nsOkIn K e.ns&&nsIn K e.ns "__init__" == some f))))
   | _=>false)
  | _=>false)
 | _=>false
structure Xc(h:Heap)(C:Addr)(ini:Option Value):Prop where
 is:∃(bm:List Value) (N:Addr) (nm qn:Str) (bs:List Value) (hd:Bool) (sn:List Str) (sub:List Value) (ab:Bool) (col:Option Bool) (dd:Option Addr) (k0 k1 k2 k3 k5:Option Value) (mN:Str->Option Value),
  h.get? C=some (excClassObj nm qn C N bs bm hd sn sub ab col dd k0 k1 k2 k3 k5 "ValueError.__new__")/\h.Ns N mN/\mN "__init__" = ini/\OwnTail h bmV bm
end L2
namespace L2
open PySem PySem.W PySem.Spec PyProof.Rows
section
variable{P:Program}{w:World}{H:Hp}{h t:Heap}{a:Addr}{o:HO}
theorem ObjOk.has(x:ObjOk P w H h a o):∃u,h.get? a=some u:=by
 cases o with
 | lst D=>obtain⟨_,_,_,_,e⟩:=x;exact{_,e}
 | tup D=>obtain⟨_,_,_,⟨u,e,_⟩,_⟩:=x;exact⟨u,e⟩
 | dK A=>obtain⟨_,_,_,_,u,_,_,e,_⟩:=x;exact⟨u,e⟩
 | dT A=>obtain⟨_,_,_,_,u,_,_,e,_⟩:=x;exact⟨u,e⟩
 | set S n=>obtain⟨u,_,_,_,e,_⟩:=x;exact⟨u,e⟩
 | ins C E B=>obtain⟨_,_,_,e,_⟩:=x;exact{_,e}
 | own y=>obtain⟨u,e⟩:=x;exact⟨u,e⟩
 | xd B=>obtain⟨_,⟨u,_,_,e,_⟩,_⟩:=x;exact⟨u,e⟩
 | rng lo G=>obtain⟨_,_,_,e⟩:=x;exact{_,e}
 | frz I u=>obtain⟨e,_⟩:=x;exact{_,e}
 | tbl J=>exact{_,show h.get? a=some _ from x}
 | met f y=>exact{_,show h.get? a=some _ from x}
 | ext φ=>obtain⟨_,⟨u,e⟩,_⟩:=x;exact⟨u,e⟩
theorem HOk.none_of(x:HOk P w H h)(e:h.get? a=none):H a=none:=by
 cases q:H a with
 | none=>rfl
 | some u=>obtain⟨z,f⟩:=(x a u q).has;rw[e] at f;cases f
end
section
variable{X:Cx}{f:List (Addr×Obj)}{σ:St}{H:Hp}{s:Shared}{t:Heap}
theorem Inv.laidN{a:Addr}{o:HO}{t':Nat}(I:Inv X f σ H s)(k:∀b u,s.heap.get? b=some u->t.get? b=some u)(B:s.heap.get? a=none)(A:ObjOk X.prog X.w (upd H a o) t a o) :
  Inv X f σ (upd H a o) { s with heap:=t,toks:=t' }:=by
 have D:=I.hok.none_of B;have ne:∀b u,s.heap.get? b=some u->b≠a:=λb u q z=>by rw[z,B] at q;cases q
 have w:∀b u,H b=some u->b≠a:=λb u q z=>by rw[z,D] at q;cases q
 refine I.un {λb u q _ _ _=>k b u q,λb u q _ _ _=>{u.slots,k b u q},λb u q n _=>by rw[zj (ne b u q)];exact n,λb u q _=>{u,k b u q},
  λb C q=>by rw[zj (w b _ q)];exact q,λb u C q=>by rw[zj (w b _ q)];exact q,λb E q=>{#[],by rw[zj (w b _ q),q];simp}} ?_
 intro b u e;by_cases hb:b=a
 .subst hb;rw[zd] at e;cases e;exact A
 .rw[zj hb] at e
  exact(I.hok b u e).stay (λc v _ q=>k c v q) (λc q=>by rw[zj (w c _ q)];exact q) λc C q=>by rw[zj (w c _ q)];exact q
end
section
variable{e:Program}{w:World}{A:Around}{E:Value->Shared->Prop}{h:Heap}{g:Array GenState}{d:Drawn}{t:Nat}{os:OsState}{C:Addr}
end
section
variable{f:Program}{w:World}{A:Around}{E:Value->Shared->Prop}{h:Heap}{g:Array GenState}{d:Drawn}{t:Nat}{os:OsState}
variable{O q:Str}{C N:Addr}{D B:List Value}{e:Bool}{sn:List Str}{sub:List Value}{u:Bool}{o:Option Bool}{G:Option Addr}{H I J L M:Option Value}
end
end L2
namespace L2
open PySem PySem.W PySem.Spec PyProof.Rows
structure XK2(K:Frag)(C:Addr)(ini:Option Value):Prop where
 cls:zlb K C ini=true
 sa:findIn K (.ref C) "__setattr__" = some (some (.builtin "object.__setattr__"))
 ga:findIn K (.ref C) "__getattribute__" = some (some (.builtin "BaseException.__getattribute__"))
 gh:findIn K (.ref C) "__getattr__" = some none
 ob:mroIn K C (.type "object")=some true
 be:mroIn K C (.type "BaseException")=some true
 hd:hasDictIn K C=true
section
variable{o:Program}{w:World}{A:Around}{E:Value->Shared->Prop}{h:Heap}{g:Array GenState}{d:Drawn}{t:Nat}{os:OsState}{K:Frag}{C e B:Addr}{u:Option Value}{f:Str}{v:Value}
end
end L2
namespace L2
open PySem PySem.W PySem.Spec PyProof.Rows
section
variable{o:Program}{w:World}{A:Around}{E:Value->Shared->Prop}{h:Heap}{g:Array GenState}{d:Drawn}{t:Nat}{os:OsState}{K:Frag}{C e H B:Addr}{G:Option Addr}{u:Option Value}{f:Str}{v:Value}{D:Str->Option Value}
end
end L2
namespace L2
open PySem PySem.W PySem.Spec PyProof.Rows
structure XKc(K:Frag)(C:Addr):Prop where
 lk:findIn K (.ref C) "__class__" = some (some (.builtin "object.__class__"))
 gt:specialIn K (.builtin "object.__class__") "__get__" = some (some (.builtin "getset_descriptor.__get__"))
 tk:takesIn K (.builtin "object.__class__")=some true
section
variable{f:Program}{w:World}{A:Around}{E:Value->Shared->Prop}{h:Heap}{g:Array GenState}{d:Drawn}{t:Nat}{os:OsState}{K:Frag}{C u e G:Addr}{B:Option Addr}{o:Option Value}{D:Option Obj}
end
end L2
namespace L2
open PySem PySem.W PySem.Spec PyProof.Rows
structure XOk(K:Frag)(C:Addr)(ini:Option Value):Prop where
 k:XK2 K C ini
 c:XKc K C
 kp:keepIn K (.ref C)=true
 ty:typeIn K (.ref C)=some (.type "type")
 cd:∃cd,clsIn K C=some cd
 ve:mroIn K C (.type "ValueError")=some true
section
variable{X:Cx}{G:CXT}{k:Nat}{f C:Addr}{J:FuncData}{L:List Str}{H:List Value}{A:List V}{M:Sp}{E:XK}{x m:Str}{p D w:Pos}{e o u:Expr}{I:List Expr}{t:TA}{N O:TE}{B:Option Value}
end
end L2
namespace L2
open PySem PySem.W PySem.Spec PyProof.Rows
section
variable{X:Cx}
inductive zaD(K:W.Frag)(x:V)(y:V)(H:Hp)(Q:VK):Prop
 | mk (a b:Addr) (e:List V) (_:x=.ref a) (_:y=.ref b) (_:SqL K H a e) (_:SqL K H b e) (_:e.all xB=true) (_:(∀v∈e,eqV v v=true)) (_:Q (.bl false) H):zaD K x y H Q
theorem zjl(hu:X.A.units<cLine):OpR X (compareOp .NotEq) (zaD X.K):=by
 intro C s σ H x y v u Q I U Y h;obtain⟨a,b,w,rfl,rfl,hx,hy,J,G,q⟩:=h;cases U;cases Y;obtain⟨o,D,N,z1⟩:=I.list hx;obtain⟨t,E,O,z2⟩:=I.list hy;have l1:=D.length;have l2:=E.length;refine SeqAt.RcNeAt.lists (e:=λ_=>true) N.isList O.isList (by rw[zW,zW];omega) hu (λj h1 h2=>?_) _ _ _ _ {.bl _,H,I,rfl,?_}
 .have f:j<w.length:=by rw[zW] at h1;omega
  obtain⟨w1,e1,q1⟩:=D.get (i:=j) (x:=w[j]) (by simp[f])
  obtain⟨w2,e2,q2⟩:=E.get (i:=j) (x:=w[j]) (by simp[f])
  have L:o.toArray[j]=w1:=by simpa using (zO.mp e1).2
  have M:t.toArray[j]=w2:=by simpa using (zO.mp e2).2
  have B:=xD.mp J _ (xP f);have z:=WF (A:=X.A.in1) (s:=s) q1 q2 B B;rw[G _ (xP f)] at z;rw[L,M];exact z
 .rw[show((List.range o.toArray.size).all λ_=>true)=true from xD.mpr λ_ _=>rfl]
  exact q
end
structure Xs(K:Frag)(mg:Str->Option Value)(x:Str)(C:Addr)(ini:Option Value):Prop where
 ok:XOk K C ini
 gl:mg x=some (.ref C)
structure XsI(P:Program)(w:World)(K:Frag)(mg:Str->Option Value)(base:Heap)(x:Str)(C f:Addr)(k:Nat)(ps:List Str)(sp:Sp):Prop extends Xs K mg x C (some (.ref f)) where
 ex:∃fd oF,FnOk P w K mg base CX0 k f fd ps sp/\K.lookup f=some oF/\oF.cls=.type "function" /\ Binds K fd ps []
section
variable{X:Cx}{x:Str}{k:Nat}{C f:Addr}{w:List Str}{A:Sp}{p o:Pos}{e:Expr}{u:List Expr}{t:TA}
end
end L2
namespace L2
open PySem PySem.Spec PyProof.Rows
theorem Z7:∀{f:List Value} {e:List Int},IntsAre f e->Vals (e.map V.int) f
 | _,_,.nil=>.nil
 | _,_,.cons n t r=>.cons ⟨t,rfl⟩ (Z7 r)
theorem Vg:∀{f:List Value} {e:List Str},StrsAre f e->Vals (e.map V.str) f
 | _,_,.nil=>.nil
 | _,_,.cons n t r=>.cons ⟨t,rfl⟩ (Vg r)
section
variable{X:Cx}
inductive yW(K:W.Frag)(o:List V)(H:Hp)(Q:VK):Prop
 | mk (a:Addr) (f:List Int) (_:o=[.ref a]) (_:SqL K H a (f.map V.int)) (_:f.length<64) (_:∀(p:Addr) (e:List Int),H p=none->e.Perm f->e.Pairwise (·<= ·)->Q (.ref p) (upd H p (.lst (e.map V.int)))):yW K o H Q
theorem w4:jD X (.builtin "sorted") (yW X.K):=by
 intro B s σ H Y U Q I r h;obtain⟨a,N,rfl,hx,L,q⟩:=h;obtain⟨u,rfl,J⟩:=ua r;cases(show u=Value.ref a from J)
 obtain⟨t,C,G,M⟩:=I.list hx;have w:=C.length;rw[zm] at w;refine sorted_ints G.isList (Xj C) () λf A a1 a2 a3=>?_
 obtain⟨e,D⟩:=sortedAll_at s.heap t f;have E:H 0#O=none:=I.hok.fresh (xH _);refine{.ref 0#O,_,I.laid (a:=s.heap.objs.size+1) (o:=.lst (A.map V.int)) (t':=s.toks) (λ_ _=>sortedAll_old) (xH _) {?_,f.toList,e,Z7 a1,?_},rfl,q _ A E a2 a3}
 .rw[zm,a2.length_eq,sizeLine_eq];omega
 .rw[D]
end
section
variable{f:Program}{w:World}{κ:Type}[DecidableEq κ]{e:PySem.KeyKind f w κ}{A:Around}{E:Value->Shared->Prop}{s:Shared}
theorem zeV{d:Addr}{t:List (κ×Value)}{k:κ}{N dflt:Value}{Q:Value->Shared->Prop}(u:e.is k N=true)(hm:s.heap.DictOf e d t)(ah:t.length<=sizeLine)
  (G:∀v,valueAt t k=some v->Q v { s with toks:=s.toks+1 })
  (L:valueAt t k=none->∀h',h'.DictOf e d (stored t k dflt)->Heap.SameBut d s.heap h'->Q dflt { s with heap:=h',toks:=s.toks+1 }) :
  wpAny 0#n A (dictSetDefault d N dflt) Q E s:=by
 obtain⟨o,B,ep,M,hc,hd,hk,hp,hn⟩:=id hm;obtain⟨o',af,ae,D,-,I,-,hf⟩:=hm.mapOf;rw[M] at D;injection D with D;subst D;rw[hd] at I;injection I with ab ag;subst ab;have ac:B.size<=sizeLine:=by
  have e1:=hp.length;have e2:B.toList.length=B.size:=1e3
  omega
 have U:(B.findIdx? λY=>e.is k Y.key)=t.findIdx? λp=>decide (p.1=k):=by
  obtain⟨l⟩:=B;rw[<- hp.findIdx k];simp
 unfold dictSetDefault;refine jy (zc (e.pyHash u (zc (wpAny_dictFind_of (s:={ s with toks:=s.toks+1 }) u M hd hk ?_))))
 cases O:B.findIdx? λY=>e.is k Y.key with
 | some i=>
  have J:i<B.size:=(Array.findIdx?_eq_some_iff_findIdx_eq.mp O).1
  have C:valueAt t k=(B[i]?).map (·.val):=by rw[<- hf k,findBy_of_findIdx?,O]
  rw[jY J] at C;refine zc (ZW (s:={ s with toks:=s.toks+1 }) M hd ?_)
  rw[jY J];exact zc (j9 (zg (G _ C)))
 | none=>
  have fresh:k∉t.map (·.1):=not_mem_of_findIdx_none (U▸O)
  have H:¬(t.any λkv=>decide (kv.1=k))=true:=λz=>by
   obtain⟨kv,h1,h2⟩:=ZR.mp z;exact fresh (zA.mpr {kv,h1,xF h2})
  have C:valueAt t k=none:=by rw[<- hf k,findBy_of_findIdx?,O]
  have aa:stored t k dflt=t++[(k,dflt)]:=by rw[stored,zq H]
  refine zc (j9 (zc (wpAny_updateDictKeys (s:={ s with toks:=s.toks+1 }) (hz:=ac) M hd (zg (L C _ ?_ (yI ..))))))
  rw[aa];refine{_,_,ep+1,xG _ M (Obj.isFreed_of_dict (Obj.data_mapDictKeys hd _)),hc.mapDictKeys _,Obj.data_mapDictKeys hd _,hk.push u _,?_,?_}
  .have z:=hp.append u (e.hash k) dflt
   obtain⟨l⟩:=B;simpa using z
  .rw[zG,ZV]
   refine{hn,1e3,λa ha b hb z=>fresh ?_}
   rw[show List.map (·.1) [(k,dflt)]=[k] from rfl,zR] at hb
   rw[<- hb,<- z];exact ha
end
section
variable{e:Program}{w:World}{κ:Type}[DecidableEq κ]{knd:PySem.KeyKind e w κ}
theorem zfN{d:Addr}{k:κ}{o x:Value}(u:knd.is k o=true)(G:(d==sysModules)=false) :
  MeetsIn e w (Builtin.«dict.setdefault» {[.ref d,o,x],[]}) (λ_ R s=>∃f,s.heap.DictOf knd d f/\f.length<=sizeLine/\(∀v,valueAt f k=some v->R (.ok (.ret v)) { s with toks:=s.toks+1 }) /\
   (valueAt f k=none->∀t,t.DictOf knd d (stored f k x)->Heap.SameBut d s.heap t->R (.ok (.ret x)) { s with heap:=t,toks:=s.toks+1 })):=
 .of_wp λA R s ⟨f,hm,I,h1,h2⟩=>by
  delta Builtin.«dict.setdefault» Builtin.Dict.keyAndDefault;refine zc (zc (wpAny_notOrdered_dict hm.typeIs (zg (a:=(d,o,some x)) ?_)))
  have D:¬(d==sysModules)=true:=by rw[G];exact jr
  refine(show wpAny _ _ (if(d==sysModules)=true then _ else(dictSetDefault d o x >>= _)) _ _ _ from ?_)
  rw[zq D];exact zc (zeV u hm I (λv H=>zg {v,rfl,h1 v H}) λE t B C=>zg {x,rfl,h2 E t B C})
end
section
variable{X:Cx}{A ty B:TE}{o e f:Expr}{t w:Pos}
def zlj(A ty B:TE):TE:=λσ H Q=>A σ H λx D=>∃a,x=.ref a/\IsD D a/\ty σ D λy E=>B σ E λz C=>∃u k,C a=some (.dK u)/\y=kV k/\u.length<sizeLine /\
 (∀v,qZ u k=some v->Q v C)/\(qZ u k=none->Q z (upd C a (.dK (xt u k z))))
theorem zjk(ho:PE X o A)(he:PE X e ty)(hf:PE X f B)(m:M2 X o "setdefault" t e f w):PE X (.Call (.Attribute o "setdefault" t) [e,f] [] w) (zlj A ty B):=by
 intro D s σ H Q I h;refine wpAny_Call_method m.base m.few m.line QV zgw PySem.F.type_dict_setdefault (thn (ho D s σ H _ I h) λu s1 ⟨x,H1,O,rx,a,ex,d,q1⟩=>?_)
 subst ex;obtain rfl:u=Value.ref a:=rx;obtain⟨t1,t2,_⟩:=zbh O d;refine{t1,t2,?_}
 rw[m.trees];refine Z2 rfl (QT (ye (thn (he D s1 σ H1 _ O q1) λiv s2 ⟨y,H2,I2,ry,q2⟩=>
  ye (thn (hf D s2 σ H2 _ I2 q2) λfv s3 ⟨z,H3,M,rz,C,k,Y,ey,l,g1,g2⟩=>yT ?_))))
 subst ey;obtain⟨zz,hd,vs,E,U⟩:=VS M.hok Y;have hz:vs.length<=sizeLine:=by rw[<- E.length];exact zz
 refine call_meetsIn zgw U.typeIs PySem.F.entry_dict_setdefault (PySem.F.args_dict_setdefault_3 _ _ _) (zfN (knd:=zw X.prog X.w) (wI ry) hd) {vs,U,hz,λv hv=>?_,λhn h' L hs=>?_}
 .have G:=E.val k
  rw[hv] at G;cases J:qZ C k with
  | none=>rw[J] at G;exact G.elim
  | some N=>
   rw[J] at G;exact{N,H3,M.tok _,G,g1 N J}
 .have G:=E.val k
  rw[hn] at G;have J:qZ C k=none:=by
   cases J:qZ C k with
   | none=>rfl
   | some N=>rw[J] at G;exact G.elim
  have hl:(xt C k z).length<=sizeLine:=by have:=xh C k z;omega
  have ee:∃q,h'.get? a=some q:=let ⟨q,_,_,hq,_⟩:=L;⟨q,hq⟩
  exact{z,_,wf M (by rw[Y];exact True.intro) hs ee (QB hl hd (E.put k rz) L),rz,g2 J}
end
theorem zcV{P:Program}{w:World}{k:Key}{u:Value}(h:(zw P w).is k u=true):RelV (kV k) u:=by
 rw[zbb] at h;rcases jm h with ⟨i,t,rfl,rfl⟩ | ⟨x,t,rfl,rfl⟩
 .exact⟨t,rfl⟩
 .exact⟨t,rfl⟩
theorem KV.get:∀{f:List (Key×V)} {o:List (Key×Value)} {j:Nat} {q:Key×Value},KV f o->o[j]? =some q->∃p,f[j]? =some p/\p.1=q.1/\RelV p.2 q.2
 | _,_,j,_,.nil,e=>by simp at e
 | _,_,0,_,.cons h _,e=>by simp at e;subst e;exact{_,rfl,h}
 | _,_,j+1,_,.cons _ t,e=>by
  obtain⟨p,e1,r⟩:=KV.get (j:=j) t (by simpa using e)
  exact{p,by simpa using e1,r}
theorem V8:∀{t:List V} {o:List Value},t.length=o.length->(∀(j:Nat) u,o[j]? =some u->∃x,t[j]? =some x/\RelV x u)->Vals t o
 | [],[],_,_=>.nil
 | [],_::_,h,_=>by simp at h
 | _::_,[],h,_=>by simp at h
 | x::t,u::o,h,f=>by
  refine .cons ?_ (V8 (by simpa using h) λj v e=>?_)
  .obtain⟨y,e1,r⟩:=f 0 u rfl
   cases e1;exact r
  .obtain⟨y,e1,r⟩:=f (j+1) v (by simpa using e)
   exact{y,by simpa using e1,r}
section
variable{X:Cx}
inductive Zw(f:List V)(H:Hp)(Q:VK):Prop
 | mk (a:Addr) (e:List (Key×V)) (_:f=[.ref a]) (_:Rd H a (.dK e)) (_:∀p,H p=none->Q (.ref p) (upd H p (.lst (e.map λo=>kV o.1)))):Zw f H Q
theorem zat(U:X.A.handled=none):jD X (.type "list") (Zw):=by
 intro G s σ H xs us Q I r h;obtain⟨a,B,rfl,hx,q⟩:=h;obtain⟨u,rfl,ru⟩:=ua r;cases(show u=Value.ref a from ru)
 obtain⟨zz,hd,vs,C,M⟩:=Q9 I.hok hx;obtain⟨E,L⟩:=M.dictAt;have ln:=C.length;refine PySem.W.kdl_call (PySem.W.kdl_dict (prog:=X.prog) (w:=X.w) (knd:=zw X.prog X.w) (d:=a) (kvs:=vs) (ep:=E) hd) U L () λh' tk f c A D t=>?_
 have Y:H s.heap.objs.size=none:=I.hok.fresh (zx _);refine{.ref s.heap.objs.size,_,I.laid (a:=s.heap.objs.size) (o:=.lst (B.map λkv=>kV kv.1)) (t':=tk) A (zx _) {by rw[zm];exact zz,f.toList,c,V8 ?_ ?_,by rw[D]},rfl,q _ Y}
 .have z:=t.1
  have y:f.toList.length=f.size:=jt;rw[zm];omega
 .intro j u e
  rw[vR] at e;obtain⟨k,x,e1,e2⟩:=t.2 j u e;obtain⟨p,N,O,_⟩:=KV.get C e1;exact{kV p.1,by rw[zT,N];rfl,by rw[O];exact zcV e2}
end
section
variable{X:Cx}{w ty:TE}{o e:Expr}{f t:Pos}
def zke(w ty:TE):TE:=λσ H Q=>w σ H λx B=>∃a,x=.ref a/\IsD B a/\ty σ B λy A=>∃b u more,y=.ref b/\a≠b/\A a=some (.dK u)/\A b=some (.dK more)/\u.length+more.length<=sizeLine/\Q .non (upd A a (.dK (jZ u more)))
theorem zhd(ho:PE X o w)(he:PE X e ty)(m:M1 X o "update" f e t):PE X (.Call (.Attribute o "update" f) [e] [] t) (zke w ty):=by
 intro A s σ H Q I h;refine wpAny_Call_method m.base m.few m.line QV PySem.F.slot_dict_update PySem.F.type_dict_update (thn (ho A s σ H _ I h) λu s1 ⟨x,N,E,rx,a,ex,d,q1⟩=>?_)
 subst ex;obtain rfl:u=Value.ref a:=rx;obtain⟨t1,t2,_⟩:=zbh E d;refine{t1,t2,?_}
 rw[m.trees];refine Z2 rfl (QT (ye (thn (he A s1 σ N _ E q1) λiv s2 ⟨y,H2,C,ry,b,D,more,ey,ne,J,U,l,q2⟩=>yT ?_)))
 subst ey;obtain rfl:iv=Value.ref b:=ry;obtain⟨_,sa,vs,L,G⟩:=VS C.hok J;obtain⟨_,sb,ws,M,O⟩:=VS C.hok U;have la:=L.length;have lb:=M.length;refine call_meetsIn PySem.F.slot_dict_update G.typeIs PySem.F.entry_dict_update (PySem.F.args_dict_update_2 _ _) (meets_dict_update 0#x a b ne sb) {vs,ws,G,O,(),λh' B _ hs=>?_}
 have Y:∃q,h'.get? a=some q:=let ⟨q,_,_,hq,_⟩:=B;⟨q,hq⟩
 exact{.non,_,wf (t':=s2.toks) C (by rw[J];exact True.intro) hs Y (QB (jx (xV more D) l) sa (M.merge L) B),rfl,q2}
end
theorem zcY:∀{o:List Int} {w:List Value},o.length=w.length->(∀(j:Nat) u,w[j]? =some u->∃i t,o[j]? =some i/\u=.int i t)->IntsAre w o
 | [],[],_,_=>.nil
 | [],_::_,h,_=>by simp at h
 | _::_,[],h,_=>by simp at h
 | n::o,u::w,h,f=>by
  obtain⟨i,t,e1,e2⟩:=f 0 u rfl;cases e1;subst e2;refine .cons n t (zcY (by simpa using h) λj v e=>?_)
  obtain⟨i,t,e1,e2⟩:=f (j+1) v (by simpa using e)
  exact{i,t,by simpa using e1,e2}
section
variable{X:Cx}
inductive yk(t:List V)(H:Hp)(Q:VK):Prop
 | mk (a:Addr) (e:List (Int×V)) (_:t=[.ref a]) (_:Rd H a (.dK (e.map λo=>(Sum.inl o.1,o.2)))) (_:e.length<64) (_:∀(p:Addr) (f:List Int),H p=none->f.Perm (e.map (·.1))->f.Pairwise (·<= ·)->Q (.ref p) (upd H p (.lst (f.map V.int)))):yk t H Q
theorem Va(hh:X.A.handled=none):jD X (.builtin "sorted") (yk):=by
 intro aa s σ H xs us Q I r h;obtain⟨a,G,rfl,hx,ac,q⟩:=h;obtain⟨u,rfl,ru⟩:=ua r;cases(show u=Value.ref a from ru)
 obtain⟨zz,hd,vs,L,dd⟩:=Q9 I.hok hx;obtain⟨Y,da⟩:=dd.dictAt;have ln:=L.length;rw[zm] at ln;have sz:sizeLine=16777216:=sizeLine_eq;refine zbY kind_sorted plain_sorted entry_sorted (args_sorted1 _) ?_
 delta Builtin.«sorted»;refine zc (m:=checkCount "sorted" 1 1 _) (zg (zc (PySem.W.kdu_collect (PySem.W.kdl_dict (prog:=X.prog) (w:=X.w) (knd:=zw X.prog X.w) (d:=a) (kvs:=vs) (ep:=Y) hd) hh da () λC tk f A E=>?_)))
 have al:f.toList.length=vs.length:=by rw[jt];exact E.1
 have hI:IntsAre f.toList (G.map (·.1)):=zcY (by rw[zm];omega) λj u e=>by
  rw[vR] at e;obtain⟨k,x,e1,e2⟩:=E.2 j u e;obtain⟨p,U,M,_⟩:=KV.get L e1;rw[zT] at U;obtain⟨kv,e5,rfl⟩:=qy.mp U;have M:Sum.inl kv.1=k:=M;subst M;obtain⟨t,rfl⟩:=zcV e2;exact{kv.1,t,by rw[zT,e5];rfl,rfl}
 refine zc (wpAny_newList ?_ ())
 have B:(C.push (seqObj "list" f.toList.toArray 0)).get? C.objs.size=some (seqObj "list" f.toList.toArray 0):=qo _ rfl;refine zc (jy (jG slot_list_sort {_,B,rfl} entry_list_sort (list_sort_tree (s:={ s with heap:=C.push (seqObj "list" f.toList.toArray 0),toks:=tk }) B hI () λD ms a1 a2 a3=>{_,rfl,?_}) (args_list_sort _)))
 have J:s.heap.get? C.objs.size=none:=by
  cases z:s.heap.get? C.objs.size with
  | none=>rfl
  | some o=>exact absurd (zK (A _ _ z)) (xM _)
 obtain⟨N,O⟩:=sortedHeap_at (out:=D) B;refine zg {_,rfl,.ref C.objs.size,_,I.laidN (a:=C.objs.size) (o:=.lst (ms.map V.int)) (t':=tk) (λb o e=>?_) J {?_,D.toList,N,Z7 a1,?_},rfl,q _ ms (I.hok.none_of J) a2 a3}
 .have lt:=zK (A b o e)
  rw[sortedHeap_old (zN lt) (by rw[jq];exact vP lt)]
  exact zH _ (A b o e)
 .rw[zm,a2.length_eq,zm];omega
 .rw[O]
end
def zgI(d:Addr)(o:Obj)(e:List (Key×V)):It:=
 {λi H=>H d=some (.frz o (.dK e))/\i<e.length,λi H x f=>f=H/\∃k v,e[i]? =some (k,v)/\x=kV k,λi H=>H d=some (.frz o (.dK e))/\e.length<=i}
theorem VI{P:Program}{w:World}:∀{o:List DictEntry} {u:List (Key×Value)},Pairs (zw P w) o u->∀{i:Nat} {q:Key×Value},u[i]? =some q->∃f,o[i]? =some f/\(zw P w).is q.1 f.key=true
 | _,_,.nil,_,_,h=>by simp at h
 | _,_,.cons h1 _ t,0,_,h=>by simp at h;subst h;exact{_,rfl,h1}
 | _,_,.cons _ _ t,i+1,_,h=>by
  obtain⟨f,e,r⟩:=VI t (i:=i) (by simpa using h)
  exact{f,by simpa using e,r}
theorem KV.back:∀{f:List (Key×V)} {o:List (Key×Value)} {j:Nat} {p:Key×V},KV f o->f[j]? =some p->∃q,o[j]? =some q/\p.1=q.1
 | _,_,j,_,.nil,e=>by simp at e
 | _,_,0,_,.cons h _,e=>by simp at e;subst e;exact{_,rfl,h.1}
 | _,_,j+1,_,.cons _ t,e=>by
  obtain⟨q,e1,r⟩:=KV.back (j:=j) t (by simpa using e)
  exact{q,by simpa using e1,r}
theorem zan{P:Program}{w:World}{H:Hp}{h:Heap}{d:Addr}{o:Obj}{f:List (Key×V)}{t:Array DictEntry}{B:Nat}(ok:HOk P w H h)(e:H d=some (.frz o (.dK f)))(D:o.data=.dict t B):RawD h d t B/\t.size=f.length /\
  ∀(i:Nat) (k:Key) (v:V),f[i]? =some (k,v)->∃u:DictEntry,t[i]? =some u/\RelV (kV k) u.key:=by
 obtain⟨e1,z,y,Y,r,U,J,I,h1,h2,h3,L,C,M⟩:=(show ObjOk P w H h d (.frz o (.dK f)) from ok d _ e)
 rw[e1] at h1;cases h1;rw[D] at h3;cases h3;have N:=C.length;have O:=r.length;have Q:t.toList.length=t.size:=jt;refine{⟨o,e1,h2,D⟩,(),λi k v hk=>?_}
 obtain⟨q,e2,A⟩:=KV.back r hk;obtain⟨u,E,G⟩:=VI C e2;have A:k=q.1:=A;exact{u,by rw[<- vR];exact E,by rw[A];exact zcV G}
theorem zaN{P:Program}{w:World}{K:W.Frag}{tg:Expr}(d t:Addr)(o:Obj)(u:List (Key×V))(es:Array DictEntry)(ep:Nat)(he:o.data=.dict es ep):Qr P w K tg (zgI d o u) [t] t (λi h=>h.IsKeyIter t d i es.size ep) where
 mem:=1e3
 obj:=λi h st b hb=>by
  have e:b=t:=by simpa using hb
  subst e;obtain⟨o,e,c,d⟩:=st;exact{o,e,λv z=>by rw[d] at z;cases z}
 keep:=λi h B st k=>st.at λo e=>k t 1e3 o e
 item:=by
  intro X O Y N hc i f s σ H E I C st U;subst O Y N;obtain⟨hd,hi⟩:=U;obtain⟨rd,sz,all⟩:=zan I.hok hd he;obtain⟨⟨k,v⟩,hx⟩:∃p,u[i]? =some p:={u[i],by simp[hi]}
  obtain⟨en,Q,ek⟩:=all i k v hx;obtain⟨D,G,f2,J,L,M⟩:=C t 1e3
  refine YV st rd Q λB A sb=>?_
  have I1:Inv X f σ H { s with heap:=B }:=I.turned (t':=s.toks) (λb o hb e=>(sb.2 b hb).trans e) D G J L M
  obtain⟨o',e',c',d'⟩:=id A;exact{_,rfl,zc0 (s:={ s with heap:=B }) e' c' d' 1e1 {kV k,H,I1,ek,⟨rfl,k,v,hx,rfl⟩,A,λb hb=>(C b hb).1}}
 done:=by
  intro X O Y N hc i f s σ H E I C st U;subst O Y N;obtain⟨hd,hi⟩:=U;obtain⟨rd,sz,_⟩:=zan I.hok hd he;obtain⟨D,G,f2,J,L,M⟩:=C t 1e3
  exact zcD 0#Q st rd () λB eb=>{rfl,I.turned (t':=s.toks) (λb o hb e=>eb b o hb e) D G J L M}
 self:=λ_ _ _ _ _ st h=>wpAny_pyIter_keyiter st h
section
variable{X:Cx}{f:Expr}
def zjL(u:TE):TI:=λσ H R=>u σ H λx t=>∃d e,x=.ref d/\t d=some (.dK e)/\∀o,R (zgI d o e) (upd t d (.frz o (.dK e)))
theorem zfl{l:Expr}{E:TE}(N:PE X l E):PI X f l (zjL E):=by
 intro t s σ H R I h;refine thn (N t s σ H _ I h) λv s1 ⟨x,D,A,O,q1⟩=>?_
 obtain⟨d,w,e,hd,q⟩:=q1;subst e;cases O;obtain⟨z,y,Q,r,o,C,B,h1,h2,h3,J,L,M⟩:=(show ObjOk X.prog X.w D s1.heap d (.dK w) from A.hok d _ hd)
 refine YU y ⟨o,h1,h2,h3⟩ ?_
 have G:Inv X t σ (upd D d (.frz o (.dK w))) { s1 with heap:=s1.heap.push { cls:=.type "dict_keyiterator",data:=.fields #[.ref d,.int 0 0,.int C.size 0,.int B 0] },toks:=s1.toks }:=by
  refine A.write (x:=d) (e:=d) (by rw[hd];exact True.intro) (.inl rfl) (λb u _ e=>zH _ e) {o,zH _ h1} ?_
  exact{zH _ h1,z,y,Q,r,o,C,B,zH _ h1,h2,h3,J,L,M}
 refine{s1.heap.objs.size,[s1.heap.objs.size],_,_,_,rfl,G,zaN d _ o w C B h3,{_,qo _ rfl,rfl,rfl},λb hb=>?_,q o}
 have e:b=s1.heap.objs.size:=by simpa using hb
 subst e;refine A.fpOk (zx _) ?_
 rw[zj (zS (zk hd (A.hok.fresh (zx _))))];exact A.hok.fresh (zx _)
end
theorem zfW{d:Addr}{o:Obj}{kvs:List (Key×V)}{n:Nat}{g:TG}{L:TT}{J:TE}{B:St}{R:List V->Hp->Prop}{H:Hp}(Pv:Nat->List V->Hp->Prop)(h0:Pv 0 [] H)
  (h1:∀i f H,Pv i f H->H d=some (.frz o (.dK kvs)))
  (N:∀i k v f H,kvs[i]? =some (k,v)->Pv i f H->g (kV k) B H λu E=>u.drop n=B.drop n/\L u E λb w=>if b=true then J u w λv G=>f.length<sizeLine/\Pv (i+1) (f++[v]) G else Pv (i+1) f w)
  (hd:∀f H,Pv kvs.length f H->f.length<=sizeLine/\R f H) :
  ∃W:Nat->Nat->List V->Hp->Prop,(∃m,W 0 m [] H)/\∀i m f t,W i m f t ->
   ((zgI d o kvs).stop i t/\f.length<=sizeLine/\R f t) \/
   ((zgI d o kvs).go i t/\∃M:List V->Hp->Prop,(∀f C,M f C->∃I,I<m/\W (i+1) I f C)/\∀x D,(zgI d o kvs).yld i t x D->g x B D λu E=>u.drop n=B.drop n/\L u E λb w=>
    if b=true then J u w λy G=>f.length<sizeLine/\M (f++[y]) G else M f w):=by
 refine{λi m f t=>m=kvs.length-i/\i<=kvs.length/\Pv i f t,{_,rfl,qJ _,h0},?_}
 rintro i m f t ⟨rfl,hi,p⟩;by_cases A:i<kvs.length
 .refine .inr {{h1 i f t p,A},Pv (i+1),λY C O=>{_,(),rfl,A,O},λx D y=>?_}
  obtain⟨e,k,v,hk,rfl⟩:=y;subst e;exact N i k v f _ hk p
 .have e:i=kvs.length:=()
  subst e;obtain⟨Q,U⟩:=hd f t p;exact .inl {{h1 _ f t p,zx _},Q,U}
section
variable{X:Cx}{f:Expr}
def zkU(K:W.Frag)(t:TE):TI:=λσ H R=>t σ H λx e=>∃a,x=.ref a/\(((∃o,SqL K e a o)/\R (Itl K a) e)\/((∃o,SqT K e a o)/\R (Itt K a) e))
theorem zfk{l:Expr}{C:TE}(D:PE X l C):PI X f l (zkU X.K C):=by
 intro w s σ H R I h;refine thn (D w s σ H _ I h) λv s1 ⟨x,A,t,G,q1⟩=>?_
 obtain⟨a,e,q⟩:=q1;subst e;cases G;have B:∀b∈[s1.heap.objs.size],_:=λb hb=>by
  have e:b=s1.heap.objs.size:=by simpa using hb
  subst e;exact t.fpOk (zx _) (t.hok.fresh (zx _))
 rcases q with ⟨⟨M,hq⟩,q⟩ | ⟨⟨M,hq⟩,q⟩
 .obtain⟨u,J,p,E⟩:=t.list hq
  refine wpAny_pyIter_list p.isList {s1.heap.objs.size,[s1.heap.objs.size],_,_,A,rfl,t.kept (t':=s1.toks) λb o e=>zH _ e,Vm a _,{_,qo _ rfl,rfl,rfl},?_,q}
  exact B
 .obtain⟨u,J,p,E⟩:=t.tuple hq
  refine wpAny_pyIter_tuple (show s1.heap.IsTuple a u.toArray from p) {s1.heap.objs.size,[s1.heap.objs.size],_,_,A,rfl,t.kept (t':=s1.toks) λb o e=>zH _ e,JM a _,{_,qo _ rfl,rfl,rfl},?_,q}
  exact B
end
open Sem (wp)
theorem Wv:typeLookup (.type "list") "keys" = pure none:=by rw[typeLookup_type,builtinLookup_eq_fast];kernel_rfl
theorem Ww:typeLookup (.type "list") "__getattr__" = pure none:=by rw[typeLookup_type,builtinLookup_eq_fast];kernel_rfl
theorem Qw:isSubtype (.type "AttributeError") (.type "AttributeError")=pure true:=by rw[isSubtype_type];kernel_rfl
section
variable{f:Program}{w:World}{A:Around}{E:Value->Shared->Prop}{s:Shared}
theorem zaV{α:Type}{M:Model}{o:Value}{u t:Str}{Q:α->Shared->Prop}(D:A.handled=none)(hm:t.length<=sizeLine)
  (hq:∀B G e,(∀b p,s.heap.get? b=some p->B.get? b=some p)->(∃C,B.get? e=some C/\C.cls=.type "AttributeError")->E (.ref e) { s with heap:=B,toks:=G }) :
  wpAny M A (raiseAttrError o u t:Sem α) Q E s:=by
 unfold raiseAttrError newExc newTuple;refine zc (wpAny_mkStr (zc (zc (jv (zc (m:=firstArgMember _ _) (vS (a:=Value.none) (by simp only[firstArgMember];rfl) (jv ?_)))))) hm)
 refine zc (wpAny_mkText (zc (show wpAny _ _ (noteAttr _ _ _) _ _ _ from ?_)))
 unfold noteAttr;dsimp only;unfold lacksNameAndObj;refine zc (zc (xC (T:= "AttributeError") {_,qo _ rfl,rfl} Qw ?_))
 refine zc (wpAny_load (qo _ rfl) ?_)
 refine zg ?_
 refine zc (j9 (zc (wq (T:= "AttributeError") {_,qo _ rfl,rfl} ?_)))
 refine wpAny_layMembers (qo _ rfl) rfl ?_
 unfold raiseNew;refine zc (QI ?_);rw[D];refine zc (zg (yK ?_))
 refine hq _ _ _ (λb p e=>?_) {_,xG _ (qo _ rfl) (zbR (XN rfl _)),zbH _ _}
 rw[vm _ _ (jW (jM (zK e) 1e3))]
 exact zH _ (zH _ e)
end
section
variable{f:Program}{w:World}{A:Around}{E:Value->Shared->Prop}{h:Heap}{g:Array GenState}{d:Drawn}{t:Nat}{os:OsState}{a:Addr}{n:Nat}{o:Array Value}
theorem Jr{G:Tok}{Q:Fin->Shared->Prop}(C:A.handled=none)(hx:h.get? a=some { cls:=.type "list",data:=.seq o n })
  (hq:∀u D e,(∀b p,h.get? b=some p->u.get? b=some p)->(∃B,u.get? e=some B/\B.cls=.type "AttributeError")->E (.ref e) ⟨u,g,d,D,os⟩) :
  wpAny 0#n A (Builtin.«object.__getattribute__» {[.ref a,.str "keys" G],[]}) Q E ⟨h,g,d,t,os⟩:=by
 have I:(⟨h,g,d,t,os⟩:Shared).TypeIs (.ref a) "list" :={_,hx,rfl};have H:=Wv;repeat(any_goals (first| assumption | wp_step))
 refine zaV C ?_ hq
 rw[sizeLine_eq];decide +kernel
theorem Xe{G:Tok}{R:Result->Shared->Prop}(C:A.handled=none)(hx:h.get? a=some { cls:=.type "list",data:=.seq o n })
  (hq:∀u D e,(∀b p,h.get? b=some p->u.get? b=some p)->(∃B,u.get? e=some B/\B.cls=.type "AttributeError")->R (.error (.ref e)) ⟨u,g,d,D,os⟩) :
  codeAny 0#n A (.call (.builtin "list.__getattribute__") {[.ref a,.str "keys" G],[]}) R ⟨h,g,d,t,os⟩:=
 codeAny_call_builtin Yj.plain F.entry_list_ga (Yj.check _ _ _ _ _ _ _ _ (show(⟨h,g,d,t,os⟩:Shared).TypeIs (.ref a) "list" from {_,hx,rfl}) (F.args_list_getattribute_2 _ _) (Jr C hx hq))
theorem Wy{H:Tok}{Q:Value->Shared->Prop}(G:A.handled=none)(hx:h.get? a=some { cls:=.type "list",data:=.seq o n })
  (hq:∀u C e,(∀b p,h.get? b=some p->u.get? b=some p)->(∃B,u.get? e=some B/\B.cls=.type "AttributeError")->E (.ref e) ⟨u,g,d,C,os⟩):wpAny 0#n A (getAttrBy (.ref a) (.str "keys" H) false) Q E ⟨h,g,d,t,os⟩:=by
 have L:(⟨h,g,d,t,os⟩:Shared).TypeIs (.ref a) "list" :={_,hx,rfl};have I:=Yj.lookup;have J:=Yj.bind (.ref a);repeat(any_goals (first| assumption | wp_step))
 refine Xe G hx λu C e k ⟨B,D,hc⟩=>?_
 dsimp only;unfold getattributeRaised;refine zc (xC (T:= "AttributeError") {_,D,hc} Qw ?_)
 rw[zt rfl];unfold hookBehind;refine zc ?_
 rw[zq 1e1]
 refine vS Ww ?_
 unfold hookOrError attributeErrorLeaves;dsimp only;rw[zt (show(!false)=true from rfl)]
 first
  | exact yK (hq u C e k ⟨B,D,hc⟩)
  | exact zc (yK (hq u C e k ⟨B,D,hc⟩))
theorem Xf{Q:Option Value->Shared->Prop}(C:A.handled=none)(hx:h.get? a=some { cls:=.type "list",data:=.seq o n })
  (hq:∀u B,(∀b p,h.get? b=some p->u.get? b=some p)->Q none ⟨u,g,d,B,os⟩):wpAny 0#n A (getAttr? (.ref a) "keys") Q E ⟨h,g,d,t,os⟩:=by
 unfold getAttr? getAttrBy?;refine zc (wpAny_mkText (zc (wN (Wy C hx λu B e k ⟨G,D,hc⟩=>?_))))
 dsimp only;refine zc (xC (T:= "AttributeError") {_,D,hc} Qw ?_)
 rw[zt rfl];exact zg (hq u B k)
end
end L2
namespace L2
open PySem PySem.Spec PyProof.Rows
theorem Zq:entryFor table "dict.update.loop" = some Builtin.«dict.update.loop»:=entryFor_of_tree (by kernel_rfl)
theorem xU:plainId "dict.update.loop" = true:=by decide +kernel
theorem Y8{K:Type}[DecidableEq K](e more:List (K×Value))(i:Nat)(f:K×Value)(h:more[i]? =some f):merged (stored e f.1 f.2) (more.drop (i+1))=merged e (more.drop i):=by
 obtain⟨h1,h2⟩:=zO.mp h;rw[zgo h1,h2];rfl
section
variable{f:Program}{w:World}{K:Type}[DecidableEq K]{knd:KeyKind f w K}{A:Around}{R:Result->Shared->Prop}{it l D:Addr}{items:Array Value}{pairs:List (K×Value)}{res:Value}
theorem zhP(hh:A.handled=none)(O:l≠it)(Q:l≠D)(G:it≠D)(aa:pairs.length=items.size) :
  ∀(m:Nat) (s:Shared) (i:Nat) (t:List (K×Value)),items.size-i=m->i<=items.size->s.heap.IsListIter it l i->s.heap.IsList l items->s.heap.DictOf knd D t->t.length+m<=sizeLine ->
   (∀(j:Nat) (u:Value),items[j]? =some u->∃(T:Addr) (k:K) (B v:Value),u=.ref T/\T≠it/\T≠D/\IsTup s.heap T #[B,v]/\knd.is k B=true/\pairs[j]? =some (k,v)) ->
   (∀E tk,E.DictOf knd D (merged t (pairs.drop i))->(∀b o,b≠it->b≠D->s.heap.get? b=some o->E.get? b=some o)->R (.ok (.ret res)) { s with heap:=E,toks:=tk }) ->
   codeAny 0#n A (.builtin "dict.update.loop" {[.ref D,.ref it,.int i 0,res],[]}) R s:=by
 intro m;induction m with
 | zero=>
  intro s i t hm hi Y L M hz U q;have H:items[i]? =none:=by simp;omega
  refine codeAny_builtin Zq ?_
  rw[yg xU _];show wpAny _ A.in1 (pyNext (.ref it) >>= _) _ _ s;refine zc (wpAny_pyNext_list_end hh Y L H λE hx=>?_)
  show wpAny _ _ (Builtin.Dict.addKeywords D [] >>= _) _ _ _;refine zc (zg (zg ?_))
  have e0:merged t (pairs.drop i)=t:=by rw[List.drop_eq_nil_of_le ()];rfl
  have:=q E s.toks (by rw[e0];exact M.extBut hx (zS G)) (λb o hb _ e=>?_)
  .exact this
  .exact hx b o hb e
 | succ m ih=>
  intro s i t hm hi Y L M hz U q;have I:i<items.size:=()
  obtain⟨u,hu⟩:∃u,items[i]? =some u:={_,jY I};obtain⟨T,k,B,v,rfl,nT,nD,tT,kk,ep⟩:=U i u hu;refine codeAny_builtin Zq ?_
  rw[yg xU _];show wpAny _ A.in1 (pyNext (.ref it) >>= _) _ _ s;refine zc (wpAny_pyNext_list_item Y L hu λh1 i1 s1=>?_)
  dsimp only;refine zc (jy (zc ?_))
  obtain⟨oT,eT,cT,nn,dT⟩:=tT;have k1:∀b o,b≠it->s.heap.get? b=some o->h1.get? b=some o:=λb o hb e=>(s1.2 b hb).trans e
  have N:({ s with heap:=h1 }:Shared).TypeIs (.ref T) "tuple" :={_,k1 _ _ nT eT,cT};show wpAny _ _ (tryCatch (Builtin.Dict.pairItems (.ref T)) _) _ _ _;refine QJ ?_
  unfold Builtin.Dict.pairItems;refine zc (wq N ?_)
  rw[zt (show(Value.type "tuple" == Value.type "list" || Value.type "tuple" == Value.type "tuple")=true by decide)]
  refine zc (xc (k1 _ _ nT eT) dT (zg ?_))
  show wpAny _ _ (holding [B,v] (dictSet D B v)) _ _ _;refine jy (wpAny_dictSet_pairs kk (M.sameBut s1 (zS G)) (hsz:=by omega) λh2 d2 s2=>?_)
  refine zg {plainId_quiet xU _,?_}
  have k2:∀b o,b≠it->b≠D->s.heap.get? b=some o->h2.get? b=some o:=λb o hb C e=>(s2.2 b C).trans (k1 b o hb e)
  have lst:(stored t k v).length<=t.length+1:=stored_length_le t k v;have:=ih { s with heap:=h2,toks:=s.toks+1 } (i+1) (stored t k v) () I (i1.at λo e=>(s2.2 it G).trans e) (L.at λo e=>k2 l o O Q e) d2 ()
   (λj u hj=>by
    obtain⟨T',k',J,v',z1,z2,z3,z4,z5,z6⟩:=U j u hj;obtain⟨o',e',r'⟩:=z4;exact{T',k',J,v',z1,z2,z3,{o',k2 _ _ z2 z3 e',r'},z5,z6})
   (λE tk d' kp=>q E tk (by rw[<- Y8 t pairs i (k,v) ep];exact d') λb o hb C e=>kp b o hb C (k2 b o hb C e))
  exact this
end
def zjT:Obj:={ cls:=.type "dict",data:=.dict #[] }
theorem X2:(Value.type "list" != Value.type "dict")=true:=1e1
section
variable{f:Program}{w:World}{K:Type}[DecidableEq K]{knd:KeyKind f w K}{A:Around}{E:Value->Shared->Prop}{s:Shared}
theorem Ju{l:Addr}{items:Array Value}{n:Nat}{pairs:List (K×Value)}{Q:Value->Shared->Prop}(hh:A.handled=none)(I:s.heap.get? l=some { cls:=.type "list",data:=.seq items n })(H:pairs.length=items.size)(M:items.size<=sizeLine)
  (ht:∀(j:Nat) (u:Value),items[j]? =some u->∃(T:Addr) (k:K) (t v:Value),u=.ref T/\IsTup s.heap T #[t,v]/\knd.is k t=true/\pairs[j]? =some (k,v))
  (h:∀G Y,G.DictOf knd s.heap.objs.size (merged [] pairs)->(∀b o,s.heap.get? b=some o->G.get? b=some o)->Q 0#m { s with heap:=G,toks:=Y }) :
  wpAny 0#n A (call (.type "dict") [.ref l]) Q E s:=by
 have L:(s.heap.push zjT).DictOf knd s.heap.objs.size []:=.new s.heap;have B:=zH zjT I;refine callType_codes (Q₁:=λu s1=>u=.ref s.heap.objs.size/\s1={ s with heap:=s.heap.push zjT }) F.kt_called_dict (F.kt_typeCall_dict_1 _) F.entry_dict_init (kt_code_dict_new _ ⟨rfl,rfl⟩) λu s1 e=>?_
 obtain⟨eu,es⟩:=e;subst eu es;refine{L.typeIs,F.args_dict_init_2 _ _,?_}
 show wpAny _ _ (Builtin.Dict.selfAndRest _ _ >>= λx=>Builtin.Dict.updateCommon _ _ x.1 x.2 _) _ _ _
 refine zc (zc (wpAny_notOrdered_dict L.typeIs ?_))
 refine zg (show wpAny _ _ (Builtin.Dict.updateFrom "dict.__init__" s.heap.objs.size (.ref l) [] .none) _ _ _ from ?_)
 refine zc (wq (T:= "list") {_,B,rfl} ?_)
 rw[zt X2];refine zc (Xf hh B λh1 t1 J=>?_)
 rw[zt (show(none:Option Value).isNone=true from rfl)]
 refine zc (j9 (zc (wpAny_pyIter_list {_,J _ _ B,rfl,n,rfl} ?_)))
 have dD:=L.keep J;have U:=zK I;obtain⟨oD,_,_,eD,_⟩:=id dD;have O:=zK eD;have N:∀b o,s.heap.get? b=some o->(h1.push { cls:=.type "list_iterator",data:=.fields #[.ref l,.int 0 0] }).get? b=some o:=λb o e=>zH _ (J _ _ (zH _ e))
 have C:∀b o,s.heap.get? b=some o->b<h1.objs.size:=λb o e=>zK (J _ _ (zH _ e))
 refine zg {plainId_quiet xU _,?_}
 refine zhP (knd:=knd) (s:={h1.push { cls:=.type "list_iterator",data:=.fields #[.ref l,.int 0 0] },s.gens,s.drawn,t1,s.os}) (l:=l) (it:=h1.objs.size) (D:=s.heap.objs.size) (items:=items) (pairs:=pairs) (A:=A.in1) (res:=.none) hh (zN (C _ _ I)) (zN U) (jW O) H items.size 0 [] rfl (qJ _) {_,qo _ rfl,rfl,rfl} {_,N _ _ I,rfl,n,rfl} (dD.push _) (by simpa using M) (λj u hj=>?_) (λG Y d' kp=>?_)
 .obtain⟨T,k,t,v,rfl,⟨o,e,r⟩,z,y⟩:=ht j u hj
  exact{T,k,t,v,rfl,zN (C _ _ e),zN (zK e),{o,N _ _ e,r},z,y}
 .exact{rfl,h G Y (by simpa using d') λb o e=>kp b o (zN (C _ _ e)) (zN (zK e)) (N _ _ e)}
end
def PrsL(H:Hp)(f:List V)(e:List (Key×V)):Prop:=f.length=e.length/\∀(j:Nat) (x:V),f[j]? =some x->∃(T:Addr) (k:Key) (v:V),x=.ref T/\H T=some (.tup [kV k,v])/\e[j]? =some (k,v)
theorem PrsL.nil{H:Hp}:PrsL H [] []:={rfl,λj x e=>by simp at e}
theorem PrsL.same{H o:Hp}{t:List V}{f:List (Key×V)}(h:PrsL H t f)(s:Same H o):PrsL o t f:={h.1,λj x e=>let ⟨T,k,v,a,b,c⟩:=h.2 j x e;{T,k,v,a,s _ _ b,c}}
theorem PrsL.snoc{H:Hp}{t:List V}{o:List (Key×V)}{T:Addr}{k:Key}{v:V}(h:PrsL H t o)(e:H T=some (.tup [kV k,v])):PrsL H (t++[.ref T]) (o++[(k,v)]):=by
 refine{by rw[qu,qu,h.1];rfl,λj x f=>?_}
 have l:=h.1;by_cases w:j<t.length
 .rw[x6 w] at f
  obtain⟨u,A,B,a,b,c⟩:=h.2 j x f;exact{u,A,B,a,b,by rw[x6 ()];exact c}
 .rw[xr ()] at f
  have:j=t.length:=by
   have:=(zO.mp f).1;simp at this;omega
  subst this;simp at f;subst f;exact{T,k,v,rfl,e,by rw[l,xr (zx _)];simp}
theorem ziJ:∀{o:List (Key×V)} {t:List (Key×Value)},o.length=t.length->(∀(j:Nat) p,t[j]? =some p->∃q,o[j]? =some q/\q.1=p.1/\RelV q.2 p.2)->KV o t
 | [],[],_,_=>.nil
 | [],_::_,h,_=>by simp at h
 | _::_,[],h,_=>by simp at h
 | x::A,u::w,h,f=>by
  refine .cons ?_ (ziJ (by simpa using h) λj v e=>?_)
  .obtain⟨y,e1,r⟩:=f 0 u rfl
   cases e1;exact r
  .obtain⟨y,e1,r⟩:=f (j+1) v (by simpa using e)
   exact{y,by simpa using e1,r}
theorem Jb{α β:Type}:∀(P:Nat->α->β->Prop) (l:List α),(∀j u,l[j]? =some u->∃b,P j u b)->∃o:List β,o.length=l.length/\∀j u,l[j]? =some u->∃b,o[j]? =some b/\P j u b
 | _,[],_=>{[],rfl,λj u e=>by simp at e}
 | P,x::l,f=>by
  obtain⟨b,hb⟩:=f 0 x rfl;obtain⟨o,h1,h2⟩:=Jb (λj=>P (j+1)) l λj u e=>f (j+1) u (by simpa using e)
  refine{b::o,by simp[h1],λj u e=>?_}
  cases j with
  | zero=>simp at e;subst e;exact⟨b,rfl,hb⟩
  | succ j=>
   obtain⟨c,h3,t⟩:=h2 j u (by simpa using e)
   exact{c,by simpa using h3,t}
theorem Vals.at:∀{f:List V} {o:List Value} {i:Nat} {u:Value},Vals f o->o[i]? =some u->∃x,f[i]? =some x/\RelV x u:=λ{f o i u} r e=>by
 have l:=Vals.length r;have h:=(zO.mp e).1;obtain⟨v,e1,t⟩:=r.get (i:=i) (x:=f[i]'()) (vo _)
 rw[e] at e1;cases e1;exact{_,vo _,t}
section
variable{X:Cx}
inductive Qv(f:List V)(H:Hp)(Q:VK):Prop
 | mk (a:Addr) (o:List V) (e:List (Key×V)) (_:f=[.ref a]) (_:H a=some (.lst o)) (_:PrsL H o e) (_:∀p,H p=none->Q (.ref p) (upd H p (.dK (jZ [] e)))):Qv f H Q
theorem zbs(hh:X.A.handled=none):jD X (.type "dict") (Qv):=by
 intro L s σ H xs us Q I r h;obtain⟨a,ys,w,rfl,hx,M,q⟩:=h;obtain⟨u,rfl,ru⟩:=ua r;cases(show u=Value.ref a from ru)
 obtain⟨zz,A,n,B,hl⟩:=(show ObjOk X.prog X.w H s.heap a (.lst ys) from I.hok a _ hx)
 have ln:=B.length;have kn:=M.1;have C:∀(j:Nat) (u:Value),A[j]? =some u->∃(T:Addr) (k:Key) (t v:Value) (y:V),u=.ref T/\IsTup s.heap T #[t,v]/\(zw X.prog X.w).is k t=true/\w[j]? =some (k,y)/\RelV y v:=λj u J=>by
  obtain⟨x,ex,rx⟩:=Vals.at B J;obtain⟨T,k,v,rfl,U,Y⟩:=M.2 j x ex;cases(show u=Value.ref T from rx)
  obtain⟨_,ts,rt,it,_⟩:=(show ObjOk X.prog X.w H s.heap T (.tup [kV k,v]) from I.hok T _ U)
  obtain⟨u1,u2,rfl,r1,G⟩:=Vals.two rt;exact{T,k,u1,u2,v,rfl,it,wI r1,Y,G}
 obtain⟨N,lp,hp⟩:=Jb (λj u (p:Key×Value)=>∃(T:Addr) (t:Value) (y:V),u=.ref T/\IsTup s.heap T #[t,p.2]/\(zw X.prog X.w).is p.1 t=true/\w[j]? =some (p.1,y)/\RelV y p.2) A λj u e=>by
  obtain⟨T,k,t,v,y,a,b,c,d,f⟩:=C j u e;exact{(k,v),T,t,y,a,b,c,d,f}
 have kv:KV w N:=ziJ () λj p e=>by
  have J:=(zO.mp e).1;obtain⟨b,e1,T,t,y,_,_,_,e2,G⟩:=hp j _ (vo ())
  rw[e] at e1;cases e1;exact{_,e2,rfl,G}
 have mg:(jZ [] w).length<=sizeLine:=by
  have:=xV w [];rw[yQ] at this;omega
 have hn:H s.heap.objs.size=none:=I.hok.fresh (zx _);refine Ju (knd:=zw X.prog X.w) (pairs:=N) (items:=A.toArray) hh hl (by simp[lp]) (by simp;omega) (λj u e=>?_) λh' tk O kp=>?_
 .rw[List.getElem?_toArray] at e
  obtain⟨p,e1,T,t,y,a,b,c,d,f⟩:=hp j u e;exact⟨T,p.1,t,p.2,a,b,c,e1⟩
 .have ns:(s.heap.objs.size==sysModules)=false:=beq_eq_false_iff_ne.mpr (jW I.big)
  exact{.ref s.heap.objs.size,_,I.laid (a:=s.heap.objs.size) (o:=.dK (jZ [] w)) (t':=tk) kp (zx _) (QB mg ns (KV.merge kv .nil) O),rfl,q _ hn}
theorem zg9{K:W.Frag}(h:X.K=K){o l:Expr}{e:TE}(f:PE X l e):PI X o l (zkU K e):=by rw[<- h];exact zfk f
end
section
variable{X:Cx}{t O f:Expr}{w:List Expr}{scope:Scope}{A:Pos}{U:TI}{g:TG}{M:TT}{G:TE}{x:Str}
theorem zjd{yt:Str}{E an:Pos}{g2:TG}(fr:List Str)(js:List Nat)(hc:X.calm=true)(hk:scope.kind=.function)(hb:WL scope.names X.env.scope.names X.N x fr js=true)(hi:PI X O f U)
  (hg:∀C s H ex,PG (jV X ([x]++fr) scope x C s H ex) O g) (hf:∀C s H ex,PF (jV X ([x]++fr) scope x C s H ex) w M) (he:∀C s H ex,PE (jV X ([x]++fr) scope x C s H ex) t G)
  (bu:PG X (.Name yt E) g2) (bx:swapsWith (.ListComp t [{O,f,w,0}] scope A) (some (.Name yt E)) an.line X.env=pure true:=by rfl)
  (hs:∀x,foldedSetIterable f X.env x=pure x:=by intro _;rfl):PS X (.Assign [.Name yt E] (.ListComp t [{O,f,w,0}] scope A) an) (Wc (tLC U 1 js g M G) g2):=by
 intro ab s σ H Dn I h;have B:=VX hb;have aj:∀y∈scope.names,y.2=NameKind.free->∃c,X.env.cells.lookup y.1=some c:=λy hy e=>I.ok.has y.1 (B.free y hy e)
 rw[exec_Assign_Name_used _ _ _ _ bx];refine zc (xZ (zc ?_))
 show wpAny _ X.A (do let _<-comprehension (.ListComp t [{O,f,w,0}] scope A) scope X.env _ (newList []) false (eval f X.env) (some (assign (.Name yt E) X.env))) _ _ s
 refine zc (z9 (wpAny_comprehension_free (use:=some (assign (.Name yt E) X.env)) (Q:=λ_ s'=>∃σ' H',Inv X ab σ' H' s'/\Dn.nx σ' H') rfl hs (JH aj) hk (λy hy e=>B.loc y hy e) (thn (hi ab s σ H _ I h) λv s1 h1=>thn h1 λcb s2 h2=>?_)) (λ_ s' hq=>zg (zg hq)) λ_ _ e=>e)
 obtain⟨it,fp,tn,J,H2,e,I2,T,as,f2,W,⟨m0,w0⟩,bi⟩:=h2;subst e;have fl:∀b∈fp,b<s2.heap.objs.size:=λb hb=>let ⟨o,e,_⟩:=T.obj _ _ as b hb;zK e
 refine jv (zba B.one ?_)
 dsimp only;generalize e3:s2.heap.push { cls:=.type "list",dict:=none,data:=.seq ([]:List Value).toArray }=h3;have bb:((h3.push { cls:=.type "dict",data:=.dict #[] }).push { cls:=.type "cell",data:=.cell none }).Ns h3.objs.size (λ_=>none):=(Heap.Ns.new h3 (.type "dict")).keeps λb o e=>zH _ e
 have ae:((h3.push { cls:=.type "dict",data:=.dict #[] }).push { cls:=.type "cell",data:=.cell none }).IsCell (h3.objs.size+1) none:={_,by have:=qo (h3.push { cls:=.type "dict",data:=.dict #[] }) (o:={ cls:=.type "cell",data:=.cell none }) rfl;rwa[jq] at this,rfl}
 have k4:∀b o,h3.get? b=some o->((h3.push { cls:=.type "dict",data:=.dict #[] }).push { cls:=.type "cell",data:=.cell none }).get? b=some o:=λb o e=>zH _ (zH _ e)
 generalize (h3.push { cls:=.type "dict",data:=.dict #[] }).push { cls:=.type "cell",data:=.cell none }=h1 at bb ae k4;have k3:∀b o,s2.heap.get? b=some o->h3.get? b=some o:=λb o e=>by rw[<- e3];exact zH _ e
 have I4:Inv (jV X ([x]++fr) scope x h3.objs.size { s2 with heap:=h3 } H2 (s2.heap.objs.size::fp)) [] (upS 1 js σ) H2 { s2 with heap:=h1 }:=
  zbt fr js I2 B hk f2 fl rfl e3.symm rfl bb ae k4
 have I3:Inv X ab σ H2 { s2 with heap:=h3 }:=I2.kept (t':=s2.toks) k3;have hz:h3.objs.size=s2.heap.objs.size+1:=by rw[<- e3,jq]
 have ag:s2.heap.objs.size≠h3.objs.size:=by rw[hz];exact zN (wP _)
 have ay:h1.get? s2.heap.objs.size=some { cls:=.type "list",data:=.seq ([]:List Value).toArray }:=k4 _ _ (by rw[<- e3];exact qo _ rfl)
 have av:=(I3.fpOk (b:=h3.objs.size) (zx _) (I3.hok.fresh (zx _))).2;generalize eD:s2.heap.objs.size=D at *
 generalize eC:h3.objs.size=C at *
 have fD:∀b∈fp,D≠b:=λb hb=>jW (fl b hb)
 have look:∀y c,((x,C+1)::qX X.env.cells scope.names []).lookup y=some c->c=C+1\/X.env.cells.lookup y=some c:=λy c e=>by
  rw[jO] at e;by_cases q:(y==x)=true
  .rw[q] at e
   exact .inl (jL e).symm
  .rw[(zbB _).mp q] at e
   exact .inr (zV e aj)
 have hx:∀y c,((x,C+1)::qX X.env.cells scope.names []).lookup y=some c->c≠D:=λy c e=>by
  rcases look y c e with z | z
  .rw[z,hz];exact jW (vP (wP _))
  .obtain⟨v,q⟩:=I2.cell y c z
   rw[<- eD];exact zN q.lt
 have bz:∀b∈fp,∀y c,((x,C+1)::qX X.env.cells scope.names []).lookup y=some c->c≠b:=λb hb y c e=>by
  rcases look y c e with z | z
  .rw[z,hz];exact jW (vP (vP (fl b hb)))
  .exact(f2 b hb).2.2.2.2.1 y c z
 have bg:∀b∈D::fp,b∉frs X.stack:=I4.ok.exfs;have bo:∀{aa:List 0#p} {H':Hp} {b:Addr},b∈fp->H' b=none->(∀p∈aa,p.1≠b)->jH 0#k aa H' b:=λ{aa H' b} hb hn hp=>
  {hn,(I4.ok.exf b (jf _ hb)).1,bg b (jf _ hb),.inl (jf _ hb),λx c e=>bz b hb x c e,λp h=>hp p (by simpa using h)}
 have bp:∀{aa:List 0#p} {H':Hp},H' D=none->(∀p∈aa,p.1≠D)->jH 0#k aa H' D:=λ{aa H'} hn hp=>
  {hn,ag,bg D xp,.inl xp,λx c e=>hx x c e,λp h=>hp p (by simpa using h)}
 have al:∀s4:Shared,s4={ s2 with heap:=h1 } ->
   codeAny 0#e X.A (.compLoop (.ListComp t [{O,f,w,0}] scope A) 0 (.ref it) (.ref D) (compEnvC scope ((x,C+1)::qX X.env.cells scope.names []) C X.env))
    (compPost 0#e X.A X.xe (some (assign (.Name yt E) X.env)) (λ_ s'=>∃σ' H',Inv X ab σ' H' s'/\Dn.nx σ' H') (.ref D) C) s4:=by
  intro s4 e4;refine zax (λn s'=>∃i ys ac H',∃z:Nat,Inv 0#k [] (upS 1 js σ) H' s'/\tn i s'.heap/\(∀b∈fp,H' b=none)/\H' D=none /\
   s'.heap.get? D=some { cls:=.type "list",data:=.seq (ac:List Value).toArray z }/\Vals ys ac/\W i n ys H') ?_ m0 ?_
  .rintro n s5 ⟨i,ys,ac,H5,z5,I5,bh,aw,bs,bd,ah,w5⟩
   have au:=I5.pinned (fp:=[D]) (λb hb=>by rw[zR.mp hb];exact bp bs (λp hp=>absurd hp 1e3)) (λb hb=>by
    rw[zR.mp hb];exact{_,bd,λv q=>nomatch q})
   have pD:∀p∈[]++zX [D] s5.heap,p.1=D:=λp hp=>by
    rw[XH] at hp;exact zR.mp (vC hp).1
   have mD:(D,({ cls:=.type "list",data:=.seq ac.toArray z5 }:Obj))∈[]++zX [D] s5.heap:=by
    rw[XH];exact qP (zR.mpr rfl) bd
   have aq:∀{H':Hp},(∀b∈fp,H' b=none)->∀b∈fp,jH 0#k ([]++zX [D] s5.heap) H' b:=λhn b hb=>bo hb (hn b hb) λp hp=>by
    rw[pD p hp];exact fD b hb
   rcases bi i n ys H5 w5 with ⟨stop,b0,q⟩ | ⟨go,N,hN,step⟩
   .refine thn (T.done 0#k rfl rfl rfl hc i _ s5 _ H5 _ au (aq aw) bh stop) λr s6 ⟨hr,I6⟩=>?_
    subst hr;obtain⟨m6,ba,_⟩:=I6.loc;obtain⟨o6,bf,_⟩:=I6.pin (D,_) (zZ _ mD);have k7:∀b o,b≠C->s6.heap.get? b=some o->s6.heap.get? b=some o:=λb o _ e=>e
    have J0:Inv X ab σ (upd H5 D (.lst ys)) s6:=by
     refine I3.call' (s':=s6) (ch:=D::fp) I6.os (Z9 (Wa I6.base (vT eC) k7) xp (I2.hok.fresh ?_)) (Zc (JD I6.hok I6.free k7) bf {b0,ac,z5,ah,k7 D _ ag o6}) I6.bare λb hb=>?_
     .rw[<- eD];exact zx _
     .rcases zP.mp hb with y | hb
      .subst y
       refine{.inr (by rw[<- eD];exact I2.sz),by rw[<- eD];exact jW I2.lt,λx c e=>?_,λp hp=>?_}
       .obtain⟨v,q⟩:=I2.cell x c e
        rw[<- eD];exact zN q.lt
       .rw[<- eD];exact zN (zK (I2.pin p hp).1)
      .obtain⟨_,g1,_,g3,g4,g5⟩:=f2 b hb
       exact⟨g3,g1,g4,g5⟩
    obtain⟨oC,ap,dC⟩:∃o,s6.heap.get? C=some o/\∀v,o.data≠.cell v:=by
     obtain⟨o,es,ep,ho,hd,_⟩:=ba;exact{o,ho,λv z=>by rw[hd] at z;cases z}
    have br:(upd H5 D (.lst ys)) C=none:=by
     rw[zj (zS ag)];exact I6.free
    have J1:=J0.pinned (fp:=[C]) (λb hb=>by rw[zR.mp hb];exact⟨br,av⟩) (λb hb=>by rw[zR.mp hb];exact⟨oC,ap,dC⟩)
    have mC:(C,oC)∈ab++zX [C] s6.heap:=zZ _ (qP (zR.mpr rfl) ap);refine thn (bu _ s6 σ _ (.ref D) (.ref D) _ J1 rfl (q D bf)) λ_ s8 ⟨σ8,H8,I8,q8⟩=>?_
    obtain⟨e8,n8,_⟩:=I8.pin (C,oC) (zZ _ mC);refine{m6,?_,λh9 bw=>{σ8,H8,?_,q8}}
    .obtain⟨o,es,ep,ho,r⟩:=ba
     have bc:s6.heap.get? C=some o:=ho;rw[ap] at bc;cases bc
     exact⟨oC,es,ep,e8,r⟩
    .obtain⟨g1,_,g3,g4,g5⟩:=av
     exact(I8.unpinned).turned (t':=s8.toks) (it:=C) (λb o hb e=>bw.extBut b o hb e) n8 g1 g3 g4 g5
   .refine thn (T.item 0#k rfl rfl rfl hc i _ s5 _ H5 _ au (aq aw) bh go) λr s6 ⟨u,hr,h6⟩=>?_
    subst hr;refine thn h6 λ_ s7 ⟨x7,H7,I7,r7,y7,ai,bq⟩=>?_
    have bm:=I7.pinned (aq bq) (T.obj _ _ ai);refine thn (hg _ _ _ _ _ s7 _ H7 x7 u _ bm r7 (step x7 H7 y7)) λ_ s8 ⟨σ8,H8,I8,bt,q8⟩=>?_
    refine thn (hf _ _ _ _ _ s8 σ8 H8 _ I8 q8) λok s9 ⟨H9,I9,q9⟩=>?_
    have ao:∀{H':Hp} {s':Shared},Inv 0#k (([]++zX [D] s5.heap)++zX fp s7.heap) σ8 H' s' ->
      Inv 0#k [] (upS 1 js σ) H' s':=λ{H' s'} J=>by
     refine(J.unpinned).unpinned.weak (I5.len.trans J.len.symm) λk v e=>?_
     obtain⟨hn,e1,_⟩:=vH e;rw[<- bt,W6] at e1;rw[<- e1];congr 1
     omega
    have mF:∀b∈fp,∀o,s7.heap.get? b=some o->(b,o)∈([]++zX [D] s5.heap)++zX fp s7.heap:=λb hb o e=>zZ _ (qP hb e)
    have be:=jK (zX fp s7.heap) mD;have ax:∀{H':Hp} {s':Shared},Inv 0#k (([]++zX [D] s5.heap)++zX fp s7.heap) σ8 H' s'->∀b∈fp,H' b=none:=λ{H' s'} J b hb=>by
     obtain⟨o,e,_⟩:=T.obj _ _ ai b hb;exact(J.pin (b,o) (zZ _ (mF b hb o e))).2.1
    cases ok with
    | false=>
     have ar:N ys H9:=by simpa using q9
     obtain⟨m',hm,w'⟩:=hN _ _ ar;obtain⟨o9,c3,_⟩:=I9.pin (D,_) (zZ _ be);exact{m',hm,i+1,ys,ac,H9,z5,ao I9,T.keep _ _ _ ai λb hb o e=>(I9.pin (b,o) (zZ _ (mF b hb o e))).1,ax I9,c3,o9,ah,w'}
    | true=>
     have ar:G σ8 H9 λy H6=>ys.length<sizeLine/\N (ys++[y]) H6:=by simpa using q9
     refine thn (he _ _ _ _ _ s9 σ8 H9 _ I9 ar) λyv c6 ⟨y,bj,af,c5,bv,c7⟩=>?_
     obtain⟨m',hm,w'⟩:=hN _ _ c7;obtain⟨c4,am,_⟩:=af.pin (D,_) (zZ _ be);refine wpAny_list_append_plain (l:=D) (items:=ac.toArray) (hsz:=by rw[zW,<- ah.length];exact yN bv) {_,c4} λc9 az ak=>?_
     obtain⟨c8,bn⟩:=az;refine{m',hm,i+1,ys++[y],ac++[yv],bj,c8,?_,T.keep _ _ _ ai λb hb o e=>ak.extBut b o (zS (fD b hb)) (af.pin (b,o) (zZ _ (mF b hb o e))).1,ax af,am,?_,ah.append (.cons c5 .nil),w'}
     .exact(ao af).turned (t':=c6.toks) (it:=D) (λb o hb e=>ak.extBut b o hb e) am ag (.inl xp) (λx c e=>hx x c e) λp hp=>absurd (show p∈([]:List 0#p) from hp) 1e3
     .rw[bn];simp
  .subst e4
   exact{0,[],[],H2,0,I4,T.keep _ _ _ as λb hb o e=>k4 b o (k3 b o e),λb hb=>(f2 b hb).1,I2.hok.fresh (by rw[<- eD];exact zx _),ay,.nil,w0}
 exact codeAny_compStart_list (al _ rfl) (T.self X.A 0 _ _ _ (T.keep _ _ _ as λb hb o e=>k4 b o (k3 b o e)) (al _ rfl))
theorem zjc{L:Pos}{N:Str}{E e:Pos}{Q:TG}(u:List Str)(J:List Nat)(hc:X.calm=true)(hk:scope.kind=.function)(hb:WL scope.names X.env.scope.names X.N x u J=true)(hi:PI X (.Name x L) f U)
  (hf:∀C s H o,PF (jV X ([x]++u) scope x C s H o) w M) (he:∀C s H o,PE (jV X ([x]++u) scope x C s H o) t G)
  (D:PG X (.Name N E) Q) (I:swapsWith (.ListComp t [{.Name x L,f,w,0}] scope A) (some (.Name N E)) e.line X.env=pure true:=by rfl)
  (hs:∀x,foldedSetIterable f X.env x=pure x:=by intro _;rfl):PS X (.Assign [.Name N E] (.ListComp t [{.Name x L,f,w,0}] scope A) e) (Wc (tLC U 1 J (j7 0) M G) Q):=by
 have B:=VX hb;refine zjd u J hc hk hb hi (λC s H o=>?_) hf he D I hs
 have lk:(compEnvC scope ((x,C+1)::qX X.env.cells scope.names []) C X.env).scope.names.lookup x=some .cell:=ZA B.lk;exact zy (X:=jV X ([x]++u) scope x C s H o) B.nd rfl (.inr lk) (.inl (by show(x==x)=true;simp))
variable{y:Str}{L E tp:Pos}{Y:Nat}
theorem zhb{K:W.Frag}(B:X.K=K)(e:List Str)(u:List Nat)(hc:X.calm=true)(hk:scope.kind=.function)(hb:vN scope.names X.env.scope.names X.N [x,y] e u=true)(J:PI X (.Tuple [.Name x L,.Name y E] Y tp) f U)
  (I:∀C s H o,PF (zB X ([x,y]++e) scope C s H o) w M) (D:∀C s H o,PE (zB X ([x,y]++e) scope C s H o) t G)
  (N:∀x,foldedSetIterable f X.env x=pure x:=by intro _;rfl):PE X (.ListComp t [{.Tuple [.Name x L,.Name y E] Y tp,f,w,0}] scope A) (tLC U 2 u (WB K 2 (vg (j7 0) (vg (j7 1) zam))) M G):=by
 subst B;exact JY e u hc hk hb J I D N
end
def Up(e:Array Nat):Prop:=e.toList.Pairwise (·< ·)
theorem Up.lt{f:Array Nat}(h:Up f){i j:Nat}{a b:Nat}(o:f[i]? =some a)(t:f[j]? =some b)(e:i<j):a<b:=by
 have h1:=XR.mp o;have h2:=XR.mp t;obtain⟨u,e1⟩:=h1;obtain⟨w,e2⟩:=h2;have:=List.pairwise_iff_getElem.mp h i j (by simpa using u) (by simpa using w) e
 simpa [e1,e2] using this
theorem Xy(o:Array Nat)(j:Nat):∀(fuel lo f:Nat),f-lo<=fuel->lo<=f->f<=o.size->Up o->(∀i a,i<lo->o[i]? =some a->a<j)->(∀i a,f<=i->o[i]? =some a->j<=a) ->
  SetTable.below.go o j fuel lo f<=o.size/\(∀i a,i<SetTable.below.go o j fuel lo f->o[i]? =some a->a<j)/\∀i a,SetTable.below.go o j fuel lo f<=i->o[i]? =some a->j<=a
 | 0,lo,f,h1,h2,h3,u,a1,a2=>by
  have e:f=lo:=()
  subst e;exact⟨h3,a1,a2⟩
 | fuel+1,lo,f,h1,h2,h3,u,a1,a2=>by
  unfold SetTable.below.go;by_cases c:lo<f
  .rw[zt c]
   dsimp only;have hm:(lo+f)/2<o.size:=()
   have t:o[(lo+f)/2]? =some (o[(lo+f)/2]'hm):=jY hm;have A:o.getD ((lo+f)/2) j=o[(lo+f)/2]'hm:=by rw[XB,t];rfl
   rw[A];by_cases d:o[(lo+f)/2]'hm<j
   .rw[zt d]
    refine Xy o j fuel _ f () () h3 u (λi a w e=>?_) a2
    by_cases q:i=(lo+f)/2
    .subst q;rw[t] at e;cases e;exact d
    .have:=u.lt e t ()
     omega
   .rw[zq d]
    refine Xy o j fuel lo _ () () () u a1 λi a w e=>?_
    by_cases q:i=(lo+f)/2
    .subst q;rw[t] at e;cases e;omega
    .have:=u.lt t e ()
     omega
  .rw[zq c]
   have e:f=lo:=()
   subst e;exact⟨h3,a1,a2⟩
theorem zay{f:Array Nat}(u:Up f)(j:Nat):SetTable.below f j<=f.size/\(∀i a,i<SetTable.below f j->f[i]? =some a->a<j)/\∀i a,SetTable.below f j<=i->f[i]? =some a->j<=a:=by
 unfold SetTable.below;exact Xy f j f.size 0 f.size () (qJ _) (zx _) u (λi a h=>absurd h (WU _)) λi a h e=>absurd (XR.mp e).1 ()
theorem zaz{f:Array Nat}(u:Up f){i:Nat}{j:Nat}(t:i<=f.size)(h1:∀k a,k<i->f[k]? =some a->a<j)(h2:∀k a,i<=k->f[k]? =some a->j<=a):SetTable.below f j=i:=by
 obtain⟨b1,b2,b3⟩:=zay u j;by_cases c:SetTable.below f j<i
 .have o:SetTable.below f j<f.size:=()
  have e:=jY o;have:=h1 _ _ c e;have:=b3 _ _ (zx _) e;omega
 .by_cases d:i<SetTable.below f j
  .have o:i<f.size:=()
   have e:=jY o;have:=b2 _ _ d e;have:=h2 _ _ (zx _) e;omega
  .omega
theorem Vl{f:Array Nat}(u:Up f){j:Nat}(G:f[SetTable.below f j]?≠some j):Up (SetTable.insertAt f (SetTable.below f j) j):=by
 obtain⟨b1,b2,b3⟩:=zay u j;unfold Up SetTable.insertAt;generalize SetTable.below f j=p at *
 have D:((f.extract 0 p).push j++f.extract p f.size).toList=f.toList.take p++(j::f.toList.drop p):=by
  simp[Array.toList_extract,List.extract_eq_drop_take];exact Yg 1e3
 rw[D,List.pairwise_append];have C:f.toList.Pairwise (·< ·):=u
 refine{C.sublist (zbI _ _),zbL.mpr {λa w=>?_,C.sublist (List.drop_sublist _ _)},λa w b hb=>?_}
 .obtain⟨k,hk,e⟩:=zgn.mp w
  have o:f[k+p]? =some a:=by rw[<- vR,zO];exact{(),by rw[<- e];congr 1;omega}
  have:=b3 (k+p) a () o
  by_cases q:k=0
  .subst q
   rw[yM] at o;exact Nat.lt_of_le_of_ne this λz=>G (by rw[o,z])
  .have hp:p<f.size:=by rw[jt] at hk;omega
   have:=b3 p _ (zx _) (jY hp);have:=u.lt (jY hp) o ()
   omega
 .obtain⟨k,hk,e⟩:=List.mem_take_iff_getElem.mp w
  have o:f[k]? =some a:=by rw[<- vR,zO];exact{(),e}
  have A:=b2 k a () o
  rcases zP.mp hb with z | z
  .rw[z];exact A
  .obtain⟨B,E,e2⟩:=zgn.mp z
   have t:f[B+p]? =some b:=by rw[<- vR,zO];exact{(),by rw[<- e2];congr 1;omega}
   have:=b3 (B+p) b () t
   omega
structure TabOk(b:Bool)(t:SetTable):Prop where
 up:Up t.place
 no:t.dummies=#[]
 led:t.led=b
theorem Xk(j:Nat):SetTable.has #[] j=false:=by
 unfold SetTable.has;rw[show(#[]:Array Nat)[SetTable.below #[] j]? =none from QU 1e3]
 rfl
theorem zdG{t:SetTable}(h:t.dummies=#[])(j:Nat):(t.slot j=.empty/\t.place[SetTable.below t.place j]?≠some j)\/∃i,t.slot j=.live i:=by
 unfold SetTable.slot;rw[h,Xk];dsimp only;by_cases c:(t.place[SetTable.below t.place j]? ==some j)=true
 .rw[zt c]
  exact .inr {_,rfl}
 .rw[zq c,zq jr]
  exact .inl {rfl,λz=>c (by rw[z];simp)}
theorem Vd(t:SetTable)(p:SetTable.Probe):(t.advance p).dummy=p.dummy:=by
 unfold SetTable.advance;split
 .rfl
 .rfl
theorem Q5{t:SetTable}(hd:t.dummies=#[]){f:Nat->Int}{h:Int}:∀(fuel:Nat) (p:SetTable.Probe) (j:Nat) (d:Option Nat),SetTable.probe.go t f h fuel p=some (.empty j d)->t.place[SetTable.below t.place j]?≠some j/\d=p.dummy
 | 0,p,j,d,e=>by unfold SetTable.probe.go at e;cases e
 | fuel+1,p,j,d,e=>by
  unfold SetTable.probe.go at e;rcases zdG hd p.j with ⟨c1,c2⟩ | ⟨i,c⟩
  .rw[c1] at e
   cases e;exact⟨c2,rfl⟩
  .rw[c] at e
   dsimp only at e;split at e
   .cases e
   .have:=Q5 hd fuel _ j d e
    rw[Vd] at this;exact this
theorem zhN{t:SetTable}(hd:t.dummies=#[]){h:Int}{s:Nat}{w:Bool}(e:t.freeSlot h=some (s,w)):t.place[SetTable.below t.place s]?≠some s:=by
 unfold SetTable.freeSlot SetTable.probe at e;split at e
 .rename_i j d q
  obtain⟨h1,h2⟩:=Q5 hd _ _ _ _ q;cases(show d=none from h2)
  cases e;exact h1
 .cases e
theorem zeB(n:Nat):Up (Array.range n):=by
 unfold Up;rw[Array.toList_range];exact List.pairwise_lt_range
theorem TabOk.stand{b:Bool}{t:SetTable}(h:TabOk b t)(n:Nat):TabOk b (t.standIn n):={zeB n,rfl,h.led}
theorem TabOk.plain{b p:Bool}{t:SetTable}(h:TabOk b t):TabOk b { t with plain:=p }:=⟨h.up,h.no,h.led⟩
theorem TabOk.or{b:Bool}{t:SetTable}(h:TabOk b t)(n:Nat):TabOk b (t.orStandIn n):=by
 unfold SetTable.orStandIn;split
 .exact h
 .exact h.stand n
theorem TabOk.layNew{b:Bool}{t:SetTable}(h:TabOk b t)(o:Array (Int×Value))(k:Int)(x:Value):TabOk b (layNew t o k x).2.1:=by
 unfold PySem.layNew;split
 .rename_i f w e
  have hp:TabOk b (t.put f).1:={Vl h.up (zhN h.no e),by
   show(if SetTable.has t.dummies f=true then _ else t.dummies)=#[]
   rw[h.no,Xk];rfl,h.led}
  exact hp.or _
 .exact h.stand _
theorem zb6{α:Type}(m:Nat)(f:Nat->Option α):(((List.range m).filterMap λj=>(f j).map (j,·)).map (·.1)).Pairwise (·< ·):=by
 have o:∀l:List Nat,((l.filterMap λj=>(f j).map (j,·)).map (·.1)).Sublist l:=λl=>by
  induction l with
  | nil=>exact .slnil
  | cons x l e=>
   rw[Yb];cases f x with
   | none=>exact e.cons _
   | some y=>exact e.cons₂ _
 exact List.Pairwise.sublist (o _) List.pairwise_lt_range
theorem TabOk.relay{b:Bool}{t:SetTable}(h:TabOk b t)(u:Array (Int×Value))(n:Nat):TabOk b (relayAll t u n).2.1:=by
 unfold relayAll;split
 .rename_i w o e
  dsimp only;split
  .unfold SetTable.relaid SetTable.laid at e
   obtain⟨f,_,e2⟩:=Option.bind_eq_some_iff.mp e;cases e2;refine{?_,rfl,h.led}
   exact zb6 _ λj=>f.getD j none
  .exact h.stand _
 .exact h.stand _
theorem TabOk.fresh(b:Bool):TabOk b (.fresh 0 0 b):=⟨List.Pairwise.nil,rfl,rfl⟩
theorem zd1{α:Type}{l:List α}{x:α}(h:l.Nodup)(hx:x∉l):(l++[x]).Nodup:=by
 rw[ZV];exact{h,1e3,λa f b hb e=>hx (by rw[zR] at hb;rw[<- hb,<- e];exact f)}
theorem Q6{α β:Type}{R:α->β->Prop}{A o:List β}(p:o.Perm A):∀{f:List α},Paired R f A->∃e,e.Perm f/\Paired R e o:=by
 induction p with
 | nil=>intro f h;exact{f,.refl _,h}
 | cons y _ C=>
  intro f h;cases h with
  | cons r t=>
   obtain⟨e,D,B⟩:=C t;exact{_::e,D.cons _,.cons r B}
 | swap y z l=>
  intro f h;cases h with
  | cons r t=>
   cases t with
   | cons H I=>exact{_,.swap _ _ _,.cons H (.cons r I)}
 | trans _ _ u w=>
  intro f h;obtain⟨L,E,h1⟩:=w h;obtain⟨J,G,h2⟩:=u h1;exact{J,G.trans E,h2}
theorem J6{α β:Type}{R:α->β->Prop}{x:α}{y:β}(r:R x y):∀{e:List α} {f:List β},Paired R e f->Paired R (e++[x]) (f++[y])
 | _,_,.nil=>.cons r .nil
 | _,_,.cons h t=>.cons h (J6 r t)
theorem J4{α β:Type}{R:α->β->Prop}:∀{e:List α} {f:List β},Paired R e f->(∀x∈e,∃y∈f,R x y)/\∀y∈f,∃x∈e,R x y
 | _,_,.nil=>{λx h=>(nomatch h),λy h=>(nomatch h)}
 | _,_,.cons h t=>by
  obtain⟨a,b⟩:=J4 t;refine{λx hx=>?_,λy hy=>?_}
  .rcases zP.mp hx with z | z
   .rw[z];exact{_,xp,h}
   .obtain⟨y,hy,r⟩:=a x z
    exact{y,jf _ hy,r}
  .rcases zP.mp hy with z | z
   .rw[z];exact{_,xp,h}
   .obtain⟨x,hx,r⟩:=b y z
    exact{x,jf _ hx,r}
section
variable{u:Program}{w:World}{K:Type}[DecidableEq K](f:KeyKind u w K)
def ElX(t:List (Int×Value))(B:List K):Prop:=ElemsOf f t/\∃o,o.Perm B/\Paired (λk (e:Int×Value)=>f.is k e.2=true) o t
def ObX(b:Bool)(o:Obj)(B:List K):Prop:=∃e C t,o.ExactSet/\o.data=.set e C t/\ElX f e.toList B/\B.Nodup/\e.size<scanBound/\t.fits e.size=true/\TabOk b t
def SetX(b:Bool)(h:Heap)(a:Addr)(e:List K):Prop:=∃o,h.get? a=some o/\ObX f b o e
variable{f}
theorem ElX.perm{t e:List (Int×Value)}{B:List K}(h:ElX f t B)(p:e.Perm t):ElX f e B:=by
 obtain⟨h1,C,D,H⟩:=h;obtain⟨o,G,pr2⟩:=Q6 p H;exact{h1.perm p,o,G.trans D,pr2}
theorem ElX.len{e:List (Int×Value)}{o:List K}(h:ElX f e o):e.length=o.length:=by
 obtain⟨_,t,B,C⟩:=h;rw[<- B.length_eq];exact(XF C).symm
theorem ElX.mem{o:List (Int×Value)}{t:List K}(h:ElX f o t)(k:K):k∈t↔∃e∈o,f.is k e.2=true:=by
 obtain⟨_,C,D,G⟩:=h;obtain⟨a,b⟩:=J4 G;rw[<- D.mem_iff];refine{a k,λ⟨e,B,r⟩=>?_}
 obtain⟨I,hk,H⟩:=b e B;rwa[f.inj _ _ _ r H]
theorem ElX.snoc{t:List (Int×Value)}{B:List K}(h:ElX f t B){k:K}{x:Value}(hk:f.is k x=true)(hx:x.scannable=true):ElX f (t++[(f.hash k,x)]) (B++[k]):=by
 obtain⟨h1,o,C,D⟩:=h;exact{h1.push hk hx,o++[k],C.append_right _,J6 (R:=λk (e:Int×Value)=>f.is k e.2=true) hk D}
theorem SetX.at{b:Bool}{h t:Heap}{a:Addr}{B:List K}(x:SetX f b h a B)(k:∀o,h.get? a=some o->t.get? a=some o):SetX f b t a B:=let ⟨o,e,r⟩:=x;{o,k o e,r}
variable{A:Around}{E:Value->Shared->Prop}{s:Shared}
theorem zkz{b:Bool}{h:Heap}{a:Addr}{o:Obj}{J:Array (Int×Value)}{G:Nat}{t:SetTable}(M:h.get? a=some o)(C:o.ExactSet)(hd:o.data=.set J G t){e:Array (Int×Value)}{B:SetTable}{H:List K}(I:ElX f e.toList H)(N:H.Nodup)
  (hb:e.size<scanBound) (L:B.fits e.size=true) (O:TabOk b B):∃D,(h.update a (Obj.putSet e B)).get? a=some D/\D.ExactSet/\D.data=.set e (G+1) B/\ObX f b D H:=by
 have g:=xG (Obj.putSet e B) M (by rw[putSet_of e B hd];rfl)
 rw[putSet_of e B hd] at g;exact{_,g,C,rfl,e,G+1,B,C,rfl,I,N,hb,L,O}
theorem zh9{b:Bool}{g:Bool->Sem Unit}(hg:∀(c:Bool) (s1:Shared) (M:Unit->Shared->Prop),M Unit.unit s1->wpAny (model u w) A (g c) M E s1){a:Addr}{o:Obj}{es:Array (Int×Value)}{ep:Nat}{t:SetTable}(Q:s.heap.get? a=some o)(H:o.ExactSet)
  (hd:o.data=.set es ep t) {e:Array (Int×Value)} {C:SetTable} {I:List K} (O:ElX f e.toList I) (U:I.Nodup) (hb:e.size<scanBound) (hf:C.fits e.size=true) (tb:TabOk b C) {B:Bool} {R:Option Bool->Shared->Prop}
  (h:∀G,Heap.SameBut a s.heap G->SetX f b G a I->R (some true) { s with heap:=G }) :
  wpAny (model u w) A (storeSet a e C >>= λ_=>if(!B&&C.tooFull)=true then g (relayAll C e (SetTable.grown e.size)).2.2 >>= λ_=>storeSet a (relayAll C e (SetTable.grown e.size)).1 (relayAll C e (SetTable.grown e.size)).2.1 >>= λ_=>pure (some true) else pure (some true)) R E s:=by
 obtain⟨o1,D,x1,N,J⟩:=zkz Q H hd O U hb hf tb;have sb:=yI s.heap a (Obj.putSet e C);refine zc (wpAny_storeSet_of Q hd ?_ (fits_of_scanBound hb))
 split
 .have Y:=relayAll_perm C e (SetTable.grown e.size)
  have ft:=relayAll_fits C e (SetTable.grown e.size);have tr:=tb.relay e (SetTable.grown e.size);have sz:(relayAll C e (SetTable.grown e.size)).1.size=e.size:=by have:=Y.length_eq;rwa[jt,jt] at this
  obtain⟨o2,g2,x2,d2,L⟩:=zkz D x1 N (O.perm Y) U (by rw[sz];exact hb) ft tr
  exact zc (hg _ _ _ (zc (wpAny_storeSet_of D N (zg (h _ (sb.trans (yI _ a _)) ⟨o2,g2,L⟩)) (fits_of_scanBound (by rw[sz];exact hb)))))
 .exact zg (h _ sb ⟨o1,D,J⟩)
theorem zk4{b:Bool}{a:Addr}{B:List K}{k:K}{x:Value}{Q:Bool->Shared->Prop}(C:f.is k x=true)(M:x.scannable=true)(hS:SetX f b s.heap a B)(J:B.length+1<scanBound)
  (h:∀H c,Heap.SameBut a s.heap H->SetX f b H a (if k∈B then B else B++[k])->Q c { s with heap:=H }):wpAny (model u w) A (setAddHashed a x (f.hash k)) Q E s:=by
 obtain⟨o,ho,N,ep,t,I,hd,D,nd,hb,hf,tb⟩:=hS;have ln:=D.len;rw[jt] at ln;unfold setAddHashed setAddHashedIn;refine jy (zc (QQ ho hd hf ?_));dsimp only
 rw[byScan_of M hb D.1,zt rfl];unfold setAddByScan;refine zc (zc (j9 (zc (wpAny_setScan_of C ho hd hf D.1 ?_))))
 cases hr:List.findIdx? (λe=>f.is k e.2) N.toList with
 | some j=>
  obtain⟨hj,ab,_⟩:=List.findIdx?_eq_some_iff_getElem.mp hr
  have hk:k∈B:=(D.mem k).mpr {_,xP hj,ab};have:=h s.heap false (Heap.SameBut.refl a s.heap) (by rw[zt hk];exact⟨o,ho,N,ep,t,I,hd,D,nd,hb,hf,tb⟩)
  exact zg (zg this)
 | none=>
  have hk:k∉B:=λz=>by
   obtain⟨e,he,r⟩:=(D.mem k).mp z;have:=List.findIdx?_eq_none_iff.mp hr e he
   rw[r] at this;cases this
  rw[zq hk] at h;have gw:∀(c:Bool) (s1:Shared) (Q':Unit->Shared->Prop),Q' Unit.unit s1->wpAny (model u w) A (match c with | true=>rule "set.scan.the-table-gave-way" | false=>pure Unit.unit) Q' E s1:=λc s1 Q' hq=>by
   cases c
   .exact zg hq
   .exact j9 hq
  have pm:=layNew_perm t N (f.hash k) x;have U:=layNew_fits t N (f.hash k) x;have tn:=tb.layNew N (f.hash k) x;generalize layNew t N (f.hash k) x=L at pm U tn;obtain⟨O,t1,wd,ac⟩:=L;dsimp only at pm U tn ⊢;rw[zbF] at pm;have G:ElX f O.toList (B++[k]):=(D.snoc C M).perm pm;have l1:=G.len;rw[jt,qu] at l1;have Y:O.size<scanBound:=by rw[l1];exact J
  have aa:(B++[k]).Nodup:=zd1 nd hk;refine zc (gw _ _ _ ?_)
  split
  .rw[hashByValue_scannable 8 M]
   refine zc (zg (zh9 gw ho I hd G aa Y ?_ ?_ λH sb sx=>zg (h H true sb sx)))
   .split
    .exact U
    .exact SetTable.fits_plain_off U
   .split
    .exact tn
    .exact tn.plain
  .exact zc (zg (zh9 gw ho I hd G aa Y U tn λH sb sx=>zg (h H true sb sx)))
end
def Jq(w:World):Bool:=!w.params.followText "set-order"
def Zi(w:World):Obj:={ cls:=.type "set",dict:=none,data:=.set #[] 0 (.fresh 0 0 (Jq w)) }
section
variable{K:Type}[DecidableEq K]
def xI(e:List K)(k:K):List K:=if k∈e then e else e++[k]
def vp(o e:List K):List K:=e.foldl xI o
theorem QZ(e:List K)(k:K):(xI e k).length<=e.length+1:=by
 unfold xI;split
 .omega
 .rw[qu];exact zx _
theorem Yx:∀(o e:List K),(vp e o).length<=e.length+o.length
 | [],e=>zx _
 | j::o,e=>by
  have h1:=Yx o (xI e j);have h2:=QZ e j;show(vp (xI e j) o).length<=_;rw[qH];omega
theorem Yw:∀{o e:List K} {x:K},x∈vp e o↔x∈e\/x∈o
 | [],e,x=>by simp[vp]
 | j::o,e,x=>by
  show x∈vp (xI e j) o↔_;rw[Yw,zP];unfold xI;split
  .rename_i h
   constructor
   .rintro(z | z)
    .exact .inl z
    .exact .inr (.inr z)
   .rintro(z | z | z)
    .exact .inl z
    .rw[z];exact .inl h
    .exact .inr z
  .rw[qL,zR,or_assoc]
theorem zdz{o e:List K}{i:Nat}{k:K}(h:e[i]? =some k):vp (xI o k) (e.drop (i+1))=vp o (e.drop i):=by
 obtain⟨h1,h2⟩:=zO.mp h;rw[zgo h1,h2];rfl
variable{f:Program}{w:World}{knd:KeyKind f w K}{A:Around}{R:Result->Shared->Prop}{it l S:Addr}{items:Array Value}{keys:List K}{b:Bool}
theorem zgV(hh:A.handled=none)(J:l≠it)(L:l≠S)(D:it≠S)(Y:keys.length=items.size)(I:∀(j:Nat) (u:Value),items[j]? =some u->∃k,keys[j]? =some k/\knd.is k u=true/\u.scannable=true) :
  ∀(m:Nat) (s:Shared) (i:Nat) (B:List K),items.size-i=m->i<=items.size->s.heap.IsListIter it l i->s.heap.IsList l items->SetX knd b s.heap S B->B.length+m+1<scanBound ->
   (∀C U,SetX knd b C S (vp B (keys.drop i))->(∀c o,c≠it->c≠S->s.heap.get? c=some o->C.get? c=some o)->R (.ok (.ret .none)) { s with heap:=C,toks:=U }) ->
   codeAny 0#n A (.builtin "set.update.loop" {[.ref S,.ref it],[]}) R s:=by
 intro m;induction m with
 | zero=>
  intro s i B hm hi M H N hz q;have E:items[i]? =none:=by simp;omega
  refine codeAny_builtin zgC ?_
  rw[yg zb1 _];refine zc (wpAny_pyNext_list_end hh M H E λC hx=>zg ?_)
  have e0:vp B (keys.drop i)=B:=by rw[List.drop_eq_nil_of_le ()];rfl
  exact q C s.toks (by rw[e0];exact N.at λo e=>hx S o (zS D) e) λc o hc _ e=>hx c o hc e
 | succ m ih=>
  intro s i B hm hi M H N hz q;have G:i<items.size:=()
  obtain⟨u,hu⟩:∃u,items[i]? =some u:={_,jY G};obtain⟨k,ek,kk,sc⟩:=I i u hu;refine codeAny_builtin zgC ?_
  rw[yg zb1 _];refine zc (wpAny_pyNext_list_item M H hu λh1 i1 s1=>?_)
  have k1:∀c o,c≠it->s.heap.get? c=some o->h1.get? c=some o:=λc o hc e=>(s1.2 c hc).trans e
  refine zc (jy (show wpAny _ _ (setAdd S u) _ _ _ from jy (zc (knd.pyHash kk ?_))))
  refine zk4 (s:={ s with heap:=h1,toks:=s.toks+1 }) kk sc (N.at λo e=>k1 S o (zS D) e) () λh2 c sb Q=>?_
  have k2:∀c o,c≠it->c≠S->s.heap.get? c=some o->h2.get? c=some o:=λc o hc t e=>(sb.2 c t).trans (k1 c o hc e)
  have lk:=QZ B k;refine zg {plainId_quiet zb1 _,?_}
  refine ih { s with heap:=h2,toks:=s.toks+1 } (i+1) (xI B k) () G (i1.at λo e=>(sb.2 it D).trans e) (H.at λo e=>k2 l o J L e) Q () λC U O kp=>?_
  exact q C U (by rw[<- zdz ek];exact O) λc o hc t e=>kp c o hc t (k2 c o hc t e)
end
section
variable{f:Program}{w:World}{A:Around}{E:Value->Shared->Prop}{s:Shared}
theorem zgO{T t o:String}{args:List Value}{Q Q1:Value->Shared->Prop}(B:TypeCalled T t o)(L:checkTypeCall T {args,[]}=pure Unit.unit)
  (G:codeAny 0#n A.in1 (.call (.builtin t) {.type T::args,[]}) (wants Q1 E) s)
  (C:∀u s1,Q1 u s1->s1.TypeIs u T/\codeAny 0#n A.in1 (.call (.builtin o) {u::args,[]}) (wants (λr s2=>r=.none/\Q u s2) E) s1) :
  wpAny 0#n A (call (.type T) args) Q E s:=by
 obtain⟨c,tl,N⟩:=B.mro;have O:=B.made;have U:=B.sub;have Y:=B.notType;have m5:=B.canCreate;refine wpAny_call (codeAny_of_tree (show wpAny _ _ (callAny (.type T) _) _ _ _ from zg {Code.quiet_builtin _ (by decide +kernel),codeAny_builtin F.entry_type_call ?_}))
 rw[Around.under_plain (weight_type_call_type T args []) rfl];repeat' (first| assumption | wp_step)
 refine codeAny_mono G λr s1 H=>?_
 match r,H with
 | .error e,H=>exact H
 | .ok (.ret u),H=>
  obtain⟨ty,I⟩:=C _ _ H;have m6:=B.init.lookup;have m7:=B.init.bind u;repeat' (first| assumption | wp_step)
  refine codeAny_mono I λM s2 D=>?_
  match M,D with
  | .error e,D=>exact D
  | .ok (.ret v),⟨J,hq⟩=>
   subst J;repeat' (first| assumption | wp_step)
theorem zfL(x:Value){e:Value->Shared->Prop}(h:e (.ref s.heap.objs.size) { s with heap:=s.heap.push (Zi w) }) :
  codeAny 0#n A (.call (.builtin "set.__new__") {[.type "set",x],[]}) (wants e E) s:=by
 refine codeAny_call_builtin F.plain_set_new F.entry_set_new (vS (F.newCall_set_1 x) ?_)
 unfold Builtin.«set.__new__» Builtin.Frozenset.newClass;have o:=sub_set_self;obtain⟨hp,g,d,t,os⟩:=s;dsimp only;wp_walk
 refine QN (zg ?_)
 simp only[newObj];exact zc (wpAny_alloc (zg (zg h)))
end
section
variable{f:Program}{w:World}{K:Type}[DecidableEq K]{knd:KeyKind f w K}{A:Around}{E:Value->Shared->Prop}{s:Shared}
theorem YO(h:Heap):SetX knd (Jq w) (h.push (Zi w)) h.objs.size []:=
 {Zi w,qo _ rfl,#[],0,_,⟨rfl,rfl,rfl⟩,rfl,{λe o=>by simp at o,[],.refl _,.nil},vU,1e1,rfl,TabOk.fresh _}
theorem zem{l:Addr}{t:Array Value}{n:Nat}{keys:List K}{Q:Value->Shared->Prop}(hh:A.handled=none)(Y:s.heap.get? l=some { cls:=.type "list",data:=.seq t n })(G:keys.length=t.size)(hb:t.size+1<scanBound)
  (J:∀(j:Nat) (u:Value),t[j]? =some u->∃k,keys[j]? =some k/\knd.is k u=true/\u.scannable=true)
  (h:∀C O,SetX knd (Jq w) C s.heap.objs.size (vp [] keys)->(∀c o,s.heap.get? c=some o->C.get? c=some o)->Q 0#m { s with heap:=C,toks:=O }) :
  wpAny 0#n A (call (.type "set") [.ref l]) Q E s:=by
 refine zgO (Q1:=λu s1=>u=.ref s.heap.objs.size/\s1={ s with heap:=s.heap.push (Zi w) }) F.called_set (F.typeCall_set_1 (.ref l)) (zfL (.ref l) ⟨rfl,rfl⟩) λu s1 e=>?_
 obtain⟨eu,es⟩:=e;subst eu es;have U:(s.heap.push (Zi w)).get? s.heap.objs.size=some (Zi w):=qo _ rfl;have I:Shared.TypeIs { s with heap:=s.heap.push (Zi w) } 0#m "set" :={_,U,rfl};have B:=zH (Zi w) Y;refine{I,codeAny_call_builtin F.called_set.init.plain F.entry_set_init (check_set_init_1 I ?_)}
 have m1:=F.sub_list_set;have m2:=F.sub_list_frozenset;have m3:(Value.type "list" == Value.type "dict")=false:=1e1
 have D:l<s.heap.objs.size:=zK Y;unfold Zi at U I B;unfold Builtin.«set.__init__» noKeywords Builtin.Frozenset.updateFrom Zi;generalize H:pyIter=PI;wp_walk
 subst H;refine wpAny_pyIter_list {_,B,rfl,n,rfl} (zc (wpAny_runValue ?_))
 have L:A.in1.in1.in1.handled=none:=by simp[hh]
 have N:(s.heap.push (Zi w)).objs.size=s.heap.objs.size+1:=jq ..;have M:∀c o,s.heap.get? c=some o->c<s.heap.objs.size:=λc o e=>zK e
 refine zgV (knd:=knd) (b:=Jq w) (A:=A.in1.in1) (S:=s.heap.objs.size) (it:=(s.heap.push (Zi w)).objs.size) (l:=l) (items:=t) (keys:=keys) L (by rw[N];exact zN (vP D)) (zN D) (by rw[N];exact jW (wP _)) G J t.size
  {(s.heap.push (Zi w)).push { cls:=.type "list_iterator",data:=.fields #[.ref l,.int 0 0] },s.gens,s.drawn,s.toks,s.os} 0 [] rfl (qJ _) {_,qo _ rfl,rfl,rfl} {_,zH _ B,rfl,n,rfl} ((YO s.heap).at λo e=>zH _ e) (by rw[yQ];omega) λC O sx kp=>?_
 refine zg (zg {rfl,h C O (by simpa using sx) λc o e=>?_})
 have:=M c o e;exact kp c o (by rw[N];exact zN (vP this)) (zN this) (zH _ (zH _ e))
end
theorem jE:Slot "set_iterator" "__next__" "set_iterator.__next__" :=
 .of (owner:= "set_iterator") (n:= "__next__") (by rw[typeLookup_type,builtinLookup_eq_fast];kernel_rfl) (by decide +kernel) (by decide +kernel) (by decide +kernel)
  (by first| exact .inl (by decide +kernel) | exact .inr (by decide +kernel)) (by rw[isSubtype_type];kernel_rfl)
theorem Zp:entryFor table "set_iterator.__next__" = some Builtin.«set_iterator.__next__»:=entryFor_of_tree (by kernel_rfl)
theorem Ql(x:Value):argsOk "set_iterator.__next__" {[x],[]}:=by unfold argsOk;kernel_rfl
theorem slot_set_iter:Slot "set" (Str.ofString "__iter__") "set.__iter__" :=PySem.F.slot_set_iter
theorem Xm:entryFor table "set.__iter__" = some Builtin.«frozenset.__iter__»:=
 entryFor_alias (id':= "frozenset.__iter__") (by kernel_rfl) (by first| rfl | decide +kernel) (by decide +kernel) (by kernel_rfl)
theorem Vc(x:Value):argsOk "set.__iter__" {[x],[]}:=by unfold argsOk;kernel_rfl
theorem ZH{α:Type}:∀(l:List α) (i:Nat) (h:i<l.length),(l[i]::l.eraseIdx i).Perm l
 | x::l,0,_=>.refl _
 | x::l,i+1,h=>by
  have:=ZH l i (by simpa using h)
  exact(List.Perm.swap _ _ _).trans (this.cons x)
section
variable{M:Model}{A:Around}{E:Value->Shared->Prop}{s:Shared}
theorem zdk{e:Source}{n:Nat}{Q:Nat->Shared->Prop}(f:0<n)(h:∀i,i<n->Q i { s with drawn:=s.drawn.bump e }):wpAny M A (choose e n) Q E s:=λΓ p o=>
 {jW f,h _ (ZK _ f)}
theorem Yo{α:Type}:∀(n:Nat) (e:List α) (s:Shared) {Q:List α->Shared->Prop},e.length<=n->(∀d o,o.Perm e->Q o { s with drawn:=d })->wpAny M A (drawOrder n e) Q E s
 | 0,e,s,Q,f,h=>by
  cases e with
  | nil=>exact zg (h s.drawn [] (.refl _))
  | cons x e=>simp at f
 | n+1,[],s,Q,f,h=>zg (h s.drawn [] (.refl _))
 | n+1,x::e,s,Q,f,h=>by
  unfold drawOrder;refine zc (zdk 1e3 λi t=>?_)
  rw[vo t];dsimp only;refine zc (Yo n ((x::e).eraseIdx i) _ ?_ λd o p=>zg (h d _ ?_))
  .rw[List.length_eraseIdx]
   split<;>simp at* <;>omega
  .exact(p.cons _).trans (ZH _ _ t)
end
theorem zcK{α:Type}(next:Nat->Nat):∀(fuel k:Nat) (left:List α) (e:Array α),left.length<=fuel->(pickOrder.go next fuel k left e).toList.Perm (e.toList++left)
 | 0,k,left,e,h=>by
  cases left with
  | nil=>unfold pickOrder.go;simp
  | cons x f=>simp at h
 | fuel+1,k,left,e,h=>by
  unfold pickOrder.go;cases left with
  | nil=>simp
  | cons x f=>
   have o:next k % (x::f).length<(x::f).length:=ZK _ 1e3
   rw[vo o];dsimp only;have h1:=zcK next fuel (k+1) ((x::f).eraseIdx (next k % (x::f).length)) (e.push ((x::f)[next k % (x::f).length]'o)) (by rw[List.length_eraseIdx,zt o];simp at h ⊢;omega)
   refine h1.trans ?_
   rw[zbF,xE];exact List.Perm.append_left _ (ZH _ _ o)
theorem VF{α:Type}(next:Nat->Nat)(e:Array α):(pickOrder next e).toList.Perm e.toList:=by
 unfold pickOrder;have:=zcK next e.size 0 e.toList #[] 1e3
 simpa using this
def siO(first:Value)(i:Nat)(e:Value)(n f:Nat):Obj:={ cls:=.type "set_iterator",data:=.fields #[first,.int i 0,e,.int n 0,.int f 0] }
section
variable{f:Program}{w:World}{A:Around}{E:Value->Shared->Prop}{h:Heap}{g:Array GenState}{d:Drawn}{u:Nat}{os:OsState}{D a:Addr}{o:Obj}{C:Array (Int×Value)}{B:Nat}{t:SetTable}{i:Nat}
theorem YN{sl:Nat}{x:Value}{nx:Nat}{Q:Fin->Shared->Prop}(I:h.get? D=some (siO (.int sl 0) i (.ref a) C.size B))(U:h.get? a=some o)(hd:o.data=.set C B t)(O:t.fits C.size=true)
  (L:∀(e:Option (Value×Nat)->Shared->Prop),e (some (x,nx)) ⟨h,g,d,u,os⟩->wpAny 0#n A (setNext a sl i B) e E ⟨h,g,d,u,os⟩)
  (hq:∀G,G.get? D=some (siO (.int nx 0) (i+1) (.ref a) C.size B)->Heap.SameBut D h G->Q (.done (.ret x)) ⟨G,g,d,u,os⟩) :
  wpAny 0#n A (Builtin.«set_iterator.__next__» {[.ref D],[]}) Q E ⟨h,g,d,u,os⟩:=by
 unfold siO at I;have M:∀{e:Array (Int×Value)->Shared->Prop},e C ⟨h,g,d,u,os⟩->wpAny 0#n A (setEntries a) e E ⟨h,g,d,u,os⟩:=λq=>wpAny_setEntries_of (s:=⟨h,g,d,u,os⟩) U hd O q
 unfold Builtin.«set_iterator.__next__»;generalize N:setNext=SN at L;generalize H:setField=SF;repeat(any_goals (first| assumption | (with_reducible refine M ?_) | wp_step))
 subst H;have Y:((sl:Int)).toNat=sl:=jC _;have z2:((i:Int)).toNat=i:=jC _;have z3:((B:Int)).toNat=B:=jC _;rw[Y,z2,z3];refine L _ ?_
 refine zc (vV I rfl (by show 0<5;decide) ?_)
 have J:=xG (Obj.mapFields (·.setIfInBounds 0 (rawInt nx))) I rfl
 refine zc (vV J rfl (by show 1<5;decide) (zg (hq _ ?_ ?_)))
 .exact xG (Obj.mapFields (·.setIfInBounds 1 (rawInt ((i:Int)+1)))) J rfl
 .exact(yI _ _ _).trans (yI _ _ _)
theorem Qd{sl:Nat}{Q:Fin->Shared->Prop}(Y:A.handled=none)(L:h.get? D=some (siO (.int sl 0) i (.ref a) C.size B))(ho:h.get? a=some o)(hd:o.data=.set C B t)(U:t.fits C.size=true)
  (J:∀(G:Option (Value×Nat)->Shared->Prop),G none ⟨h,g,d,u,os⟩->wpAny 0#n A (setNext a sl i B) G E ⟨h,g,d,u,os⟩)
  (hq:∀H e,Heap.ExtBut D h H->(∃M,H.get? e=some M/\M.cls=.type "StopIteration")->E (.ref e) ⟨H,g,d,u,os⟩) :
  wpAny 0#n A (Builtin.«set_iterator.__next__» {[.ref D],[]}) Q E ⟨h,g,d,u,os⟩:=by
 unfold siO at L;have N:∀{G:Array (Int×Value)->Shared->Prop},G C ⟨h,g,d,u,os⟩->wpAny 0#n A (setEntries a) G E ⟨h,g,d,u,os⟩:=λq=>wpAny_setEntries_of (s:=⟨h,g,d,u,os⟩) ho hd U q
 unfold Builtin.«set_iterator.__next__»;generalize O:setNext=SN at J;generalize I:setField=SF;repeat(any_goals (first| assumption | (with_reducible refine N ?_) | wp_step))
 subst I;have z1:((sl:Int)).toNat=sl:=jC _;have z2:((i:Int)).toNat=i:=jC _;have z3:((B:Int)).toNat=B:=jC _;rw[z1,z2,z3];refine J _ (zc (vV L rfl (by show 2<5;decide) ?_))
 refine zc (show wpAny _ _ (newExc (.type "StopIteration") []) _ _ _ from ?_)
 unfold newExc newTuple;refine zc (jv (zc (m:=firstArgMember _ _) (vS (a:=Value.none) (by first| rfl | (simp only[firstArgMember];rfl)) (jv ?_))))
 unfold raiseNew;refine zc (QI ?_)
 rw[Y];refine zc (zg (yK (hq _ _ (λb p hb e=>?_) {_,qo _ rfl,rfl})))
 exact zH _ (zH _ ((vm _ _ (zS hb)).trans e))
end
section
variable{f:Program}{w:World}{A:Around}{E:Value->Shared->Prop}{s:Shared}{a:Addr}{o:Obj}{u:Array (Int×Value)}{B:Nat}{t:SetTable}{i C:Nat}
theorem JI{Q:Bool->Shared->Prop}(h:Q (w.params.followText "set-order") s):wpAny 0#n A setsByText Q E s:=zc (QN (zg h))
theorem VM{Q:Option (Value×Nat)->Shared->Prop}(D:w.params.followText "set-order" = true)(H:s.heap.get? a=some o)(hd:o.data=.set u B t)(G:t.fits u.size=true)
  (h:Q (((pickOrder (w.params.setOrder a B) u)[i]?).map λe=>(e.2,C)) s):wpAny 0#n A (setNext a C i B) Q E s:=by
 unfold setNext;refine zc (QQ H hd G (zc (JI ?_)))
 rw[D,zt rfl,zq 1e3]
 refine zc ?_
 unfold setWalk;refine zc (QQ H hd G (zc (JI ?_)))
 rw[D,zt rfl];exact zc (QN (zg (zg h)))
theorem Y4{Q:Option (Value×Nat)->Shared->Prop}(e:w.params.followText "set-order" = false)(hp:(!t.plain&&decide (u.size>1))=false)(G:t.led=true)(H:s.heap.get? a=some o)(hd:o.data=.set u B t)(D:t.fits u.size=true)
  (h:Q (match u[SetTable.below t.place C]?,t.place[SetTable.below t.place C]? with | some (_,x),some j=>some (x,j+1) | _,_=>none) s):wpAny 0#n A (setNext a C i B) Q E s:=by
 unfold setNext;refine zc (QQ H hd D (zc (JI ?_)))
 rw[e,zq jr];refine(show wpAny _ _ (if(!t.plain&&decide (u.size>1))=true then _ else _) _ _ _ from ?_)
 rw[hp,zq jr];refine zc (show wpAny _ _ (if(!t.led&&!u.isEmpty)=true then unsupported "set:maker-not-led" else pure Unit.unit) _ _ _ from ?_)
 rw[G];exact zg (zg h)
theorem za9{x:Value}{G:Int}{p:Nat}{Q:Value->Shared->Prop}(D:s.heap.get? a=some o)(hd:o.data=.set u B t)(e:t.fits u.size=true)(hx:u[p]? =some (G,x))(h:Q x s):wpAny 0#n A (setNextDrawn a p B) Q E s:=by
 unfold setNextDrawn;refine zc (QQ D hd e ?_)
 dsimp only;rw[zq 1e3,hx]
 exact zg h
theorem zf5{Q:Bool->Shared->Prop}(D:s.heap.get? a=some o)(hd:o.data=.set u B t)(e:t.fits u.size=true)(h:Q (!w.params.followText "set-order" && (!t.plain&&decide (u.size>1))) s):wpAny 0#n A (setDrawn a) Q E s:=by
 unfold setDrawn;exact zc (QQ D hd e (zc (JI (zg h))))
end
section
variable{f:Program}{w:World}{A:Around}{E:Value->Shared->Prop}{h:Heap}{g:Array GenState}{d:Drawn}{u:Nat}{os:OsState}{D a T:Addr}{o H:Obj}{B:Array (Int×Value)}{C:Nat}{t:SetTable}{i n c:Nat}{G:Array Value}
theorem zdI{x:Value}{hs:Int}{p:Nat}{Q:Fin->Shared->Prop}(N:h.get? D=some (siO (.ref T) i (.ref a) B.size C))(U:h.get? a=some o)(hd:o.data=.set B C t)(O:t.fits B.size=true)(hT:h.get? T=some H)(M:H.data=.seq G c)
  (hp:G[i]? =some (.int p 0)) (hx:B[p]? =some (hs,x)) (hq:∀I,I.get? D=some (siO (.ref T) (i+1) (.ref a) B.size C)->Heap.SameBut D h I->Q (.done (.ret x)) ⟨I,g,d,u,os⟩) :
  wpAny 0#n A (Builtin.«set_iterator.__next__» {[.ref D],[]}) Q E ⟨h,g,d,u,os⟩:=by
 unfold siO at N;have Y:∀{e:Array (Int×Value)->Shared->Prop},e B ⟨h,g,d,u,os⟩->wpAny 0#n A (setEntries a) e E ⟨h,g,d,u,os⟩:=λq=>wpAny_setEntries_of (s:=⟨h,g,d,u,os⟩) U hd O q
 have hS:∀{e:Option (Array Value)->Shared->Prop},e (some G) ⟨h,g,d,u,os⟩->wpAny 0#n A (seqItems? (.ref T)) e E ⟨h,g,d,u,os⟩:=λq=>xc (s:=⟨h,g,d,u,os⟩) hT M q
 unfold Builtin.«set_iterator.__next__»;generalize L:setNextDrawn=SN;generalize J:setField=SF;repeat(any_goals (first| assumption | (with_reducible refine Y ?_) | (with_reducible refine hS ?_) | wp_step))
 subst J L;have z2:((i:Int)).toNat=i:=jC _;have z3:((C:Int)).toNat=C:=jC _;rw[z2,z3,hp];refine zc (show wpAny _ _ (setNextDrawn a ((p:Int)).toNat C) _ _ _ from ?_)
 rw[jC];refine za9 (s:=⟨h,g,d,u,os⟩) U hd O hx (zc (vV N rfl (by show 1<5;decide) (zg (hq _ ?_ (yI _ _ _)))))
 exact xG (Obj.mapFields (·.setIfInBounds 1 (rawInt ((i:Int)+1)))) N rfl
theorem X4{Q:Fin->Shared->Prop}(hh:A.handled=none)(O:h.get? D=some (siO (.ref T) i (.ref a) B.size C))(ho:h.get? a=some o)(hd:o.data=.set B C t)(hf:t.fits B.size=true)(hT:h.get? T=some H)(N:H.data=.seq G c)
  (hp:G[i]? =none) (hq:∀J e,Heap.ExtBut D h J->(∃U,J.get? e=some U/\U.cls=.type "StopIteration")->E (.ref e) ⟨J,g,d,u,os⟩) :
  wpAny 0#n A (Builtin.«set_iterator.__next__» {[.ref D],[]}) Q E ⟨h,g,d,u,os⟩:=by
 unfold siO at O;have hE:∀{I:Array (Int×Value)->Shared->Prop},I B ⟨h,g,d,u,os⟩->wpAny 0#n A (setEntries a) I E ⟨h,g,d,u,os⟩:=λq=>wpAny_setEntries_of (s:=⟨h,g,d,u,os⟩) ho hd hf q
 have hS:∀{I:Option (Array Value)->Shared->Prop},I (some G) ⟨h,g,d,u,os⟩->wpAny 0#n A (seqItems? (.ref T)) I E ⟨h,g,d,u,os⟩:=λq=>xc (s:=⟨h,g,d,u,os⟩) hT N q
 unfold Builtin.«set_iterator.__next__»;generalize M:setNextDrawn=SN;generalize L:setField=SF;repeat(any_goals (first| assumption | (with_reducible refine hE ?_) | (with_reducible refine hS ?_) | wp_step))
 subst L M;have z2:((i:Int)).toNat=i:=jC _;rw[z2,hp];refine zc (vV O rfl (by show 0<5;decide) ?_)
 have Y:=xG (Obj.mapFields (·.setIfInBounds 0 (rawInt 0))) O rfl
 refine zc (vV Y rfl (by show 2<5;decide) ?_)
 refine zc (show wpAny _ _ (newExc (.type "StopIteration") []) _ _ _ from ?_)
 unfold newExc newTuple;refine zc (jv (zc (m:=firstArgMember _ _) (vS (a:=Value.none) (by first| rfl | (simp only[firstArgMember];rfl)) (jv ?_))))
 unfold raiseNew;refine zc (QI ?_)
 rw[hh];refine zc (zg (yK (hq _ _ (λb p hb e=>?_) {_,qo _ rfl,rfl})))
 exact zH _ (zH _ ((vm _ _ (zS hb)).trans ((vm _ _ (zS hb)).trans e)))
end
section
variable{f:Program}{w:World}{A:Around}{E:Value->Shared->Prop}{s:Shared}{o:Addr}{t:Obj}
theorem zg0{x:Value}{Q:Option Value->Shared->Prop}{N:Heap->Prop}(B:s.heap.get? o=some t)(hc:t.cls=.type "set_iterator")
  (G:∀(u:Fin->Shared->Prop) (D:Value->Shared->Prop),(∀e,N e->Heap.SameBut o s.heap e->u (.done (.ret x)) { s with heap:=e })->wpAny 0#n A.in1 (Builtin.«set_iterator.__next__» {[.ref o],[]}) u D s)
  (hq:∀e,N e->Heap.SameBut o s.heap e->Q (some x) { s with heap:=e }):wpAny 0#n A (pyNext (.ref o)) Q E s:=by
 unfold pyNext;refine zc (wN (vn (name:=Str.ofString "__next__") (T:= "set_iterator") {_,B,hc} jE (jG jE (T:= "set_iterator") {_,B,hc} Zp (G _ _ λe n H=>{x,rfl,zg (hq e n H)}) (Ql _))))
theorem zgZ{Q:Option Value->Shared->Prop}(D:s.heap.get? o=some t)(hc:t.cls=.type "set_iterator")
  (I:∀(H:Fin->Shared->Prop) (C:Value->Shared->Prop),(∀u e,Heap.ExtBut o s.heap u->(∃B,u.get? e=some B/\B.cls=.type "StopIteration")->C (.ref e) { s with heap:=u })->wpAny 0#n A.in1 (Builtin.«set_iterator.__next__» {[.ref o],[]}) H C s)
  (hq:∀u,Heap.ExtBut o s.heap u->Q none { s with heap:=u }):wpAny 0#n A (pyNext (.ref o)) Q E s:=by
 unfold pyNext;refine zc (wN (vn (name:=Str.ofString "__next__") (T:= "set_iterator") {_,D,hc} jE (jG jE (T:= "set_iterator") {_,D,hc} Zp (I _ _ λu e J B=>?_) (Ql _))))
 obtain⟨B,e1,e2⟩:=B;refine zc (xC (T:= "StopIteration") (b:=true) {_,e1,e2} isSubtype_stop ?_)
 exact zg (hq u J)
end
theorem Qc:Slot "set_iterator" "__iter__" "set_iterator.__iter__" :=
 .of (owner:= "set_iterator") (n:= "__iter__") (by rw[typeLookup_type,builtinLookup_eq_fast];kernel_rfl) (by decide +kernel) (by decide +kernel) (by decide +kernel)
  (by first| exact .inl (by decide +kernel) | exact .inr (by decide +kernel)) (by rw[isSubtype_type];kernel_rfl)
theorem X8:entryFor table "set_iterator.__iter__" = some Builtin.«dict_keyiterator.__iter__»:=
 entryFor_alias (id':= "dict_keyiterator.__iter__") (by kernel_rfl) (by first| rfl | decide +kernel) (by decide +kernel) (by kernel_rfl)
theorem WQ(x:Value):argsOk "set_iterator.__iter__" {[x],[]}:=by unfold argsOk;kernel_rfl
section
variable{C:Program}{w:World}{A:Around}
theorem JR{B:Addr}{L:List Addr}{n:Nat}{P:Nat->Value->Prop}{St:Nat->Heap->Prop}(hf:B∈L)(U:∀i h,St i h->∃H,h.get? B=some H/\H.cls=.type "set_iterator")
  (N:∀i h u,St i h->(∀b∈L,∀o,h.get? b=some o->u.get? b=some o)->St i u)
  (O:∀i (s:Shared),i<n->St i s.heap->∃x,P i x/\∀(J:Fin->Shared->Prop) (I:Value->Shared->Prop),(∀u,St (i+1) u->Heap.SameBut B s.heap u->J (.done (.ret x)) { s with heap:=u })->wpAny (model C w) A.in1 (Builtin.«set_iterator.__next__» {[.ref B],[]}) J I s)
  (M:∀(s:Shared),St n s.heap->∀(J:Fin->Shared->Prop) (I:Value->Shared->Prop),(∀u e,Heap.ExtBut B s.heap u->(∃ob,u.get? e=some ob/\ob.cls=.type "StopIteration")->I (.ref e) { s with heap:=u })->wpAny (model C w) A.in1 (Builtin.«set_iterator.__next__» {[.ref B],[]}) J I s) :
  Walks C w A B L [B] n P St where
 sub:=λb hb=>by rw[zR.mp hb];exact hf
 frame:=N
 item:=λi s Q E hi st G=>by
  obtain⟨H,e,c⟩:=U i _ st;obtain⟨x,px,hx⟩:=O i s hi st;exact zg0 e c hx λu Y sb=>G x u s.toks px Y λb o hb e=>(sb.2 b λz=>hb (by rw[z];exact zR.mpr rfl)).trans e
 done:=λs Q E st G=>by
  obtain⟨H,e,c⟩:=U n _ st;exact zgZ e c (M s st) λu xb=>G u s.toks λb o hb e=>xb b o (λz=>hb (by rw[z];exact zR.mpr rfl)) e
 self:=λi s Q E st G=>by
  obtain⟨H,e,c⟩:=U i _ st;refine wpAny_pyIter_slot (T:= "set_iterator") {_,e,c} Qc (jG Qc (T:= "set_iterator") {_,e,c} X8 ?_ (WQ _))
  exact zg {_,rfl, "set_iterator",_,{_,e,c},jE.lookup,G}
def Zz(e:Array Nat):Nat->Nat
 | 0=>0
 | i+1=>e.getD i 0+1
theorem Xx{E:Array Nat}(u:Up E){i:Nat}(h:i<=E.size):SetTable.below E (Zz E i)=i:=by
 cases i with
 | zero=>exact zaz u (qJ _) (λk a hk=>absurd hk (WU _)) λk a _ _=>qJ _
 | succ i=>
  have e:E[i]? =some (E[i]'()):=jY _
  have f:Zz E (i+1)=E[i]'()+1:=by show E.getD i 0+1=_;rw[XB,e];rfl
  rw[f];refine zaz u h (λk a hk G=>?_) λk a hk G=>?_
  .by_cases q:k=i
   .subst q;rw[e] at G;cases G;omega
   .have:=u.lt G e ();omega
  .have:=u.lt e G ();omega
variable{B a T:Addr}{o oT:Obj}{f:Array (Int×Value)}{D c:Nat}{t:SetTable}
theorem zdy(O:A.handled=none)(H:w.params.followText "set-order" = true)(hd:o.data=.set f D t)(E:t.fits f.size=true) :
  Walks C w A B [B,a] [B] f.size (λi v=>((pickOrder (w.params.setOrder a D) f).toList.map (·.2))[i]? =some v) (λi h=>h.get? B=some (siO (.int 0 0) i (.ref a) f.size D)/\h.get? a=some o):=by
 have ln:(pickOrder (w.params.setOrder a D) f).size=f.size:=by have:=(VF (w.params.setOrder a D) f).length_eq;rwa[jt,jt] at this
 refine JR 1e3 (λi h st=>{_,st.1,rfl}) (λi h u st k=>{k B 1e3 _ st.1,k a 1e3 _ st.2}) (λi s hi st=>?_) λs st L J hq=>?_
 .have e:(pickOrder (w.params.setOrder a D) f)[i]? =some ((pickOrder (w.params.setOrder a D) f)[i]'()):=jY _
  refine{((pickOrder (w.params.setOrder a D) f)[i]'()).2,by rw[zT,vR,e];rfl,λL J hq=>?_}
  obtain⟨h,g,d,G,os⟩:=s;refine YN (sl:=0) (nx:=0) st.1 st.2 hd E (λM q2=>VM (s:=⟨h,g,d,G,os⟩) H st.2 hd E (by rw[e];exact q2)) λu N I=>hq u {N,?_} I
  have ne:a≠B:=λz=>by
   have h1:=st.1;have h2:=st.2;rw[z,h1] at h2;cases h2;cases hd
  exact(I.2 a ne).trans st.2
 .have e:(pickOrder (w.params.setOrder a D) f)[f.size]? =none:=QU ()
  obtain⟨h,g,d,G,os⟩:=s;exact Qd (sl:=0) O st.1 st.2 hd E (λM q2=>VM (s:=⟨h,g,d,G,os⟩) H st.2 hd E (by rw[e];exact q2)) λu e Y Q=>hq u e Y Q
theorem zeA(hh:A.handled=none)(L:w.params.followText "set-order" = false)(hp:(!t.plain&&decide (f.size>1))=false)(N:t.led=true)(u:Up t.place)(hd:o.data=.set f D t)(E:t.fits f.size=true) :
  Walks C w A B [B,a] [B] f.size (λi v=>(f.toList.map (·.2))[i]? =some v) (λi h=>h.get? B=some (siO (.int (Zz t.place i:Nat) 0) i (.ref a) f.size D)/\h.get? a=some o):=by
 have sz:t.place.size=f.size:=by
  simp only[SetTable.fits,jX,xY] at E;exact E.1
 refine JR 1e3 (λi h st=>{_,st.1,rfl}) (λi h H st k=>{k B 1e3 _ st.1,k a 1e3 _ st.2}) (λi s M st=>?_) λs st U Q hq=>?_
 .have e:f[i]? =some (f[i]'M):=jY _
  have G:t.place[i]? =some (t.place[i]'()):=jY _
  have I:Zz t.place (i+1)=t.place[i]'()+1:=by show t.place.getD i 0+1=_;rw[XB,G];rfl
  refine{(f[i]'M).2,by rw[zT,vR,e];rfl,λU Q hq=>?_}
  obtain⟨h,g,d,J,os⟩:=s;refine YN (sl:=Zz t.place i) (nx:=Zz t.place (i+1)) st.1 st.2 hd E (λY q2=>Y4 (s:=⟨h,g,d,J,os⟩) L hp N st.2 hd E ?_) λH g1 O=>hq H {g1,?_} O
  .rw[Xx u (),e,G]
   rw[I] at q2;exact q2
  .have ne:a≠B:=λz=>by
    have h1:=st.1;have h2:=st.2;rw[z,h1] at h2;cases h2;cases hd
   exact(O.2 a ne).trans st.2
 .obtain⟨h,g,d,J,os⟩:=s
  refine Qd (sl:=Zz t.place f.size) hh st.1 st.2 hd E (λY q2=>Y4 (s:=⟨h,g,d,J,os⟩) L hp N st.2 hd E ?_) λH e xb ob=>hq H e xb ob
  rw[Xx u (),QU (xs:=f) ()]
  exact q2
theorem zaJ{ps:List Nat}(Q:A.handled=none)(hd:o.data=.set f D t)(J:t.fits f.size=true)(H:oT.data=.seq (ps.map λi:Nat=>Value.int i 0).toArray c)(L:ps.Perm (List.range f.size)) :
  Walks C w A B [B,a,T] [B] f.size (λi v=>(ps.map λj=>(f.getD j (0,.none)).2)[i]? =some v) (λi h=>h.get? B=some (siO (.ref T) i (.ref a) f.size D)/\h.get? a=some o/\h.get? T=some oT):=by
 have ln:ps.length=f.size:=by have:=L.length_eq;rwa[vk] at this
 have U:∀j∈ps,j<f.size:=λj E=>xo.mp (L.mem_iff.mp E)
 have ne:∀(h:Heap) (i:Nat),h.get? B=some (siO (.ref T) i (.ref a) f.size D)->h.get? a=some o->h.get? T=some oT->a≠B/\T≠B:=λh i h1 h2 h3=>by
  refine{λz=>?_,λz=>?_}
  .rw[z,h1] at h2;cases h2;cases hd
  .rw[z,h1] at h3;cases h3;cases H
 refine JR 1e3 (λi h st=>{_,st.1,rfl}) (λi h G st k=>{k B 1e3 _ st.1,k a 1e3 _ st.2.1,k T 1e3 _ st.2.2}) (λi s hi st=>?_) λs st N M hq=>?_
 .have u:i<ps.length:=()
  have E:=U _ (xP u);have e:f[ps[i]]? =some (f[ps[i]]'E):=jY _;refine{(f[ps[i]]'E).2,?_,λN M hq=>?_}
  .rw[zT,vo u]
   show some (f.getD ps[i] (0,.none)).2=some _;rw[XB,e];rfl
  obtain⟨h,g,d,tk,os⟩:=s;obtain⟨Y,n2⟩:=ne h i st.1 st.2.1 st.2.2;refine zdI (p:=ps[i]) st.1 st.2.1 hd J st.2.2 H (by simp[u]) (hs:=(f[ps[i]]'E).1) e λG O I=>hq G {O,(I.2 a Y).trans st.2.1,(I.2 T n2).trans st.2.2} I
 .obtain⟨h,g,d,tk,os⟩:=s
  exact X4 Q st.1 st.2.1 hd J st.2.2 H (by simp;omega) λG e xb ob=>hq G e xb ob
end
section
variable{prog:Program}{w:World}{A:Around}{E:Value->Shared->Prop}{s:Shared}{a:Addr}{o:Obj}{B:Array (Int×Value)}{C:Nat}{t:SetTable}
def zla(prog:Program)(w:World)(s:Shared)(a:Addr)(B:Array (Int×Value))(Q:Value->Shared->Prop):Prop:=
 ∀(f:Addr) (H:List Addr) (D:Heap) (I:Drawn) (e:List Value) (St:Nat->Heap->Prop),s.heap.objs.size<=f->(∀G:Around,G.handled=none->Walks prog w G f H [f] B.size (λi v=>e[i]? =some v) St)->St 0 D ->
  (∀c u,s.heap.get? c=some u->D.get? c=some u)->(∀c∈H,c=a\/s.heap.objs.size<=c)->e.Perm (B.toList.map (·.2))->Q (.ref f) { s with heap:=D,drawn:=I }
theorem zd8{Q:Value->Shared->Prop}(f:s.heap.get? a=some o)(L:o.ExactSet)(hd:o.data=.set B C t)(D:t.fits B.size=true)(hb:B.size<scanBound)(U:TabOk (Jq w) t)(h:zla prog w s a B Q):wpAny (model prog w) A (pyIter (.ref a)) Q E s:=by
 have O:s.TypeIs (.ref a) "set" :={_,f,L.1};refine wpAny_pyIter_slot O slot_set_iter (jG slot_set_iter O Xm ?_ (Vc _))
 have lt:=zK f;unfold Builtin.«frozenset.__iter__»;refine zc (show wpAny _ _ (pure a) _ _ _ from zg ?_)
 refine zc (show wpAny _ _ (setEntries a >>= λx=>pure x.size) _ _ _ from zc (wpAny_setEntries_of f hd D (zg ?_)))
 refine zc (zf5 f hd D ?_)
 cases J:w.params.followText "set-order" with
 | true=>
  refine zc (zg (zc (wpAny_setEpoch_of f hd D (zc (jv (zg {_,rfl, "set_iterator",_,{_,qo _ rfl,rfl},jE.lookup,?_}))))))
  refine h s.heap.objs.size [s.heap.objs.size,a] _ s.drawn _ _ (zx _) (λN H=>zdy H J hd D) {qo _ rfl,zH _ f} (λc u e=>zH _ e) (λc hc=>?_) ((VF _ B).map _)
  rcases zP.mp hc with z | z
  .rw[z];exact .inr (zx _)
  .exact .inl (zR.mp z)
 | false=>
  have hl:t.led=true:=by rw[U.led];unfold Jq;rw[J];rfl
  cases hp:(!t.plain&&decide (B.size>1)) with
  | false=>
   refine zc (zg (zc (wpAny_setEpoch_of f hd D (zc (jv (zg {_,rfl, "set_iterator",_,{_,qo _ rfl,rfl},jE.lookup,?_}))))))
   refine h s.heap.objs.size [s.heap.objs.size,a] _ s.drawn _ _ (zx _) (λN H=>zeA H J hp hl U.up hd D) {qo _ rfl,zH _ f} (λc u e=>zH _ e) (λc hc=>?_) (.refl _)
   rcases zP.mp hc with z | z
   .rw[z];exact .inr (zx _)
   .exact .inl (zR.mp z)
  | true=>
   refine zc (Yo _ _ s 1e3 λY G M=>?_)
   have ln:G.length=B.size:=by have:=M.length_eq;rwa[vk] at this
   refine zc (show wpAny _ _ (newObj (.type "tuple") (.seq (G.map λ(i:Nat)=>rawInt i).toArray)) _ _ _ from jv ?_ (by show(G.map λ(i:Nat)=>rawInt i).toArray.size<=sizeLine;rw[zW,zm,ln];exact fits_of_scanBound hb))
   have I:=zH { cls:=.type "tuple",data:=.seq (G.map λ(i:Nat)=>rawInt i).toArray } f
   refine zc (wpAny_setEpoch_of I hd D (zc (jv (zg {_,rfl, "set_iterator",_,{_,qo _ rfl,rfl},jE.lookup,?_}))))
   refine h _ [_,a,s.heap.objs.size] _ Y _ _ ?_ (λN H=>zaJ (T:=s.heap.objs.size) (ps:=G) H hd D (c:=0) (oT:={ cls:=.type "tuple",data:=.seq (G.map λ(i:Nat)=>rawInt i).toArray }) rfl M) {qo _ rfl,zH _ I,zH _ (qo _ rfl)} (λc u e=>zH _ (zH _ e)) (λc hc=>?_) ?_
   .rw[jq];exact xH _
   .rcases zP.mp hc with z | z
    .rw[z,jq];exact .inr (xH _)
    .rcases zP.mp z with z | z
     .exact .inl z
     .rw[zR.mp z];exact .inr (zx _)
   .have e:B.toList.map (·.2)=(List.range B.size).map λj=>(B.getD j (0,.none)).2:=by
     refine zbA 1e3 λj h1 h2=>?_
     simp only[zm,vk,jt] at h1;simp[XB,h1]
    rw[e];exact M.map _
theorem zf7{Q:Bool->Shared->Prop}(e:s.TypeIs (.ref a) "set")(h:Q false s):wpAny (model prog w) A (Builtin.List.listLengthHint (.ref a)) Q E s:=by
 unfold Builtin.List.listLengthHint;refine zc (yH e PySem.F.slot_set_len.lookup ?_)
 generalize u:("set.__len__" : String)=f;wp_delta
 rw[show splitId f=some ("set", "__len__") from by subst u;decide +kernel]
 subst u;refine zc (xC (T:= "set") (b:=true) e (by rw[isSubtype_type];kernel_rfl) ?_)
 refine wpAny_ite_split (λz=>absurd z 1e1) λ_=>wpAny_ite_split (λ_=>zc (wq e (zg h))) λz=>absurd (by decide +kernel) z
theorem zh1{f:Array Value}{u:List Value}{n:Nat}(h:ItemsOf (λi v=>u[i]? =some v) f n)(l:u.length=n):f.toList=u:=by
 refine List.ext_getElem? λi=>?_
 by_cases D:i<f.size
 .have e:=jY D
  rw[vR,e];exact(h.2 i _ e).symm
 .rw[List.getElem?_eq_none (by rw[jt];omega),List.getElem?_eq_none (by have:=h.1;omega)]
theorem zgb{R:Result->Shared->Prop}(hh:A.handled=none)(ho:s.heap.get? a=some o)(J:o.ExactSet)(hd:o.data=.set B C t)(hf:t.fits B.size=true)(hb:B.size<scanBound)(tb:TabOk (Jq w) t)(S:Addr)(N:S≠a)(res:Value)(c0:Nat)
  (hS:s.heap.get? S=some { cls:=.type "list",data:=.seq #[] c0 })
  (hR:∀h' Y d' D M,(∀b u,b≠S->s.heap.get? b=some u->h'.get? b=some u)->h'.get? S=some { cls:=.type "list",dict:=none,data:=.seq D M,slots:=#[] }->D.toList.Perm (B.toList.map (·.2))->R (.ok (.ret res)) { s with heap:=h',toks:=Y,drawn:=d' }) :
  wpAny (model prog w) A.in1 (Builtin.List.listExtendWith (.ref S) (.ref a) res) (λaa L=>match aa with | .done f=>R (.ok f) L | .again M=>M.quiet=true/\codeAny (model prog w) A M R L) (λe L=>R (.error e) L) s:=by
 have hn:=fits_of_scanBound hb;have hT:s.TypeIs (.ref a) "set" :={_,ho,J.1};have ltS:=zK hS;have ai:Builtin.List.listSameRef (.ref S) (.ref a)=false:=by simp[Builtin.List.listSameRef,N]
 have nl:(Value.type "set" == Value.type "list")=false:=1e1
 have nt:(Value.type "set" == Value.type "tuple")=false:=1e1
 unfold Builtin.List.listExtendWith;refine zc (wq hT ?_)
 simp only[ai,nl,nt,Bool.or_false,x5,if_false];refine zc (zd8 ho J hd hf hb tb λit fp h1 d1 aj St ag W st U ab pm=>?_)
 have lo:aj.length=B.size:=by have:=pm.length_eq;rwa[zm,jt] at this
 have O:S∉fp:=λz=>by
  rcases ab S z with q | q
  .exact N q
  .exact absurd ltS (Nat.not_lt.mpr q)
 have H:∀(h2:Heap) (c1 Y:Nat),St 0 h2->(∀b u,b≠S->s.heap.get? b=some u->h2.get? b=some u)->h2.get? S=some { cls:=.type "list",data:=.seq #[] c1 } ->
   codeAny (model prog w) A (.builtin "list.extend.loop" {[.ref S,.ref it,res],[]}) R ⟨h2,s.gens,d1,Y,s.os⟩:=by
  intro h2 c1 Y ak k2 G;refine codeAny_extend_loopS (W A.in1 hh).toS hn S O res B.size 0 _ #[] c1 rfl (qJ _) ak G (ItemsOf.nil _) λL D M hm ac ah=>?_
  rw[Moved.eq_with hm];refine hR L.heap L.toks d1 D M (λb u hb e=>hm.heap b u (λz=>?_) (k2 b u hb e)) ac (by rw[zh1 ah lo];exact pm)
  rcases zP.mp z with q | q
  .exact hb q
  .rw[zR.mp q] at e
   exact absurd (zK e) (Nat.not_lt.mpr ag)
 have I:=U S _ hS;have af:Shared.TypeIs ⟨h1,s.gens,d1,s.toks,s.os⟩ (.ref a) "set" :={_,U a _ ho,J.1};refine zc (jy (zf7 af ?_))
 refine wpAny_ite_split (λ_=>?_) (λ_=>zg {plainId_quiet zgm _,H h1 c0 _ st (λb u _ e=>U b u e) I})
 refine zc (j9 (zc (show wpAny _ _ (updateSeq S (·.push .none) >>= λ_=>updateSeq S (·.pop)) _ _ _ from zc (wx I rfl ?_))))
 have G:=xG (Obj.mapSeq (·.push Value.none)) I rfl
 refine wx (hz:=by seq_fits) G rfl ?_
 have ae:=xG (Obj.mapSeq (·.pop)) G rfl
 have Q:∀b u,b≠S->h1.get? b=some u->((h1.update S (Obj.mapSeq (·.push Value.none))).update S (Obj.mapSeq (·.pop))).get? b=some u:=λb u hb e=>(vm _ _ (zS hb)).trans ((vm _ _ (zS hb)).trans e)
 refine zg {plainId_quiet zgm _,H _ _ _ ((W A.in1 hh).frame 0 _ _ st λb hb u e=>Q b u (λz=>O (z▸hb)) e) (λb u hb e=>Q b u hb (U b u e)) ae}
theorem zei{R:List Value->Shared->Prop}(hh:A.handled=none)(Y:s.heap.get? a=some o)(N:o.ExactSet)(hd:o.data=.set B C t)(hf:t.fits B.size=true)(hb:B.size<scanBound)(tb:TabOk (Jq w) t)
  (h:∀G I H vs,(∀b u,s.heap.get? b=some u->G.get? b=some u)->vs.Perm (B.toList.map (·.2))->R vs { s with heap:=G,toks:=I,drawn:=H }):wpAny (model prog w) A (collect (.ref a)) R E s:=by
 have lt:=zK Y;unfold collect;refine zc (wpAny_runValue (codeAny_builtin PySem.F.entry_proto_collect ?_))
 rw[yg PySem.F.plain_proto_collect _];refine(show wpAny _ A.in1 (newList [] >>= λl=>again (.builtin "list.__iadd__" {[l,.ref a],[]})) _ _ s from zc (jv (zg {plainId_quiet PySem.F.plain_list_iadd _,codeAny_builtin PySem.F.entry_list_iadd ?_})))
 rw[yg PySem.F.plain_list_iadd _];have hS:(s.heap.push { cls:=.type "list",data:=.seq ([]:List Value).toArray }).get? s.heap.objs.size=some { cls:=.type "list",data:=.seq #[] }:=qo _ rfl;have O:=zgb (A:=A) (w:=w) (prog:=prog) (s:={ s with heap:=s.heap.push { cls:=.type "list",data:=.seq ([]:List Value).toArray } }) (a:=a)
  (R:=λq Q=>∃(G:Heap) (I:Nat) (H:Drawn) (D:Array Value) (J:Nat),q=.ok (.ret 0#m)/\Q={ s with heap:=G,toks:=I,drawn:=H }/\(∀b u,s.heap.get? b=some u->G.get? b=some u) /\
   G.get? s.heap.objs.size=some { cls:=.type "list",dict:=none,data:=.seq D J,slots:=#[] }/\D.toList.Perm (B.toList.map (·.2)))
  hh (zH _ Y) N hd hf hb tb s.heap.objs.size (jW lt) 0#m 0 hS λG I H D J k e p=>{G,I,H,D,J,rfl,rfl,λb u U=>k b u (zN (zK U)) (zH _ U),e,p}
 refine z9 O (λM Q x=>?_) λe Q x=>?_
 .cases M with
  | done f=>
   obtain⟨G,I,H,D,J,e,rfl,k,L,p⟩:=x;cases e;exact zc (wpAny_load L (zg (h G I H _ k p)))
  | again c1=>
   refine{x.1,codeAny_mono x.2 λq s2 y=>?_}
   obtain⟨G,I,H,D,J,rfl,rfl,k,L,p⟩:=y;exact zc (wpAny_load L (zg (h G I H _ k p)))
 .obtain⟨_,_,_,_,_,e',_⟩:=x
  cases e'
end
section
variable{X:Cx}
def Zj(P:Program)(w:World)(p:Addr)(e:List Key):HO:=.ext λh=>SetX (zw P w) (Jq w) h p e
inductive Ji(P:Program)(w:World)(f:List V)(H:Hp)(Q:VK):Prop
 | mk (a:Addr) (e:List Key) (_:f=[.ref a]) (_:H a=some (.lst (e.map kV))) (_:e.length<=4000) (_:∀p,H p=none->Q (.ref p) (upd H p (Zj P w p (vp [] e)))):Ji P w f H Q
theorem zen(M:X.A.handled=none):jD X (.type "set") (Ji X.prog X.w):=by
 intro E s σ H xs us Q I r h;obtain⟨a,w,rfl,hx,hl,q⟩:=h;obtain⟨u,rfl,Y⟩:=ua r;cases(show u=Value.ref a from Y)
 obtain⟨zz,O,n,f,L⟩:=(show ObjOk X.prog X.w H s.heap a (.lst (w.map kV)) from I.hok a _ hx)
 have ln:=f.length;rw[zm] at ln;have N:H s.heap.objs.size=none:=I.hok.fresh (zx _);have sb:scanBound=4096:=rfl;refine zem (knd:=zw X.prog X.w) (keys:=w) M L (by simp[ln]) (by simp;omega) (λj u e=>?_) λh' tk G k=>?_
 .rw[List.getElem?_toArray] at e
  obtain⟨x,B,A⟩:=Vals.at f e;rw[zT] at B;obtain⟨D,J,rfl⟩:=qy.mp B;refine{D,J,wI A,?_}
  cases D with
  | inl i=>obtain⟨t,rfl⟩:=A;rfl
  | inr i=>obtain⟨t,rfl⟩:=A;rfl
 .refine{.ref s.heap.objs.size,_,I.laid (a:=s.heap.objs.size) (o:=Zj X.prog X.w s.heap.objs.size (vp [] w)) (t':=tk) k (zx _) {G,?_,λh1 h2 x e=>x.at e},rfl,q _ N}
  obtain⟨o,e,_⟩:=G;exact⟨o,e⟩
end
theorem Inv.drawn{X:Cx}{e:List (Addr×Obj)}{σ:St}{H:Hp}{s:Shared}(I:Inv X e σ H s)(d:Drawn):Inv X e σ H { s with drawn:=d }:=
 I.call' (s':={ s with drawn:=d }) (ch:=[]) rfl Un.refl I.hok I.bare λb hb=>(nomatch hb)
theorem J5{α β γ:Type}{R:α->γ->Prop}{f:β->γ}:∀{e:List α} {o:List β},Paired (λx y=>R x (f y)) e o->Paired R e (o.map f)
 | _,_,.nil=>.nil
 | _,_,.cons h t=>.cons h (J5 t)
theorem ze5:∀{ks:List Key},(∀k∈ks,∃i,k=Sum.inr i)->∃f:List Str,ks=f.map Sum.inr
 | [],_=>{[],rfl}
 | k::ks,h=>by
  obtain⟨i,e⟩:=h k 1e3
  obtain⟨f,e2⟩:=ze5 (ks:=ks) λo hk=>h o (jf _ hk)
  exact{i::f,by rw[e,e2];rfl}
theorem Q3{P:Program}{w:World}:∀{f:List Str} {e:List Value},Paired (λk v=>(zw P w).is k v=true) (f.map Sum.inr) e->StrsAre e f
 | [],e,h=>by cases h;exact .nil
 | z::f,e,h=>by
  cases h with
  | cons r t=>
   obtain⟨o,rfl⟩:=zcV r;exact .cons z o (Q3 t)
theorem Wr{α β:Type}{f:α->β}{l:List α}(h:(l.map f).Nodup):l.Nodup:=by
 have o:l.Pairwise λa b=>f a≠f b:=yS.mp h
 exact o.imp λn e=>n (by rw[e])
section
variable{X:Cx}
theorem zdF{J:List (Addr×Obj)}{σ:St}{H:Hp}{s:Shared}{a:Addr}{D:List Key}{E:Value->Shared->Prop}{Q:Value->Shared->Prop}(hh:X.A.handled=none)(I:Inv X J σ H s)(hx:H a=some (Zj X.prog X.w a D))
  (h:∀(w:Heap) (U:Nat) (M:Drawn) (A:List Value) (G:List Key),G.Perm D->D.Nodup->Paired (λk v=>(zw X.prog X.w).is k v=true) G A->(∀b u,s.heap.get? b=some u->w.get? b=some u) ->
   wpAny 0#e X.A.in1.in1 (Builtin.«list.sort» {[.ref w.objs.size],[]}) (λB s'=>∃v,B=.done (.ret v)/\Q (.ref w.objs.size) s') E { s with heap:=w.push (seqObj "list" A.toArray 0),toks:=U,drawn:=M }) (aa:D.length<64) :
  wpAny 0#e X.A (call (.builtin "sorted") [.ref a]) Q E s:=by
 obtain⟨sx,_,_⟩:=(show ObjOk X.prog X.w H s.heap a (Zj X.prog X.w a D) from I.hok a _ hx)
 obtain⟨o,ho,es,ep,t,N,hd,Y,nd,hb,hf,tb⟩:=sx;have le:=Y.len;rw[jt] at le;obtain⟨_,ab,p1,pr⟩:=Y;have sz:sizeLine=16777216:=sizeLine_eq;refine zbY kind_sorted plain_sorted entry_sorted (args_sorted1 _) ?_
 delta Builtin.«sorted»;refine zc (m:=checkCount "sorted" 1 1 _) (zg (zc (zei hh ho N hd hf hb tb λw U M A C pm=>?_)))
 obtain⟨O,p2,pr2⟩:=Q6 pm (J5 (R:=λk v=>(zw X.prog X.w).is k v=true) (f:=Prod.snd) pr)
 have lv:A.length=es.size:=by have:=pm.length_eq;rwa[zm,jt] at this
 refine zc (wpAny_newList ?_ ())
 have L:(w.push (seqObj "list" A.toArray 0)).get? w.objs.size=some (seqObj "list" A.toArray 0):=qo _ rfl;refine zc (jy (jG slot_list_sort {_,L,rfl} entry_list_sort (z9 (h w U M A O (p2.trans p1) nd pr2 C) (λB s' x=>?_) λ_ _ e=>e) (args_list_sort _)))
 obtain⟨v,ev,q⟩:=x;exact{v,ev,zg {_,rfl,q}}
theorem zag{w:List (Addr×Obj)}{σ:St}{H:Hp}{s:Shared}{t:Heap}{vs:List Value}{out:Array Value}{zs:List V}{tk:Nat}{d':Drawn}(I:Inv X w σ H s)(f:∀b u,s.heap.get? b=some u->t.get? b=some u)(E:Vals zs out.toList)(J:zs.length<=sizeLine) :
  Inv X w σ (upd H t.objs.size (.lst zs)) { s with heap:=sortedHeap (t.push (seqObj "list" vs.toArray 0)) t.objs.size vs out,toks:=tk,drawn:=d' }/\H t.objs.size=none:=by
 have B:(t.push (seqObj "list" vs.toArray 0)).get? t.objs.size=some (seqObj "list" vs.toArray 0):=qo _ rfl;have A:s.heap.get? t.objs.size=none:=by
  cases z:s.heap.get? t.objs.size with
  | none=>rfl
  | some o=>exact absurd (zK (f _ _ z)) (xM _)
 obtain⟨C,D⟩:=sortedHeap_at (out:=out) B;refine{(I.drawn d').laidN (a:=t.objs.size) (o:=.lst zs) (t':=tk) (λb o e=>?_) A {J,out.toList,C,E,by rw[D]},I.hok.none_of A}
 have G:=zK (f b o e);rw[sortedHeap_old (zN G) (by rw[jq];exact vP G)]
 exact zH _ (f b o e)
inductive yi(P:Program)(w:World)(o:List V)(H:Hp)(Q:VK):Prop
 | mk (a:Addr) (f:List Str) (_:o=[.ref a]) (_:H a=some (Zj P w a (vp [] (f.map Sum.inr)))) (_:f.length<64) (_:∀(p:Addr) (e:List Str),H p=none->sortedS e=true->e.Nodup->(∀j,j∈e↔j∈f)->Q (.ref p) (upd H p (.lst (e.map V.str)))):yi P w o H Q
theorem X9(hh:X.A.handled=none):jD X (.builtin "sorted") (yi X.prog X.w):=by
 intro U s σ H xs us Q I r h;obtain⟨a,O,rfl,hx,aa,q⟩:=h;obtain⟨u,rfl,ru⟩:=ua r;cases(show u=Value.ref a from ru)
 have lk:=Yx (O.map Sum.inr:List Key) [];rw[yQ,zm] at lk;have sz:sizeLine=16777216:=sizeLine_eq;refine zdF hh I hx (λt L A f C E nd Y o=>?_) ()
 have mem:∀k,k∈C↔k∈O.map Sum.inr:=λk=>by rw[E.mem_iff,Yw];simp
 obtain⟨M,ez⟩:=ze5 λk hk=>by
  obtain⟨i,_,e⟩:=zA.mp ((mem k).mp hk);exact⟨i,e.symm⟩
 subst ez;have w:(t.push (seqObj "list" f.toArray 0)).get? t.objs.size=some (seqObj "list" f.toArray 0):=qo _ rfl;have lz:=E.length_eq;rw[zm] at lz;have lv:f.length=M.length:=by have:=XF Y;rw[zm] at this;omega
 have B:=Q3 Y;refine list_sort_treeK strKind_oneLt (s:={ s with heap:=t.push (seqObj "list" f.toArray 0),toks:=L,drawn:=A }) w B.keysOf (λv1 v2 rest e=>keyKind_strs (by rw[<- e];exact B)) () λG b1 b2=>{_,rfl,?_}
 obtain⟨N,a1,a2,a3⟩:=sorted_out_str B b1 b2;have D:M.Nodup:=Wr (E.nodup_iff.mpr nd);obtain⟨J,hn⟩:=zag (vs:=f) (out:=(arrOf G).map (·.2)) (zs:=N.map V.str) (tk:=L) (d':=A) I o (Vg a1) (by rw[zm,a2.length_eq];omega)
 refine{.ref t.objs.size,_,J,rfl,q _ N hn a3 (a2.nodup_iff.mpr D) λj=>?_}
 rw[a2.mem_iff];have:=mem (Sum.inr j);simpa using this
end
section
variable{X:Cx}{E f B:Expr}{A G:List Expr}{scope:Scope}{L:Pos}{wi O:TI}{tf M:TT}{te:TE}{x y z u:Str}{px py pz pu tp N:Pos}{U J:Nat}
inductive V7(K:W.Frag)(x:V)(y:V)(H:Hp)(Q:VK):Prop
 | mk (a b:Addr) (I t:List Int) (_:x=.ref a) (_:y=.ref b) (_:SqL K H a (I.map V.int)) (_:SqL K H b (t.map V.int)) (_:Q (.bl (decide (I=t))) H):V7 K x y H Q
theorem zhi(hu:X.A.units<cLine):OpR X (compareOp .Eq) (V7 X.K):=by
 intro ae s σ H x y v u Q I rx ry h;obtain⟨a,b,ns,ms,rfl,rfl,hx,hy,q⟩:=h;cases rx;cases ry;obtain⟨t,r1,p1,z1⟩:=I.list hx;obtain⟨ac,r2,p2,z2⟩:=I.list hy;have l1:=r1.length;have l2:=r2.length;rw[zm] at l1 l2;by_cases hl:ns.length=ms.length
 .refine SeqAt.RcAt.lists (e:=λj=>decide (ns.getD j 0=ms.getD j 0)) p1.isList p2.isList (by rw[zW,zW];omega) hu (λj h1 h2=>?_) _ _ _ _ {.bl _,H,I,rfl,?_}
  .have aa:j<ns.length:=by rw[zW] at h1;omega
   have ab:j<ms.length:=()
   obtain⟨w1,e1,q1⟩:=r1.get (i:=j) (x:=.int ns[j]) (by simp[aa])
   obtain⟨w2,e2,q2⟩:=r2.get (i:=j) (x:=.int ms[j]) (by simp[ab])
   have g1:t.toArray[j]=w1:=by simpa using (zO.mp e1).2
   have g2:ac.toArray[j]=w2:=by simpa using (zO.mp e2).2
   rw[g1,g2,show ns.getD j 0=ns[j] by simp[aa],show ms.getD j 0=ms[j] by simp[ab]]
   exact WF q1 q2 rfl rfl
  .have e:((List.range t.toArray.size).all λj=>decide (ns.getD j 0=ms.getD j 0))=decide (ns=ms):=by
    rw[zW,<- l1,ZP,xD,ZY];constructor
    .intro h
     refine zbA hl λj h1 h2=>?_
     have:=xF (h j (xo.mpr h1));simpa [h1,h2] using this
    .intro h j _
     rw[h];exact zY rfl
   rw[e];exact q
 .rw[jA (λe=>hl (by rw[e]))] at q
  exact SeqAt.RcAt.lists_lengths p1.isList p2.isList (by rw[zW,zW];simpa using λe=>hl ()) hu _ _ _ _ {.bl _,H,I,rfl,q}
inductive V5(K:W.Frag)(x:V)(y:V)(H:Hp)(Q:VK):Prop
 | mk (a b:Addr) (t:List V) (_:x=.ref a) (_:y=.ref b) (_:SqT K H a t) (_:SqT K H b []) (_:Q (.bl (!t.isEmpty)) H):V5 K x y H Q
theorem zhg(hu:X.A.units<cLine):OpR X (compareOp .NotEq) (V5 X.K):=by
 intro ac s σ H x y v u Q I rx ry h;obtain⟨a,b,xs,rfl,rfl,hx,hy,q⟩:=h;cases rx;cases ry;obtain⟨aa,r1,p1,z1⟩:=I.tuple hx;obtain⟨ab,r2,p2,z2⟩:=I.tuple hy;cases r2;refine SeqAt.RcNeAt.tuples (e:=λ_=>true) p1 p2 hu (λj h1 h2=>by simp at h2) _ _ _ _ {.bl _,H,I,rfl,?_}
 have e:(!((List.range (min aa.toArray.size ([]:List Value).toArray.size)).all (λ_=>true)&&aa.toArray.size==([]:List Value).toArray.size))=!xs.isEmpty:=by
  cases r1 with
  | nil=>rfl
  | cons r t=>simp
 rw[e];exact q
variable{Y e:Expr}{D:List Expr}{to:TE}{tt:TA}{C:Str}{o w:Pos}{T id:String}{r:V->List V->Hp->VK->Prop}
end
end L2
namespace L2
open PySem PySem.Spec PyProof.Rows PySem.W
def KRun{α:Type}(e:Nat->Nat->Bool)(n:Nat):KasT α->(α->Prop)->Prop
 | .ret a,Q=>Q a
 | .ask i j k,Q=>i<n/\j<n/\KRun e n (k (e i j)) Q
theorem KRun.mono{α:Type}{f:Nat->Nat->Bool}{n:Nat}{Q e:α->Prop}(h:∀a,Q a->e a):∀{t:KasT α},KRun f n t Q->KRun f n t e
 | .ret a,x=>h a x
 | .ask i j k,⟨a,b,c⟩=>{a,b,KRun.mono h c}
theorem KRun.bind{α β:Type}{e:Nat->Nat->Bool}{n:Nat}{f:α->KasT β}{Q:β->Prop}:∀{t:KasT α},KRun e n t (λa=>KRun e n (f a) Q)->KRun e n (t.bind f) Q
 | .ret a,x=>x
 | .ask i j k,⟨a,b,c⟩=>{a,b,KRun.bind c}
section
variable{n:Nat}{r:Nat->Nat}
def vA(r:Nat->Nat)(p:Array Nat)(k:Nat):Nat:=r (p.getD k 0)
structure Gd(n:Nat)(p:Array Nat):Prop where
 pm:p.toList.Perm (List.range n)
theorem Gd.sz{p:Array Nat}(g:Gd n p):p.size=n:=by have:=g.pm.length_eq;rwa[jt,vk] at this
theorem Gd.at{p:Array Nat}(g:Gd n p){k:Nat}(h:k<n):p[k]? =some (p.getD k 0):=by
 rw[XB,jY (by rw[g.sz];exact h)]
 rfl
theorem Gd.lt{p:Array Nat}(g:Gd n p)(e:0<n)(k:Nat):p.getD k 0<n:=by
 by_cases h:k<n
 .have:=g.at h
  rw[<- vR] at this;exact xo.mp (g.pm.mem_iff.mp (qw this))
 .rw[XB,QU (by rw[g.sz];omega)]
  exact e
def AscA(r:Nat->Nat)(p:Array Nat)(m:Nat):Prop:=∀i j,i<j->j<m->vA r p i<vA r p j
def DscA(r:Nat->Nat)(p:Array Nat)(m:Nat):Prop:=∀i j,i<j->j<m->vA r p j<vA r p i
theorem AscA.step{p:Array Nat}{m:Nat}(h:AscA r p m)(h1:1<=m)(h2:vA r p (m-1)<vA r p m):AscA r p (m+1):=λi j t u=>by
 by_cases e:j=m
 .subst e
  by_cases e2:i=j-1
  .subst e2;exact h2
  .have:=h i (j-1) () ()
   omega
 .exact h i j t ()
theorem DscA.step{p:Array Nat}{m:Nat}(h:DscA r p m)(h1:1<=m)(h2:vA r p m<vA r p (m-1)):DscA r p (m+1):=λi j t u=>by
 by_cases e:j=m
 .subst e
  by_cases e2:i=j-1
  .subst e2;exact h2
  .have:=h i (j-1) () ()
   omega
 .exact h i j t ()
variable{f:Nat->Nat->Bool}(o:∀i j,i<n->j<n->r i=r j->i=j)(hb:∀i j,i<n->j<n->f i j=decide (r i<r j))
include o hb
end
end L2
namespace L2
open PySem PySem.Spec PyProof.Rows PySem.W
section
variable{e:Program}{w:World}{A:Around}{E:Value->Shared->Prop}{s:Shared}
end
end L2
namespace L2
open PySem PySem.Spec PyProof.Rows PySem.W
def ltS(a b:Str):Bool:=decide (a.cps.toList<b.cps.toList)
section
variable{X:Cx}{e:List (Addr×Obj)}{σ:St}{s:Shared}
end
end L2
namespace L2
open PySem PySem.Spec PyProof.Rows PySem.W
section
variable{X:Cx}
def Q0(p d:Addr):HO:=.ext λh=>h.IsItemsView p d
end
end L2
namespace L2
open PySem PySem.Spec PyProof.Rows
section
variable{X:Cx}
variable{f e:Expr}{o:List Expr}{scope:Scope}{t:Pos}{G:TI}{D:TT}{C:TE}{x y z:Str}{w A B E:Pos}{u:Nat}
end
section
variable{X:Cx}
end
section
variable{X:Cx}{f A e:Expr}{o:List Expr}{scope:Scope}{t:Pos}{B:TI}{g:TG}{w:TT}{u:TE}{x:Str}
end
end L2
namespace L2
open PySem PySem.Spec PyProof.Rows PySem.W
section
variable{e:Program}{w:World}{A:Around}{E:Value->Shared->Prop}{s:Shared}
end
end L2
namespace L2
open PySem PySem.Spec PyProof.Rows PySem.W
def PrR(H:Hp)(f:List V)(e:List (Int×Int)):Prop:=f.length=e.length/\∀(j:Nat) q,e[j]? =some q->∃T,f[j]? =some (.ref T)/\H T=some (.tup [.int q.1,.int q.2])
theorem PrR.nil{H:Hp}:PrR H [] []:={rfl,λj q e=>by simp at e}
section
variable{X:Cx}
end
end L2
namespace L2
open PySem PySem.Spec PyProof.Rows
section
variable{X:Cx}
end
def AtQ(K:W.Frag)(H:Hp)(t:Bool)(a:Addr)(e:List V):Prop:=if t=true then SqT K H a e else H a=some (.lst e)
def SqQ(K:W.Frag)(H:Hp)(t:Bool)(a:Addr)(e:List V):Prop:=if t=true then SqT K H a e else SqL K H a e
def oQ(t:Bool)(e:List V):HO:=if t=true then .tup e else .lst e
def Tkn(H:Hp)(f:List Addr):Prop:=∀e∈f,∃o,H e=some o
theorem Tkn.out{H:Hp}{f:List Addr}{p:Addr}(h:Tkn H f)(hp:H p=none):p∉f:=λz=>by
 obtain⟨o,e⟩:=h p z;rw[hp] at e;cases e
theorem AtQ.new{K:W.Frag}{H:Hp}{f:List Addr}{p:Addr}(T:Tkn H f)(hp:H p=none)(t:Bool)(e:List V):AtQ K (WX f (upd H p (oQ t e))) t p e:=by
 have:=WX.at (T.out hp) (zd (H:=H) (a:=p) (o:=oQ t e));cases t with
 | true=>exact u6 this
 | false=>exact this
section
variable{X:Cx}
theorem zfx{x y:V}(e:List 0#p)(s:Shared)(σ:St)(H:Hp)(v u:Value)(Q:VK)(I:Inv X e σ H s)(rx:RelV x v)(ry:RelV y u)(h:∃a b w,x=.ref a/\y=.ref b/\SqT X.K H a []/\SqT X.K H b w/\Q (.ref b) H) :
  wpAny 0#e X.A (binaryOp .Add v u) (EP X e σ Q) X.xe s:=by
 obtain⟨a,b,w,rfl,rfl,C,hb,q⟩:=h;cases rx;cases ry;obtain⟨f,r1,U,_⟩:=I.tuple C;obtain⟨E,r2,Y,_⟩:=I.tuple hb;have D:f=[]:=r1.nil_iff.mpr rfl;obtain⟨⟨c1,A,g1,L⟩,o,G,N,e1⟩:=U;obtain⟨⟨c2,B,g2,M⟩,t,J,O,e2⟩:=Y;cases G;cases e1;cases J;cases e2;have m:=tuple_addW0 a b f.toArray E.toArray N O A B L M (by simp[D])
 exact concat_meets {_,o,rfl} {_,t,rfl} noFill_tuple_add seq_tuple_add zbT zbV (zbW _ _) m {o,t,.ref b,H,I,rfl,q}
theorem zdH{t C:Addr}{e:Array Value}{J L:Value}{lo G:Option Int}{o:Program}{w:World}{A:Around}{E:Value->Shared->Prop}{s:Shared}{Q:Value->Shared->Prop}(f:IsTup s.heap t e)(H:s.heap.IsSliceOf C J L .none)(O:IsPart J lo)(U:IsPart L G)
  (h1:HT.sIx e.size 0 lo=0) (h2:HT.sIx e.size e.size G=e.size) (h:Q (.ref t) s):wpAny 0#C A (getItem (.ref t) (.ref C)) Q E s:=by
 obtain⟨os,B,u,N⟩:=id H;have M:s.TypeIs (.ref C) "slice" :=⟨os,B,u⟩;unfold getItem;try with_reducible refine jy ?_
 first| refine zc (zg ?_) | skip
 refine zc (wpAny_sequenceKey f.typeIs 1e1 ?_)
 refine zc (vn (name:=Str.ofString "__getitem__") f.typeIs slot_tuple_getitem (jG slot_tuple_getitem f.typeIs entry_tuple_getitem ?_ (args_tuple_getitem _ _)))
 refine zc (m:=Builtin.Tuple.tupleItemsOf (.ref t)) (tupleItemsOf_ f ?_)
 refine zc (wq M ?_)
 rw[zt 1e1]
 refine zc (HT.sliceApplied_gen H O U ?_)
 rw[h1,h2];have D:((((0:Nat):Int)==0&&(1:Int)==1&&(e.size-0)==e.size)=true):=1e3
 show wpAny _ _ (if(((0:Nat):Int)==0&&(1:Int)==1&&(e.size-0)==e.size)=true then _ else _) _ _ s
 rw[zt D];refine zc (m:=Builtin.Tuple.tupleIsExact (.ref t)) (zc (wq f.typeIs (zg ?_)))
 rw[zt 1e1]
 exact zc (j9 (zg {_,rfl,zg h}))
inductive zi7(K:W.Frag)(x:V)(lo:Option Int)(o:Option Int)(H:Hp)(Q:VK):Prop
 | mk (t:Bool) (a:Addr) (u:List V) (f:List Addr) (_:x=.ref a) (_:Tkn H f) (_:SqQ K (WX f H) t a u) (_:∀c e,Same H e->AtQ K (WX f e) t c (jS u lo o)->Q (.ref c) e):zi7 K x lo o H Q
theorem zlk:SlR X (zi7 X.K):=by
 intro o s σ H x v M N lo w L Q I E A C D h;obtain⟨t,a,f,U,rfl,T,u,q⟩:=h;cases t with
 | false=>exact y4 o s σ H _ v M N lo w L Q I E A C D {a,f,rfl,WX.le.seq u,λp hp=>q p _ (zb hp) (AtQ.new T hp false _)}
 | true=>
  by_cases e:HT.sIx f.length 0 lo=0/\HT.sIx f.length f.length w=f.length
  .have O:jS f lo w=f:=by
    unfold jS;rw[e.1,e.2,zbv,Nat.sub_zero,qY]
   cases E;obtain⟨B,r,J,Y⟩:=I.tuple (WX.le.sqT u);have G:B.toArray.size=f.length:=by rw[zW];exact r.length.symm
   refine{"tuple",_,slot_tuple_getitem.lookup,J.typeIs,zdH J A C D (by rw[G];exact e.1) (by rw[G];exact e.2) {.ref a,H,I,rfl,q a H (u7 _) ?_}}
   rw[O];exact u
  .exact zaR o s σ H _ v M N lo w L Q I E A C D {a,f,rfl,WX.le.sqT u,e,λp hp=>q p _ (zb hp) (AtQ.new T hp true _)}
theorem Xr{K:W.Frag}(h:X.K=K):jD X (.type "tuple") (vf K):=by
 rw[<- h];exact jc
end
end L2
namespace PySem
section
variable{prog:Program}{w:World}{A:Around}{d:Addr}{es:Array DictEntry}{ep:Nat}
theorem zdM(H:A.handled=none)(I:Addr)(u:d≠I) :
  Walks prog w A I [I,d] [I] es.size (λi v=>∃e,es[i]? =some e/\v=e.key) (λi h=>h.IsKeyIter I d i es.size ep/\RawD h d es ep) where
 sub:=λb hb=>zP.mpr (.inl (zR.mp hb))
 frame:=λi h t st hk=>{st.1.at (hk I 1e3),st.2.at (hk d 1e3)}
 item:=λi s Q E C st f=>by
  refine YV st.1 st.2 (jY C) λt B D=>?_
  exact f _ t s.toks {_,jY C,rfl} {B,st.2.at λo e=>(D.2 d u).trans e} λb o hb e=>(D.2 b λz=>hb (by simp[z])).trans e
 done:=λs Q E st f=>zcD H st.1 st.2 (zx _) λt G=>f t s.toks λb o hb e=>G b o (λz=>hb (by simp[z])) e
 self:=λi s Q E st f=>wpAny_pyIter_keyiter st.1 f
theorem zg4(lo:(d==sysModules)=false):PySem.W.KdlSrc prog w "dict" d d es.size (λi v=>∃e,es[i]? =some e/\v=e.key) (λh=>RawD h d es ep) where
 type:=λs ⟨o,f,hc,_⟩=>⟨o,f,hc.1⟩
 there:=λh ⟨o,f,_⟩=>{zK f,zK f}
 keep:=λh u hm hk=>hm.at (hk d (.inl rfl))
 notList:=1e1
 notTuple:=1e1
 hint:=λA E s Q ⟨o,f,hc,_⟩ hq=>PySem.W.kdl_hint_dict ⟨o,f,hc.1⟩ hq
 iter:=λA s t hm=>{_,_,(λE Q hq=>YU lo hm hq),zdM t _ (let ⟨o,f,_⟩:=hm;zN (zK f)),{{_,qo _ rfl,rfl,rfl},hm.at λo e=>zH _ e}}
end
end PySem
namespace L2
open PySem PySem.Spec PyProof.Rows
section
variable{X:Cx}
end
section
variable{X:Cx}
variable{o e:Expr}{A:List Expr}{to:TE}{t:TA}{w:Str}{f u:Pos}{id:String}{r:V->List V->Hp->VK->Prop}
end
end L2
namespace L2
open PySem PySem.Spec PyProof.Rows PySem.W
section
variable{X:Cx}
end
end L2
namespace L2
open PySem PySem.Spec PyProof.Rows PySem.W
section
variable{X:Cx}
end
end L2
namespace L2
open PySem PySem.Spec PyProof.Rows PySem.W
section
variable{X:Cx}
end
end L2
namespace L2
open PySem PySem.Spec PyProof.Rows PySem.W
section
variable{f:Program}{w:World}{A:Around}{E:Value->Shared->Prop}{s:Shared}
inductive XX(f:Program)(w:World)(A:Around)(s:Shared):List Value->List Value->Bool->Prop
 | nil:XX f w A s [] [] false
 | nl {y o}:XX f w A s [] (y::o) true
 | ln {x e}:XX f w A s (x::e) [] false
 | eq {x y e o b} (h:∀(Q:Bool->Shared->Prop) E,Q true s->wpAny 0#n A (eqBool x y) Q E s) (t:XX f w A s e o b):XX f w A s (x::e) (y::o) b
 | ne {x y e o b} (h:∀(Q:Bool->Shared->Prop) E,Q false s->wpAny 0#n A (eqBool x y) Q E s) (g:∀(Q:Value->Shared->Prop) E,Q (.bool b) s->wpAny 0#n A (richCompare .Lt x y) Q E s):XX f w A s (x::e) (y::o) b
theorem XZ{x y:Addr}{M I:Obj}{B C:Array Value}{n k:Nat}{b:Bool}{P:PySem.Fin->Shared->Prop}(hx:s.heap.get? x=some M)(O:M.data=.seq B n)(hy:s.heap.get? y=some I)(N:I.cls=.type "tuple")(Q:I.data=.seq C k)
  (T:XX f w A s B.toList C.toList b) (h:P (.done (.ret (.bool b))) s):wpAny 0#n A (Builtin.«tuple.__lt__» {[.ref x,.ref y],[]}) P E s:=by
 show wpAny _ _ (isInstance (.ref y) (.type "tuple") >>= _) _ _ s;refine zc (xC (T:= "tuple") ⟨I,hy,N⟩ isSubtype_tuple_tuple ?_)
 simp only[ZN,x5,if_false];refine zc (yU hx O (zc (yU hy Q (zc ?_))))
 refine wpAny_forIn_list _ (λrest r J=>r.1=none/\J=s/\∃G H,rest=List.zip G H/\XX f w A s G H b/\G.length+C.size=H.length+B.size) _ ?_ ?_ _ _ {rfl,rfl,B.toList,C.toList,rfl,T,by simp[Nat.add_comm]}
 .rintro⟨u,v⟩ rest r J ⟨L,rfl,G,H,o,t,D⟩
  cases t with
  | nil=>simp at o
  | nl=>simp at o
  | ln=>simp at o
  | eq e t=>
   simp only[W5,List.cons.injEq,Prod.mk.injEq] at o;obtain⟨⟨rfl,rfl⟩,rfl⟩:=o;refine zc (e _ _ ?_)
   simp only[ZN,x5,if_false];exact zg {rfl,rfl,_,_,rfl,t,by simp only[qH] at D;omega}
  | ne e g=>
   simp only[W5,List.cons.injEq,Prod.mk.injEq] at o;obtain⟨⟨rfl,rfl⟩,rfl⟩:=o;refine zc (e _ _ ?_)
   simp only[Bool.not_false,if_true];refine zc (j9 (zc (g _ _ ?_)))
   exact zc (zg (zg (zg h)))
 .rintro⟨U,Y⟩ J ⟨L,rfl,G,H,o,t,D⟩
  simp only at L;subst L;refine zg ?_
  have hb:decide (B.size<C.size)=b:=by
   cases t with
   | nil=>exact jA (by simp at D;omega)
   | nl=>exact zY (by simp at D;omega)
   | ln=>exact jA (by simp at D;omega)
   | eq e t=>simp at o
   | ne e g=>simp at o
  show P (.done (.ret (.bool (decide (B.size<C.size))))) J;rw[hb];exact h
theorem Yy{x y:Addr}{o t:Obj}{C D:Array Value}{n k:Nat}{b:Bool}{Q:Value->Shared->Prop}(hu:A.units<cLine)(hx:s.heap.get? x=some o)(u:o.cls=.type "tuple")(G:o.data=.seq C n)(hy:s.heap.get? y=some t)(B:t.cls=.type "tuple")(H:t.data=.seq D k)
  (T:XX f w A.in1 s C.toList D.toList b) (h:Q (.bool b) s):wpAny 0#n A (richCompare .Lt (.ref x) (.ref y)) Q E s:=
 wpAny_richCompare_same_room (op:=.Lt) (T:= "tuple") ⟨o,hx,u⟩ ⟨t,hy,B⟩ F.slot_tuple_lt
  (jG F.slot_tuple_lt ⟨o,hx,u⟩ F.entry_tuple_lt (XZ hx G hy B H T {_,rfl,(λe=>nomatch e),h}) (F.args_tuple_lt_2 _ _)) hu
def ltN:List Int->List Int->Bool
 | [],[]=>false
 | [],_::_=>true
 | _::_,[]=>false
 | a::e,b::o=>if a=b then ltN e o else decide (a<b)
theorem eq_int(x y:Int)(t u:Tok){Q:Bool->Shared->Prop}(h:Q (decide (x=y)) s):wpAny 0#n A (eqBool (.int x t) (.int y u)) Q E s:=by
 refine(zw f w).eqBool (a:=Sum.inl x) (b:=Sum.inl y) (wI ⟨t,rfl⟩) (wI ⟨u,rfl⟩) ?_
 rw[show decide ((Sum.inl x:Key)=Sum.inl y)=decide (x=y) from decide_eq_decide.mpr {λz=>xa z,λz=>by rw[z]}]
 exact h
theorem zcQ(x y:Int)(t u:Tok){Q:Value->Shared->Prop}(h:Q (.bool (decide (x<y))) s):wpAny 0#n A (richCompare .Lt (.int x t) (.int y u)) Q E s:=
 richCompare_gives (op:=.Lt) (typeIs_int s _ t) (typeIs_int s _ u) F.slot_int_lt F.entry_int_lt (F.args_int_lt_2 _ _) (gives_int_lt _ _ t u) (λx=>nomatch x) h
theorem zad:∀{o B:List Int} {C D:List Value},Vals (o.map V.int) C->Vals (B.map V.int) D->XX f w A s C D (ltN o B)
 | [],[],_,_,.nil,.nil=>.nil
 | [],_::_,_,_,.nil,.cons _ _=>.nl
 | _::_,[],_,_,.cons _ _,.nil=>.ln
 | a::o,b::B,_,_,.cons ⟨t,e1⟩ G,.cons ⟨u,e2⟩ H=>by
  subst e1 e2;by_cases h:a=b
  .have e:ltN (a::o) (b::B)=ltN o B:=zt h
   rw[e];exact .eq (λQ E q=>eq_int a b t u (by rw[zY h];exact q)) (zad G H)
  .have e:ltN (a::o) (b::B)=decide (a<b):=zq h
   rw[e];exact .ne (λQ E q=>eq_int a b t u (by rw[jA h];exact q)) λQ E q=>zcQ a b t u q
def ltW(p q:Int×List Int):Bool:=if p.1=q.1 then(if p.2=q.2 then false else ltN p.2 q.2) else decide (p.1<q.1)
theorem zfO{p q:Int×List Int}(h:ltW p q=true):p.1<=q.1:=by
 unfold ltW at h;by_cases e:p.1=q.1
 .omega
 .rw[zq e] at h
  exact Int.le_of_lt (xF h)
theorem zfP{p q:Int×List Int}(h:ltW p q=false):q.1<=p.1:=by
 unfold ltW at h;by_cases e:p.1=q.1
 .omega
 .rw[zq e] at h
  have:=of_decide_eq_false h;omega
end
section
variable{f:Program}{w:World}{A:Around}{R:Result->Shared->Prop}{I S:Addr}{u t:List Addr}{n:Nat}{P:Nat->Value->Prop}{St:Nat->Heap->Prop}
theorem VN(W:Walks f w A.in1 I u t n P St)(M:Nat->Nat->Bool)(J:Heap->Prop)(hJ:∀h B,J h->(∀b o,b∉t->b≠S->h.get? b=some o->B.get? b=some o)->J B)
  (hc:∀i j vi vj (s:Shared) (Q:Value->Shared->Prop) (E:Value->Shared->Prop),J s.heap->P i vi->P j vj->Q (.bool (M i j)) s->wpAny 0#n A.in1 (richCompare .Lt vi vj) Q E s) (O:S∉u) :
  ∀(k j:Nat) (s:Shared) (C:Value) (c:Nat),n=j+1+k->St (j+1) s.heap->J s.heap->P (argBest M j) C->s.heap.get? S=some (seqObj "list" #[C,C] c) ->
   (∀v B Y,P (argBest M (n-1)) v->(∀b o,b∉t->b≠S->s.heap.get? b=some o->B.get? b=some o)->R (.ok (.ret v)) { s with heap:=B,toks:=Y }) ->
   codeAny 0#n A (.builtin "min.loop" {[.ref I,.none,.ref S],[]}) R s:=by
 have nw:S∉t:=λh=>O (W.sub _ h)
 have nm:(toString "min" ++ toString ".loop" : String) = "min.loop" :=1e1
 intro k;induction k with
 | zero=>
  intro j s C c hn st j0 pb N hR;refine codeAny_builtin WY ?_
  rw[yg wy _];show wpAny _ A.in1 (seqItems? (.ref S) >>= _) _ _ s;refine zc (xc N rfl ?_)
  show wpAny _ A.in1 (tryCatch (pyNext (.ref I)) _ >>= _) _ _ s;have aa:St n s.heap:=by rw[hn];exact st
  refine zc (QJ (W.done s _ _ aa λB Y G=>?_))
  show wpAny _ A.in1 (updateSeq S (λ_=>#[]) >>= _) _ _ _
  refine zc (wx (G S _ nw N) rfl (zc (w8 (zg ?_))))
  exact hR C _ Y (by rw[hn];exact pb) λb o b1 b2 e=>(vm _ _ (zS b2)).trans (G b o b1 e)
 | succ k ih=>
  intro j s C c hn st j0 pb N hR;refine codeAny_builtin WY ?_
  rw[yg wy _];show wpAny _ A.in1 (seqItems? (.ref S) >>= _) _ _ s;refine zc (xc N rfl ?_)
  show wpAny _ A.in1 (tryCatch (pyNext (.ref I)) _ >>= _) _ _ s;refine zc (QJ (W.item (j+1) s _ _ () st λv B Y pv U G=>?_))
  have D:=G S _ nw N;have j2:J B:=hJ _ _ j0 λb o b1 _ e=>G b o b1 e
  show wpAny _ A.in1 (tryCatch (holding [v,v] (richCompare .Lt v C >>= _)) _ >>= _) _ _ _;refine zc (QJ (jy (zc (hc (j+1) (argBest M j) v C { s with heap:=B,toks:=Y } _ _ j2 pv pb ?_))))
  refine zc (jy (yc (zc (w8 (zg ?_)))))
  cases hb:M (j+1) (argBest M j) with
  | true=>
   simp only[if_true];refine zc (wx D rfl (zc (w8 ?_)))
   rw[nm];have H:∀b o,b≠S->B.get? b=some o->(B.update S (Obj.mapSeq λ_=>#[v,v])).get? b=some o:=λb o b2 e=>(vm _ _ (zS b2)).trans e
   refine zg {plainId_quiet wy _,ih (j+1) _ v _ () (W.frame _ _ _ U λb bf o e=>H b o (λz=>O (by rw[<- z];exact bf)) e) (hJ _ _ j2 λb o _ b2 e=>H b o b2 e) (by simp only[argBest,hb,if_true];exact pv) (xG _ D rfl) λv' h2 L p2 k2=>?_}
   exact hR v' h2 L p2 λb o b1 b2 e=>k2 b o b1 b2 (H b o b2 (G b o b1 e))
  | false=>
   simp only[x5,if_false];refine zc (w8 ?_)
   rw[nm];refine zg {plainId_quiet wy _,ih (j+1) _ C c () U j2 (by simp only[argBest,hb,x5,if_false];exact pb) D λv' h2 L p2 k2=>?_}
   exact hR v' h2 L p2 λb o b1 b2 e=>k2 b o b1 b2 (G b o b1 e)
end
end L2
namespace L2
open PySem PySem.Spec PyProof.Rows PySem.W
def WkR(H:Hp)(f:List V)(e:List (Int×List Int)):Prop:=f.length=e.length/\∀(j:Nat) q,e[j]? =some q->∃T U,f[j]? =some (.ref T)/\H T=some (.tup [.int q.1,.ref U])/\H U=some (.tup (q.2.map V.int))
theorem WkR.nil{H:Hp}:WkR H [] []:={rfl,λj q e=>by simp at e}
theorem WkR.set{H:Hp}{w:List V}{u:List (Int×List Int)}{q:Int×List Int}{T U:Addr}{i:Nat}(h:WkR H w u)(e:H T=some (.tup [.int q.1,.ref U]))(C:H U=some (.tup (q.2.map V.int))):WkR H (w.set i (.ref T)) (u.set i q):=by
 refine{by rw[XJ,XJ,h.1],λj r f=>?_}
 by_cases o:i=j
 .subst o
  have t:=(zO.mp f).1;rw[XJ] at t;rw[Yh t] at f;cases f;exact{T,U,Yh (by rw[h.1];exact t),e,C}
 .rw[Yc o] at f
  obtain⟨A,B,e1,e2,D⟩:=h.2 j r f;exact{A,B,by rw[Yc o];exact e1,e2,D}
def X7(e:List (Int×List Int)):Nat:=argBest (λi j=>ltW (e.getD i (0,[])) (e.getD j (0,[]))) (e.length-1)
theorem WR(f:Nat->Int×List Int):∀n,argBest (λi j=>ltW (f i) (f j)) n<=n/\∀j,j<=n->(f (argBest (λi j=>ltW (f i) (f j)) n)).1<=(f j).1
 | 0=>{zx _,λj o=>by rw[show j=0 by omega];exact vd _}
 | n+1=>by
  obtain⟨h1,h2⟩:=WR f n;cases hb:ltW (f (n+1)) (f (argBest (λi j=>ltW (f i) (f j)) n)) with
  | true=>
   have e:argBest (λi j=>ltW (f i) (f j)) (n+1)=n+1:=by simp only[argBest,hb,if_true]
   rw[e];refine{zx _,λj o=>?_}
   rcases Nat.lt_or_ge j (n+1) with z | z
   .exact yL (zfO hb) (h2 j ())
   .rw[show j=n+1 by omega];exact vd _
  | false=>
   have e:argBest (λi j=>ltW (f i) (f j)) (n+1)=argBest (λi j=>ltW (f i) (f j)) n:=by simp only[argBest,hb,x5,if_false]
   rw[e];refine{(),λj o=>?_}
   rcases Nat.lt_or_ge j (n+1) with z | z
   .exact h2 j ()
   .rw[show j=n+1 by omega];exact zfP hb
theorem zcP{e:List (Int×List Int)}(h:e≠[]):X7 e<e.length:=by
 have:=(WR (λi=>e.getD i (0,[])) (e.length-1)).1
 have:=W8.mpr h;unfold X7;omega
theorem zhy{ps:List (Int×List Int)}{j:Nat}(h:j<ps.length):(ps.getD (X7 ps) (0,[])).1<=(ps.getD j (0,[])).1:=
 (WR (λi=>ps.getD i (0,[])) (ps.length-1)).2 j ()
section
variable{X:Cx}
end
end L2
namespace L2
open PySem PySem.Spec PyProof.Rows PySem.W
section
variable{X:Cx}
inductive Jm(P:Program)(w:World)(f:List V)(H:Hp)(Q:VK):Prop
 | mk (a:Addr) (e:List Key) (_:f=[.ref a]) (_:H a=some (Zj P w a e)) (_:Q (.int e.length) H):Jm P w f H Q
theorem zep:jD X (.builtin "len") (Jm X.prog X.w):=by
 intro B s σ H xs Y Q I r h;obtain⟨a,A,rfl,hx,q⟩:=h;obtain⟨u,rfl,M⟩:=ua r;cases(show u=Value.ref a from M)
 obtain⟨⟨o,D,f,O,t,w,hd,⟨_,G,J,L⟩,_,E,C,_⟩,_,_⟩:=(show ObjOk X.prog X.w H s.heap a (Zj X.prog X.w a A) from I.hok a _ hx)
 have ln:f.size=A.length:=by
  have e1:=L.length;have e2:=J.length_eq;have N:f.toList.length=f.size:=jt;omega
 have U:scanBound=4096:=rfl;refine call_len_set D w hd C () {.int A.length,H,I.kept (λb o e=>e),{_,by rw[ln]},q}
end
end L2
namespace L2
open PySem PySem.Spec PyProof.Rows
section
variable{X:Cx}
end
section
variable{e:Program}{w:World}{K:Type}[DecidableEq K]{f:KeyKind e w K}{A:Around}{E:Value->Shared->Prop}{s:Shared}
end
section
variable{X:Cx}
end
end L2
namespace L2
open PySem PySem.Spec PyProof.Rows PySem.W
section
variable{e:Program}{w:World}{A:Around}{R:Result->Shared->Prop}{I S:Addr}{f o:List Addr}{n:Nat}{P:Nat->Value->Prop}{St:Nat->Heap->Prop}
end
section
variable{X:Cx}
end
end L2
namespace L2
open PySem PySem.Spec PyProof.Rows
section
variable{X:Cx}
end
end L2
namespace L2
open PySem PySem.Spec PyProof.Rows PySem.W
section
variable{X:Cx}
end
end L2
namespace L2
open PySem PySem.Spec PyProof.Rows
section
variable{X:Cx}
end
section
variable{f:Program}{w:World}{A:Around}{E:Value->Shared->Prop}{s:Shared}
theorem zbi{t:Addr}{o:List Value}{G:List Value->Shared->Prop}(I:IsTup s.heap t o.toArray)(z:o.length<=sizeLine)
  (k:G o { s with heap:=(s.heap.push (seqObj "list" #[] 0)).update s.heap.objs.size (Obj.mapSeq (·++o.toArray)) }):wpAny 0#n A (collect (.ref t)) G E s:=by
 obtain⟨B,H,C,m,D⟩:=id I;unfold collect;refine zc (wpAny_runValue (codeAny_builtin entry_proto_collect' ?_))
 show wpAny _ _ (do again (.builtin "list.__iadd__" {[<- newList [],.ref t],[]})) _ _ s
 refine zc (wpAny_newList (zg {Code.quiet_builtin _ (by decide +kernel),codeAny_builtin entry_list_iadd' ?_}))
 have e1:(s.heap.push (seqObj "list" #[] 0)).get? t=some B:=zH _ H;have u:(s.heap.push (seqObj "list" #[] 0)).get? s.heap.objs.size=some (seqObj "list" #[] 0):=qo _ rfl;show wpAny _ _ (Builtin.List.listExtendWith 0#m (.ref t) _) _ _ { s with heap:=s.heap.push (seqObj "list" #[] 0) };unfold Builtin.List.listExtendWith;refine zc (wq (T:= "tuple") ⟨B,e1,C⟩ ?_)
 rw[zt (by rw[show(Value.type "tuple" == Value.type "tuple")=true from rfl,Bool.or_true])]
 refine zc (listItems_at e1 D (zc (listItems_at u rfl ?_)))
 rw[zq 1e3]
 refine zc (listUpdate_at u rfl (zg ?_) (qJ _) (by show(#[]++o.toArray).size<=sizeLine+1;simp;omega))
 refine zc (wpAny_load (get?_update_seq u _) ?_)
 show wpAny _ _ (pure ((#[]:Array Value)++o.toArray).toList) G E _;have e:((#[]:Array Value)++o.toArray).toList=o:=1e3
 rw[e];exact zg k
end
section
variable{X:Cx}
inductive yj(K:W.Frag)(o:List V)(H:Hp)(Q:VK):Prop
 | mk (a:Addr) (f:List Int) (_:o=[.ref a]) (_:SqT K H a (f.map V.int)) (_:f.length<64) (_:∀(p:Addr) (e:List Int),H p=none->e.Perm f->e.Pairwise (·<= ·)->Q (.ref p) (upd H p (.lst (e.map V.int)))):yj K o H Q
theorem xW:jD X (.builtin "sorted") (yj X.K):=by
 intro C s σ H xs us Q I r h;obtain⟨a,U,rfl,hx,N,q⟩:=h;obtain⟨u,rfl,M⟩:=ua r;cases(show u=Value.ref a from M)
 obtain⟨f,D,L,O⟩:=I.tuple hx;have A:=D.length;rw[zm] at A;refine zbY kind_sorted plain_sorted entry_sorted (args_sorted1 _) ?_
 unfold Builtin.«sorted»;refine zc (m:=checkCount "sorted" 1 1 _) (zg (zc (zbi L (by rw[sizeLine_eq];omega) (zc (wpAny_newList ?_ (by rw[sizeLine_eq];omega))))))
 have E:((s.heap.push (seqObj "list" #[] 0)).update s.heap.objs.size (Obj.mapSeq (·++f.toArray))).objs.size=s.heap.objs.size+1:=by rw[Heap.size_update,size_push']
 have t:(((s.heap.push (seqObj "list" #[] 0)).update s.heap.objs.size (Obj.mapSeq (·++f.toArray))).push (seqObj "list" f.toArray 0)).get? 0#O=some (seqObj "list" f.toArray 0):=by
  rw[<- E];exact qo _ rfl
 rw[show(Value.ref ((s.heap.push (seqObj "list" #[] 0)).update s.heap.objs.size (Obj.mapSeq (·++f.toArray))).objs.size)=Value.ref 0#O from congrArg Value.ref E]
 refine zc (jy (jG slot_list_sort {_,t,rfl} entry_list_sort (list_sort_tree t (Xj D) () λw B a1 a2 a3=>{_,rfl,zg {_,rfl,?_}}) (args_list_sort _)))
 obtain⟨e,G⟩:=sortedAll_at s.heap f w;have J:H 0#O=none:=I.hok.fresh (xH _);refine{.ref 0#O,_,I.laid (a:=s.heap.objs.size+1) (o:=.lst (B.map V.int)) (t':=s.toks) (λ_ _=>sortedAll_old) (xH _) {?_,w.toList,e,Z7 a1,?_},rfl,q _ B J a2 a3}
 .rw[zm,a2.length_eq,sizeLine_eq];omega
 .exact G.trans (by simp[seqObj])
end
theorem zeD(o B f:Expr)(u:List Expr)(scope:Scope)(w:Pos)(A t:Value)(e:Env) :
  compTurn (.SetComp o [{B,f,u,0}] scope w) 0 A t e=(do
   standAt f.pos
   match<-pyNext A with
   | none=>pure (.done .next)
   | some v=>
    letOwnedTupleGo B A v
    assign B e v
    let mut ok:=true
    for c in u do
     if ok then ok<-isTrue c e (eval c e)
    if ok then
     (do let v<-eval o e;standAt o.pos;let _<-call (.builtin "set.add") [t,v])
    again (.compLoop (.SetComp o [{B,f,u,0}] scope w) 0 A t e)):=1e2
section
variable{e:Program}{w:World}{A:Around}{E:Value->Shared->Prop}{R:Result->Shared->Prop}{s:Shared}
theorem zdE{B H o C rest scope D G u t}
  (h0:codeAny 0#w A (.compLoop (.SetComp B ({H,o,C,0}::rest) scope D) 0 G u t) R s)
  (h:wpAny 0#w A (pyIter G) (λI J=>codeAny 0#w A (.compLoop (.SetComp B ({H,o,C,0}::rest) scope D) 0 I u t) R J) (notedBy 0#w A t λx J=>R (.error x) J) s) :
  codeAny 0#w A (.compStart (.SetComp B ({H,o,C,0}::rest) scope D) 0 G u t) R s:=by
 refine codeAny_of_tree (show wpAny _ A ((compStart (.SetComp B ({H,o,C,0}::rest) scope D) 0 G u t).onRaise (λx=>do noteFrame x t;standAt theWindowsPlace)) _ _ s from wpAny_notedAt ?_)
 unfold compStart;refine(show wpAny _ A (ask >>= _) _ _ s from zc (QN (wpAny_ite ?_)))
 split
 .first
   | exact zg ⟨rfl,h0⟩
   | exact zc (zg (zg ⟨rfl,h0⟩))
 .first
   | exact zc (j9 (zc (xZ (zc (z9 h (λ_ _ q=>zg ⟨rfl,q⟩) λ_ _ x=>x)))))
   | (refine zc (j9 ?_)
      exact(show wpAny _ _ (standAt o.pos >>= _) _ _ s from zc (xZ (zc (z9 h (λ_ _ q=>zg ⟨rfl,q⟩) λ_ _ x=>x)))))
theorem zdK{C Y D:Expr}{G:List Expr}{scope:Scope}{I:Pos}{M B:Value}{o:Env}(J:Nat->Shared->Prop)
  (L:∀n s,J n s->wpAny 0#w A (pyNext M) (λr s1=>match r with
   | none=>R (.ok .next) s1
   | some v=>wpAny 0#w A (letOwnedTupleGo Y M v) (λ_ s2=>wpAny 0#w A (assign Y o v) (λ_ s3=>
     wpAny 0#w A (xT G o) (λok N=>
      if ok=true then wpAny 0#w A (eval C o) (λx O=>
       wpAny 0#w A (call (.builtin "set.add") [B,x]) (λ_ U=>∃m,m<n/\J m U) 0#h O) 0#h N
      else ∃m,m<n/\J m N) 0#h s3) 0#h s2) 0#h s1) 0#h s)
  (n:Nat) (h:J n s):codeAny 0#w A (.compLoop (.SetComp C [{Y,D,G,0}] scope I) 0 M B o) R s:=by
 have H:∀{α:Type} {t:Sem α} {Q:α->Shared->Prop} {E:Value->Shared->Prop} {s:Shared},wpAny 0#w A t Q 0#h s->wpAny 0#w A t Q E s:=λx=>z9 x (λ_ _ q=>q) λ_ _ q=>q.elim
 refine codeAny_loop rfl J (λk u hJ=>?_) n h
 refine(show wpAny _ A ((compTurn (.SetComp C [{Y,D,G,0}] scope I) 0 M B o).onRaise (λx=>do noteFrame x o;theTreesLotGoes x)) _ _ u from wpAny_noted ?_)
 rw[zeD];refine zc (xZ (zc (H (z9 (L k u hJ) (λr s1 h1=>?_) λ_ _ q=>q))))
 cases r with
 | none=>exact zg h1
 | some v=>
  refine zc (H (z9 h1 (λ_ s2 h2=>zc (H (z9 h2 (λ_ s3 h3=>zc (H (z9 h3 (λok N h4=>?_) λ_ _ q=>q))) λ_ _ q=>q))) λ_ _ q=>q))
  cases ok with
  | false=>exact zg ⟨rfl,h4⟩
  | true=>
   have aa:wpAny 0#w A (eval C o) (λx O=>wpAny 0#w A (call (.builtin "set.add") [B,x]) (λ_ U=>∃m,m<k/\J m U) 0#h O) 0#h N:=h4
   refine zc (zc (H (z9 aa (λx O h5=>zc (xZ (zc (H (z9 h5 (λ_ U h6=>zg (zg ⟨rfl,h6⟩)) λ_ _ q=>q))))) λ_ _ q=>q)))
variable{K:Type}[DecidableEq K]{f:KeyKind e w K}
theorem zll{a:Addr}{I:List K}{k:K}{x:Value}{b:Bool}{Q:Value->Shared->Prop}(u:f.is k x=true)(H:x.scannable=true)(L:SetX f b s.heap a I)(B:I.length+1<scanBound)
  (h:∀C J,Heap.SameBut a s.heap C->SetX f b C a (xI I k)->Q .none { s with heap:=C,toks:=J }):wpAny 0#w A (call (.builtin "set.add") [.ref a,x]) Q E s:=by
 obtain⟨o,M,hb⟩:=id L;obtain⟨es,Y,t,D,_⟩:=id hb;refine jG F.slot_set_add ⟨o,M,D.1⟩ F.entry_set_add ?_ (F.args_set_add_2 _ _)
 have ty:s.TypeIs (.ref a) "set" :=⟨o,M,D.1⟩;unfold Builtin.«set.add»;generalize G:setAdd=U;obtain⟨hp,g,d,J,os⟩:=s;wp_walk
 subst G;refine(show wpAny _ _ (setAdd a x) _ _ _ from jy (zc (f.pyHash u ?_)))
 refine zk4 (s:={hp,g,d,J+1,os}) u H L B (λC c N O=>?_)
 exact zg {_,rfl,h C _ N O}
theorem zhw{Q:Value->Shared->Prop}(h:Q (.ref s.heap.objs.size) { s with heap:=s.heap.push (Zi w) }):wpAny 0#w A (newSet (.type "set")) Q E s:=by
 unfold newSet setsByText;refine zc (zc (QN (zg ?_)))
 dsimp only;simp only[newObj];exact zc (wpAny_alloc (zg h))
end
def tSC(P:Program)(w:World)(U:TI)(n:Nat)(B:List Nat)(g:TG)(O:TT)(M:TE):TE:=λσ H Q=>U σ H λJ G=>
 ∃W:Nat->Nat->List Key->Hp->Prop,(∃m,W 0 m [] G)/\∀i m f e,W i m f e ->
  (J.stop i e/\∀D,e D=none->Q (.ref D) (upd e D (Zj P w D f))) \/
  (J.go i e/\∃N:List Key->Hp->Prop,(∀E t,N E t->∃C,C<m/\W (i+1) C E t)/\∀x u,J.yld i e x u->g x (upS n B σ) u λo I=>o.drop n=(upS n B σ).drop n/\O o I λb A=>
   if b=true then M o A λy L=>∃k:Key,y=kV k/\f.length+1<4096/\N (xI f k) L else N f A)
section
variable{X:Cx}{w G f:Expr}{A:List Expr}{scope:Scope}{E:Pos}{O:TI}{g:TG}{M:TT}{L:TE}
theorem zf2{k:Key}{u:Value}(r:RelV (kV k) u):u.scannable=true:=by
 cases k with
 | inl i=>obtain⟨t,rfl⟩:=r;rfl
 | inr i=>obtain⟨t,rfl⟩:=r;rfl
theorem zkE(own fr:List Str)(js:List Nat)(hc:X.calm=true)(hk:scope.kind=.function)(hb:Zs scope.names X.env.scope.names X.N fr js=true)(hi:PI X G f O)
  (hg:∀C s H ex,PG (zB X (own++fr) scope C s H ex) G g) (hf:∀C s H ex,PF (zB X (own++fr) scope C s H ex) A M) (he:∀C s H ex,PE (zB X (own++fr) scope C s H ex) w L)
  (hs:∀x,foldedSetIterable f X.env x=pure x:=by intro _;rfl):PE X (.SetComp w [{G,f,A,0}] scope E) (tSC X.prog X.w O own.length js g M L):=by
 intro ab s σ H Q I h;have B:=Xw hb;have ag:∀y∈scope.names,y.2=NameKind.free->∃c,X.env.cells.lookup y.1=some c:=λy hy e=>I.ok.has y.1 (B.free y hy e)
 rw[arm_eval_SetComp];refine wpAny_comprehension_free (use:=none) rfl hs (JH ag) hk (λy hy e=>B.loc y hy e) (thn (hi ab s σ H _ I h) λv s1 h1=>thn h1 λbv s2 h2=>?_)
 obtain⟨it,U,tn,J,H2,e,I2,T,aq,f2,W,⟨m0,w0⟩,bd⟩:=h2;subst e;have fl:∀b∈U,b<s2.heap.objs.size:=λb hb=>let ⟨o,e,_⟩:=T.obj _ _ aq b hb;zK e
 refine zhw (wpAny_newFunctionEnv B.cell (by intro y hy;simp at hy) (λh1 an ao=>?_) hk)
 dsimp only at an ao ⊢;have ba:SetX 0#x (Jq X.w) (s2.heap.push (Zi X.w)) s2.heap.objs.size []:=YO s2.heap;have sD:=I2.fpOk (zx s2.heap.objs.size) (I2.hok.fresh (zx s2.heap.objs.size));generalize e3:s2.heap.push (Zi X.w)=h3 at an ao ba ⊢;have k3:∀b o,s2.heap.get? b=some o->h3.get? b=some o:=λb o e=>by rw[<- e3];exact zH _ e
 have k4:∀b o,h3.get? b=some o->h1.get? b=some o:=λb o e=>ao.extBut b o (zN (zK e)) (zH _ e)
 have I3:Inv X ab σ H2 { s2 with heap:=h3 }:=I2.kept (t':=s2.toks) k3;have hz:h3.objs.size=s2.heap.objs.size+1:=by rw[<- e3,jq]
 have am:s2.heap.objs.size≠h3.objs.size:=by rw[hz];exact zN (wP _)
 generalize eD:s2.heap.objs.size=D at *
 have fD:∀b∈U,D≠b:=λb hb=>jW (fl b hb)
 have f3:∀b∈D::U,jH X ab H2 b:=λb hb=>(zP.mp hb).elim (λz=>z▸sD) (f2 b)
 have I4:Inv (zB X (own++fr) scope h3.objs.size { s2 with heap:=h3,toks:=s2.toks } H2 (D::U)) [] 0#R H2 { s2 with heap:=h1,toks:=s2.toks+([]:List (Str×Value)).length }:=
  Xv own fr js I3 B hk f3 (λb hb=>by
   show b<h3.objs.size;rw[hz];exact(zP.mp hb).elim (λz=>z▸wP _) λz=>vP (fl b z)) rfl an k4
 generalize eC:h3.objs.size=C at *
 have hx:∀b∈D::U,∀x c,(qX X.env.cells scope.names []).lookup x=some c->c≠b:=λb hb x c e=>(f3 b hb).2.2.2.2.1 x c (zV e ag)
 have bp:∀b∈D::U,b∉frs X.stack:=I4.ok.exfs;have as:∀{aa:List 0#p} {Y:Hp} {b:Addr},b∈D::U->Y b=none->(∀p∈aa,p.1≠b)->jH 0#j aa Y b:=λ{aa Y b} hb hn hp=>
  {hn,(I4.ok.exf b hb).1,bp b hb,.inl hb,λx c e=>hx b hb x c e,λp h=>hp p (by simpa using h)}
 have ai:∀s4:Shared,s4={ s2 with heap:=h1,toks:=s2.toks+([]:List (Str×Value)).length } ->
   codeAny 0#e X.A (.compLoop (.SetComp w [{G,f,A,0}] scope E) 0 (.ref it) (.ref D) 0#l)
    (compPost 0#e X.A X.xe none (EP X ab σ Q) (.ref D) C) s4:=by
  intro s4 e4;refine zdK (λn s'=>∃i ks Y,Inv 0#j [] 0#R Y s'/\tn i s'.heap/\(∀b∈U,Y b=none)/\Y D=none/\SetX 0#x (Jq X.w) s'.heap D ks/\W i n ks Y) ?_ m0 ?_
  .rintro n s5 ⟨i,ks,H5,I5,b0,au,bh,br,w5⟩
   obtain⟨o5,aw,ae⟩:=id br;have nc:∀v,o5.data≠.cell v:=λv q=>by
    obtain⟨es,ep,t,_,hd,_⟩:=ae;rw[hd] at q;cases q
   have ar:=I5.pinned (fp:=[D]) (λb hb=>by rw[zR.mp hb];exact as xp bh (λp hp=>absurd hp 1e3)) (λb hb=>by
    rw[zR.mp hb];exact{_,aw,nc})
   have pD:∀p∈[]++zX [D] s5.heap,p.1=D:=λp hp=>by
    rw[XH] at hp;exact zR.mp (vC hp).1
   have mD:(D,o5)∈[]++zX [D] s5.heap:=by
    rw[XH];exact qP (zR.mpr rfl) aw
   have al:∀{Y:Hp},(∀b∈U,Y b=none)->∀b∈U,jH 0#j ([]++zX [D] s5.heap) Y b:=λhn b hb=>as (jf _ hb) (hn b hb) λp hp=>by
    rw[pD p hp];exact fD b hb
   rcases bd i n ks H5 w5 with ⟨stop,q⟩ | ⟨go,N,hN,step⟩
   .refine thn (T.done 0#j rfl rfl rfl hc i _ s5 _ H5 _ ar (al au) b0 stop) λr s6 ⟨hr,I6⟩=>?_
    subst hr;obtain⟨m6,bm,_⟩:=I6.loc;refine{m6,bm,λh7 bn=>?_}
    obtain⟨o6,ay,_⟩:=I6.pin (D,_) (zZ _ mD);have k7:∀b o,b≠C->s6.heap.get? b=some o->h7.get? b=some o:=λb o hb e=>bn.extBut b o hb e
    have bs:SetX 0#x (Jq X.w) h7 D ks:={o5,k7 D _ am o6,ae};refine{.ref D,upd H5 D (Zj X.prog X.w D ks),?_,rfl,q D ay}
    refine I3.call' (s':={ s6 with heap:=h7 }) (ch:=D::U) I6.os (Z9 (Wa I6.base (vT eC) k7) xp sD.1) (Zc (JD I6.hok I6.free k7) ay {bs,?_,λh1 h2 x e=>x.at e}) I6.bare λb hb=>?_
    .exact{o5,k7 D _ am o6}
    .obtain⟨_,g1,_,g3,g4,g5⟩:=f3 b hb
     exact⟨g3,g1,g4,g5⟩
   .refine thn (T.item 0#j rfl rfl rfl hc i _ s5 _ H5 _ ar (al au) b0 go) λr s6 ⟨u,hr,h6⟩=>?_
    subst hr;refine thn h6 λ_ s7 ⟨x,H7,I7,r7,y7,af,bg⟩=>?_
    have bf:=I7.pinned (al bg) (T.obj _ _ af);refine thn (hg _ _ _ _ _ s7 _ H7 x u _ bf r7 (step x H7 y7)) λ_ s8 ⟨σ8,H8,I8,bi,q8⟩=>?_
    refine thn (hf _ _ _ _ _ s8 σ8 H8 _ I8 q8) λok s9 ⟨H9,I9,q9⟩=>?_
    have ak:∀{Y:Hp} {s':Shared},Inv 0#j (([]++zX [D] s5.heap)++zX U s7.heap) σ8 Y s' ->
      Inv 0#j [] 0#R Y s':=λ{Y s'} J=>by
     refine(J.unpinned).unpinned.weak (I5.len.trans J.len.symm) λk v e=>?_
     obtain⟨hn,e1,_⟩:=vH e;rw[<- bi,W6] at e1;rw[<- e1];congr 1
     omega
    have mF:∀b∈U,∀o,s7.heap.get? b=some o->(b,o)∈([]++zX [D] s5.heap)++zX U s7.heap:=λb hb o e=>zZ _ (qP hb e)
    have ax:=jK (zX U s7.heap) mD;have av:∀{Y:Hp} {s':Shared},Inv 0#j (([]++zX [D] s5.heap)++zX U s7.heap) σ8 Y s'->∀b∈U,Y b=none:=λ{Y s'} J b hb=>by
     obtain⟨o,e,_⟩:=T.obj _ _ af b hb;exact(J.pin (b,o) (zZ _ (mF b hb o e))).2.1
    cases ok with
    | false=>
     have ap:N ks H9:=by simpa using q9
     obtain⟨m',hm,w'⟩:=hN _ _ ap;obtain⟨o9,bo,_⟩:=I9.pin (D,_) (zZ _ ax);exact{m',hm,i+1,ks,H9,ak I9,T.keep _ _ _ af λb hb o e=>(I9.pin (b,o) (zZ _ (mF b hb o e))).1,av I9,bo,⟨o5,o9,ae⟩,w'}
    | true=>
     have ap:L σ8 H9 λy H6=>∃k:Key,y=kV k/\ks.length+1<4096/\N (xI ks k) H6:=by simpa using q9
     refine thn (he _ _ _ _ _ s9 σ8 H9 _ I9 ap) λyv bw ⟨y,be,ac,az,ky,ey,bj,bt⟩=>?_
     subst ey;obtain⟨m',hm,w'⟩:=hN _ _ bt;obtain⟨bq,aj,_⟩:=ac.pin (D,_) (zZ _ ax);refine zll (wI az) (zf2 az) ⟨o5,bq,ae⟩ bj λbu bc ah bb=>?_
     refine{m',hm,i+1,xI ks ky,be,?_,T.keep _ _ _ af λb hb o e=>ah.extBut b o (zS (fD b hb)) (ac.pin (b,o) (zZ _ (mF b hb o e))).1,av ac,aj,bb,w'}
     exact(ak ac).turned (t':=bc) (it:=D) (λb o hb e=>ah.extBut b o hb e) aj am (.inl xp) (λx c e=>hx D xp x c e) λp hp=>absurd (show p∈([]:List 0#p) from hp) 1e3
  .subst e4
   exact{0,[],H2,I4,T.keep _ _ _ aq λb hb o e=>k4 b o (k3 b o e),λb hb=>(f2 b hb).1,sD.1,ba.at λo e=>k4 _ _ e,w0}
 exact zdE (ai _ rfl) (T.self X.A 0 _ _ _ (T.keep _ _ _ aq λb hb o e=>k4 b o (k3 b o e)) (ai _ rfl))
end
section
variable{X:Cx}{x y:Str}{u E G:Pos}{D:Nat}{f e:Expr}{o:List Expr}{scope:Scope}{t:Pos}{B:TI}{A:TT}{w:TE}
theorem zjh(J:List Str)(L:List Nat)(hc:X.calm=true)(hk:scope.kind=.function)(hb:vN scope.names X.env.scope.names X.N [x] J L=true)(O:PI X (.Name x u) e B)
  (N:∀C s H I,PF (zB X ([x]++J) scope C s H I) o A) (M:∀C s H I,PE (zB X ([x]++J) scope C s H I) f w)
  (Q:∀x,foldedSetIterable e X.env x=pure x:=by intro _;rfl):PE X (.SetComp f [{.Name x u,e,o,0}] scope t) (tSC X.prog X.w B 1 L (j7 0) A w):=by
 obtain⟨h1,h2,h3⟩:=xn hb;exact zkE [x] J L hc hk h1 O (λC s H I=>xf (h2 x 1e3) h3 rfl) N M Q
end
theorem zg2{K:W.Frag}{a:Addr}{xs:List V}{g:TG}{J:TT}{I:TE}{A:St}{n:Nat}{R:List Key->Hp->Prop}{H:Hp}(Pv:Nat->List Key->Hp->Prop)(h0:Pv 0 [] H)
  (h1:∀i f H,Pv i f H->SqL K H a xs)
  (L:∀i x f H,xs[i]? =some x->Pv i f H->g x A H λt D=>t.drop n=A.drop n/\J t D λb u=>
   if b=true then I t u λv E=>∃k:Key,v=kV k/\f.length+1<4096/\Pv (i+1) (xI f k) E else Pv (i+1) f u)
  (hd:∀f H,Pv xs.length f H->R f H) :
  ∃W:Nat->Nat->List Key->Hp->Prop,(∃m,W 0 m [] H)/\∀i m f o,W i m f o ->
   ((Itl K a).stop i o/\R f o) \/
   ((Itl K a).go i o/\∃N:List Key->Hp->Prop,(∀f B,N f B->∃G,G<m/\W (i+1) G f B)/\∀x C,(Itl K a).yld i o x C->g x A C λt D=>t.drop n=A.drop n/\J t D λb u=>
    if b=true then I t u λy E=>∃k:Key,y=kV k/\f.length+1<4096/\N (xI f k) E else N f u):=by
 fail"a"
 rintro i m f o ⟨rfl,Q,p⟩;have q:=h1 i f o p;by_cases w:i<xs.length
 .refine .inr {{xs,xs[i],q,by simp[w]},Pv (i+1),λO B M=>{_,(),rfl,w,M},λx C y=>?_}
  obtain⟨e,y⟩:=y;subst e;exact L i x f _ (y xs q) p
 .have e:i=xs.length:=()
  subst e;exact .inl {{xs,q,zx _},hd f o p}
section
variable{X:Cx}
end
section
variable{X:Cx}{e:Pos}
end
end L2
namespace L2
open PySem PySem.Spec PyProof.Rows PySem.W
section
variable{X:Cx}
variable{e:Expr}
end
end L2
namespace L2
open PySem PySem.Spec PyProof.Rows
section
variable{D:Program}{w:World}{K:Type}[DecidableEq K](f:KeyKind D w K)
def IsPK(h:Heap)(k:List K×List K)(a:Addr):Prop:=∃o n B C,h.get? a=some o/\o.cls=.type "tuple" /\ o.data=.seq #[.ref B,.ref C] n/\IsTupleKey f h k.1 B/\IsTupleKey f h k.2 C
def za0(k:List K×List K):Int:=reduceHash (Builtin.Tuple.tupleHashOf [tupleKeyHash f k.1,tupleKeyHash f k.2])
variable{f}
theorem IsPK.ty{s:Shared}{k:List K×List K}{a:Addr}(x:IsPK f s.heap k a):s.TypeIs (.ref a) "tuple" :=let ⟨o,_,_,_,p,q,_⟩:=x;⟨o,p,q⟩
theorem IsPK.inj{h:Heap}{a:Addr}{x y:List K×List K}(p:IsPK f h x a)(q:IsPK f h y a):x=y:=by
 obtain⟨o,n,B,C,e,_,d,b,c⟩:=p;obtain⟨M,L,I,J,u,_,t,G,H⟩:=q;rw[e] at u;cases u;rw[d] at t;cases t;exact ZJ (b.inj G) (c.inj H)
theorem IsPK.keeps{h H:Heap}{k:List K×List K}{a d:Addr}{o:Obj}{J I}(x:IsPK f h k a)(u:h.get? d=some o)(hd:o.data=.dict J I)(G:Heap.SameBut d h H):IsPK f H k a:=by
 obtain⟨p,n,B,C,e,t,q,b,c⟩:=x;refine{p,n,B,C,(G.2 a λz=>?_).trans e,t,q,b.keeps u hd G,c.keeps u hd G}
 subst z;rw[e] at u;cases u;rw[hd] at q;exact nomatch q
variable{A:Around}{E:Value->Shared->Prop}{s:Shared}
theorem zak{M:Model}{i:Int}{Q:Int->Shared->Prop}(h:Q (reduceHash i) s):wpAny M A (pyHashByItsType.reduced i) Q E s:=by
 unfold pyHashByItsType.reduced;unfold reduceHash at h;split at h
 .rename_i z
  rw[zt z];exact zg h
 .rename_i z
  rw[zq z];exact zc (j9 (zg h))
theorem zg7{k:List K×List K}{a:Addr}{Q:Int->Shared->Prop}(hu:A.units+1<cLine)(hk:IsPK f s.heap k a)(h:Q (za0 f k) { s with toks:=s.toks+(k.1.length+1+(k.2.length+1)+1) }) :
  wpAny (model D w) A (pyHash (.ref a)) Q E s:=by
 have ty:=hk.ty;obtain⟨o,n,B,C,e,t,q,b,c⟩:=hk;have h0:A.units<cLine:=ZU hu;unfold pyHash;first| unfold pyHashByItsType | skip
 first| refine zc (wpAny_cRoomFor_or (.inr h0) ?r) | skip
 refine zc (yH ty yR.lookup ?a1)
 refine(?a2:wpAny _ _ (if(some (Value.builtin "tuple.__hash__")==some Value.none)=true then _ else _) Q E s)
 rw[zq (by rw[beq_builtin_none];decide)]
 refine zc (yH ty yR.lookup (zc (wpAny_callSpecialIfBoundUnlessNone?_slot ty yR (jG yR ty F.entry_tuple_hash ?a3 (F.args_tuple_hash_1 _)))))
 refine(?a4:wpAny _ _ (Builtin.Tuple.tupleItemsOf (.ref a) >>= _) _ _ s)
 refine zc (yU e q (zc ?a5))
 rw[<- ZZ];simp only[wj,wO];refine zc (zc (wpAny_pyHash_tuple hu b (zg ?b1)))
 refine zc (zc (wpAny_pyHash_tuple hu (s:={ s with toks:=_ }) c (zg (zg ?b2))))
 refine wpAny_ret_mkInt (zak ?b3)
 simpa [za0,Nat.add_assoc] using h
theorem zaZ{x y:List K×List K}{a b:Addr}{P:PySem.Fin->Shared->Prop}(hu:A.units<cLine)(hx:IsPK f s.heap x a)(hy:IsPK f s.heap y b)(h:P (.done (.ret (.bool (decide (x=y))))) s) :
  wpAny (model D w) A (Builtin.«tuple.__eq__» {[.ref a,.ref b],[]}) P E s:=by
 have ty:=hy.ty;obtain⟨o,n,B,C,e,_,d,L,M⟩:=hx;obtain⟨o',n',Y,C',I,_,H,u,G⟩:=hy;refine(?a0:wpAny _ _ (isInstance (.ref b) (.type "tuple") >>= _) _ _ s)
 refine zc (xC ty isSubtype_tuple_tuple ?a1)
 simp only[ZN,x5,if_false];refine zc (yU e d (zc (yU I H (zc ?a2))))
 simp only[W5,List.zip_nil_left,wj,wO];have J:decide (x=y)=(decide (x.1=y.1)&&decide (x.2=y.2)):=by
  obtain⟨N,O⟩:=x;obtain⟨Q,U⟩:=y;by_cases z:N=Q<;>by_cases t:O=U<;>simp[z,t]
 rw[J] at h;refine zc (zc (ZX hu L u ?a3))
 by_cases z:x.1=y.1
 .rw[zY z] at h ⊢
  refine zg (zc (zc (ZX hu M G ?a4)))
  by_cases t:x.2=y.2
  .rw[zY t] at h ⊢
   exact zg (zg (zg h))
  .rw[jA t] at h ⊢
   exact zc (zg (zg (zg (zg h))))
 .rw[jA z] at h ⊢
  exact zc (zg (zg (zg (zg h))))
theorem zkB{x y:List K×List K}{a b:Addr}{Q:Bool->Shared->Prop}(hu:A.units+1<cLine)(hx:IsPK f s.heap x a)(hy:IsPK f s.heap y b)(h:Q (decide (x=y)) s) :
  wpAny (model D w) A (eqBool (.ref a) (.ref b)) Q E s:=by
 unfold eqBool;try with_reducible refine jy ?h0
 refine(?h1:wpAny _ _ (if(Value.ref a==Value.ref b)=true then _ else _) Q E s)
 by_cases z:(Value.ref a==Value.ref b)=true
 .rw[zt z]
  have e:a=b:=by have:=eq_of_beq z;injection this
  subst e;cases hx.inj hy;refine zc (j9 (zg ?h2))
  rw[zY rfl] at h;exact h
 .rw[zq z]
  refine zc (wpAny_richCompare_same_room (op:=.Eq) hx.ty hy.ty ZO (jG ZO hx.ty F.entry_tuple_eq ?h3 (F.args_tuple_eq_2 _ _)) (ZU hu))
  exact zaZ hu hx hy {_,rfl,(λe=>nomatch e),yc h}
theorem yo{H:List K}{a:Addr}{n:Nat}{Q:Bool->Shared->Prop}(hk:IsTupleKey f s.heap H a)(h:Q true s):wpAny (model D w) A (eqIsQuiet (n+1) (.ref a)) Q E s:=by
 have ty:=hk.typeIs;obtain⟨o,t,m,e,_,d,C⟩:=hk;unfold eqIsQuiet;refine zc (yH ty ZO.lookup (?q0:wpAny _ _ (isInstance (.ref a) (.type "tuple") >>= _) _ _ s))
 refine zc (xC ty isSubtype_tuple_tuple ?q1)
 simp only[ZN,x5,if_false];refine zc (xc e d (zc (?q2:wpAny _ _ (forIn t _ _) _ _ s)))
 rw[<- ZZ];refine wpAny_forIn_list _ (λrest r B=>r.1=none/\B=s/\∀v∈rest,carriedByValue v=true) _ ?q3 ?q4 _ _ ⟨rfl,rfl,C.byValue⟩
 .rintro v rest r B ⟨_,rfl,all⟩
  rw[eqIsQuiet_byValue _ (all v (xp ..))];exact zc (zg (zg {rfl,rfl,λu hu=>all u (jf _ hu)}))
 .rintro⟨I,J⟩ B ⟨G,rfl,_⟩
  cases(show I=none from G)
  exact zg h
theorem zfi{k:List K×List K}{a:Addr}{Q:Bool->Shared->Prop}(hk:IsPK f s.heap k a)(h:Q true s):wpAny (model D w) A (eqIsQuiet 8 (.ref a)) Q E s:=by
 have ty:=hk.ty;obtain⟨o,n,B,C,e,_,d,b,c⟩:=hk;unfold eqIsQuiet;refine zc (yH ty ZO.lookup (?q0:wpAny _ _ (isInstance (.ref a) (.type "tuple") >>= _) _ _ s))
 refine zc (xC ty isSubtype_tuple_tuple ?q1)
 simp only[ZN,x5,if_false];refine zc (xc e d (zc (?q2:wpAny _ _ (forIn (#[Value.ref B,Value.ref C]) _ _) _ _ s)))
 rw[<- ZZ];simp only[wj,wO];exact zc (zc (yo b (zg (zc (zc (yo c (zg (zg (zg h)))))))))
end
def xA{e:Program}{w:World}{K:Type}[DecidableEq K](f:KeyKind e w K):HeapKind e w (List K×List K) where
 is:=IsPK f
 hash:=za0 f
 draws:=λk=>k.1.length+1+(k.2.length+1)+1
 room:=λA=>A.units+1<cLine
 inj:=λp q=>p.inj q
 keeps:=λx a b c=>x.keeps a b c
 pyHash:=λa b c=>zg7 a b c
 eqBool:=λa b c d=>zkB a b c d
 quiet:=λa b=>zfi a b
end L2
namespace PySem
section
variable{B:Program}{w:World}{A:Around}{E:Value->Shared->Prop}{s:Shared}{d f:Addr}{t:Array DictEntry}{u i:Nat}
theorem J9(d:Addr)(hd:(d==sysModules)=false):MeetsIn B w (Builtin.«dict.items» {[.ref d],[]}) (λ_ R s=>(∃t u,RawD s.heap d t u) /\
   R (.ok (.ret 0#m)) { s with heap:=s.heap.push { cls:=.type "dict_items",data:=.fields #[.ref d] } }):=
 .of_wp λA R s ⟨⟨t,u,o,e,hc,_⟩,h⟩=>by
  unfold Builtin.«dict.items» Builtin.Dict.noArgs;refine zc (zc (wpAny_notOrdered_dict (s:=s) ⟨o,e,hc.1⟩ ?a));refine(zg ?b:wpAny _ _ (pure d) _ _ s)
  refine(?c:wpAny _ _ (Builtin.Dict.showsAll d >>= _) _ _ s);unfold Builtin.Dict.showsAll
  rw[zq (by rw[hd];exact jr)];exact zc (zg (zc (jv (zg {_,rfl,h}))))
theorem zaT{v:Addr}{Q:Value->Shared->Prop}(G:s.heap.IsItemsView v d)(hm:RawD s.heap d t u)
  (I:Q 0#m { s with heap:=s.heap.push { cls:=.type "dict_itemiterator",data:=.fields #[.none,.bool false,.ref d,.int 0 0,.int t.size 0,.int u 0,.none,.none] } }):wpAny (model B w) A (pyIter (.ref v)) Q E s:=by
 obtain⟨L,D,J,C⟩:=id G;obtain⟨o,H,hc,e⟩:=hm;refine wpAny_pyIter_slot G.typeIs F.slot_dict_items_iter (jG F.slot_dict_items_iter G.typeIs F.entry_dict_items_iter ?go (F.args_dict_items_iter_1 _))
 unfold Builtin.«dict_items.__iter__» Builtin.Dict_items.dictOf Builtin.Dict_items.newIterator;refine zc (zg (zc (zc (jJ D C (x:=.ref d) rfl (zg (zc (zc (ZW H e (zc (QK H e ?b))))))))))
 simp only[show Builtin.Dict_items.ownsTuple "dict_itemiterator" = true by decide,if_true]
 refine jv (zg {_,rfl, "dict_itemiterator",_,{_,qo _ rfl,rfl},XT.lookup,?c}) (by simp only[sizeOk,Builtin.Dict_items.ownedTupleFields,zW,qu,qH,yQ,sizeLine_eq];omega)
 simpa [rawInt,Builtin.Dict_items.ownedTupleFields] using I
theorem zaU{e:DictEntry}{ok M:Value}{Q:Option Value->Shared->Prop}(C:IsItemIter s.heap f d i t.size u ok M)(hm:RawD s.heap d t u)(hx:t[i]? =some e)
  (hQ:∀G,IsItemIterOut G f d (i+1) t.size u e.key e.val s.heap.objs.size->G.get? s.heap.objs.size=some { cls:=.type "tuple",data:=.seq #[e.key,e.val] }->G.objs.size=s.heap.objs.size+1 ->
   (∀b o,b≠f->s.heap.get? b=some o->G.get? b=some o)->Q (some 0#m) { s with heap:=G }):wpAny (model B w) A (pyNext (.ref f)) Q E s:=by
 obtain⟨hp,g,D,N,os⟩:=s;obtain⟨od,J,ac,I⟩:=hm;obtain⟨lt,ee⟩:∃h:i<t.size,t[i]=e:=XR.mp hx;have ty:Shared.TypeIs ⟨hp,g,D,N,os⟩ (.ref f) "dict_itemiterator" :={_,C,rfl};unfold pyNext;refine zc (wN (vn (name:=Str.ofString "__next__") ty XT (jG XT ty zgz ?a (zgB _))))
 refine zc (zg (zc (zc ?a2)))
 first| refine zc (wpAny_typeNameOfWhole_itemiter ty (zg ?a3)) | refine zc (wpAny_typeNameOf_itemiter ty (zg ?a3))
 refine zc (wpAny_fieldsOf C rfl ?a4)
 simp only[show Builtin.Dict_items.ownsTuple "dict_itemiterator" = true by decide,if_true]
 refine(?a5:wpAny _ _ (if(Value.ref d==Value.none)=true then _ else _) _ _ _)
 rw[zq (show ¬((Value.ref d==Value.none)=true) from jr)];refine zc (zg (zc (ZW J I ?a6)))
 rw[zq 1e3];refine zc (zg (zc (QK J I ?a7)))
 rw[zq 1e3];refine zg ?a8
 simp only[show ¬((i:Int)<0) from (),if_false,jC,jY lt];refine zc ?a9
 first| refine zc (wpAny_typeNameOfWhole_itemiter ty (zg ?b1)) | refine zc (wpAny_typeNameOf_itemiter ty (zg ?b1))
 refine zc (wpAny_isOneOf_itemiter ty (?b2:wpAny _ _ (setField (.ref f) 3 (rawInt ((i:Int)+1)) >>= _) _ _ ⟨hp,g,D,N,os⟩))
 refine zc (yd C 1e3 λh1 (aa) (L:Heap.SameBut f hp h1)=>?b3)
 have e1:IsItemIter h1 f d (i+1) t.size u ok M:=by
  unfold IsItemIter;rw[show((i+1:Nat):Int)=(i:Int)+1 by omega];simpa [rawInt] using aa
 have O:Shared.TypeIs ⟨h1,g,D,N,os⟩ (.ref f) "dict_itemiterator" :={_,e1,rfl};refine zc (jy (zc (wpAny_isOneOf_itemiter O (zc (wpAny_isOneOf_itemiter O (?b4:wpAny _ _ (Builtin.Dict_items.pairFromOwner (.ref f) 6 t[i].key t[i].val) _ _ ⟨h1,g,D,N,os⟩))))))
 rw[ee];unfold Builtin.Dict_items.pairFromOwner;have z1:h1.objs.size=hp.objs.size:=L.1;have il:f<hp.objs.size:=zK C;refine zc (wpAny_newTuple (?b5:wpAny _ _ (Builtin.Dict_items.ownedTupleIsFree (.ref f) >>= _) _ _ {h1.push { cls:=.type "tuple",data:=.seq #[e.key,e.val] },g,D,N,os}))
 have e2:IsItemIter (h1.push { cls:=.type "tuple",data:=.seq #[e.key,e.val] }) f d (i+1) t.size u ok M:=zH _ e1;have t2:(h1.push { cls:=.type "tuple",data:=.seq #[e.key,e.val] }).get? hp.objs.size=some { cls:=.type "tuple",data:=.seq #[e.key,e.val] }:=by rw[<- z1];exact qo _ rfl
 have z2:(h1.push { cls:=.type "tuple",data:=.seq #[e.key,e.val] }).objs.size=hp.objs.size+1:=by rw[jq,z1]
 have k2:∀b o,b≠f->hp.get? b=some o->(h1.push { cls:=.type "tuple",data:=.seq #[e.key,e.val] }).get? b=some o:=λb o hb q=>zH _ (L.extBut b o hb q)
 rw[z1];generalize h1.push { cls:=.type "tuple",data:=.seq #[e.key,e.val] }=h2 at e2 t2 z2 k2;unfold Builtin.Dict_items.ownedTupleIsFree;refine zc (zc (jJ e2 rfl (x:=.none) rfl (zg ?b6)))
 simp only[if_true];refine zc (jJ e2 rfl (x:=ok) rfl (zc (jJ e2 rfl (x:=M) rfl ?b7)))
 refine zc (yd e2 1e3 λh3 (e3:IsItemIter h3 f d (i+1) t.size u e.key M) (s3:Heap.SameBut f h2 h3)=>?b8)
 refine zc (yd e3 1e3 λU (e4:IsItemIter U f d (i+1) t.size u e.key e.val) (s4:Heap.SameBut f h3 U)=>?b9)
 refine zc (yd e4 1e3 λY (e5:IsItemIterOut Y f d (i+1) t.size u e.key e.val hp.objs.size) (s5:Heap.SameBut f U Y)=>?c1)
 refine zc (yd e5 1e3 λH (e6:IsItemIterOut H f d (i+1) t.size u e.key e.val hp.objs.size) (s6:Heap.SameBut f Y H)=>?c2)
 have up:∀b o,b≠f->h2.get? b=some o->H.get? b=some o:=λb o hb q=>s6.extBut b o hb (s5.extBut b o hb (s4.extBut b o hb (s3.extBut b o hb q)))
 exact zc (w8 (zg (zg {_,rfl,zg (hQ H e6 (up _ _ (jW il) t2) (by show H.objs.size=_;rw[s6.1,s5.1,s4.1,s3.1,z2]) λb o hb q=>up b o hb (k2 b o hb q))})))
theorem zdN{ok L:Value}{Q:Option Value->Shared->Prop}(J:A.handled=none)(e:IsItemIter s.heap f d i t.size u ok L)(hm:RawD s.heap d t u)(hx:t.size<=i)
  (H:∀D,Heap.ExtBut f s.heap D->Q none { s with heap:=D }):wpAny (model B w) A (pyNext (.ref f)) Q E s:=by
 obtain⟨M,C,I,o⟩:=hm;have ty:s.TypeIs (.ref f) "dict_itemiterator" :={_,e,rfl};unfold pyNext;refine zc (wN (vn (name:=Str.ofString "__next__") ty XT (jG XT ty zgz ?a (zgB _))))
 refine zc (zg (zc (zc ?a2)))
 first| refine zc (wpAny_typeNameOfWhole_itemiter ty (zg ?a3)) | refine zc (wpAny_typeNameOf_itemiter ty (zg ?a3))
 refine zc (wpAny_fieldsOf e rfl ?a4)
 simp only[show Builtin.Dict_items.ownsTuple "dict_itemiterator" = true by decide,if_true]
 refine(?a5:wpAny _ _ (if(Value.ref d==Value.none)=true then _ else _) _ _ _)
 rw[zq (show ¬((Value.ref d==Value.none)=true) from jr)];refine zc (zg (zc (ZW C o ?a6)))
 rw[zq 1e3];refine zc (zg (zc (QK C o ?a7)))
 rw[zq 1e3];refine zg ?a8
 simp only[show ¬((i:Int)<0) from (),if_false,jC,QU hx];refine zc ?a9
 first| refine zc (wpAny_typeNameOfWhole_itemiter ty (zg ?b1)) | refine zc (wpAny_typeNameOf_itemiter ty (zg ?b1))
 refine(?b3:wpAny _ _ (setField (.ref f) 2 .none >>= _) _ _ s);refine zc (vV e rfl 1e3 ?b4)
 refine(?b5:wpAny _ _ (newExc (.type "StopIteration") [] >>= _) _ _ _);refine zc ?b6
 simp only[newExc,newTuple];refine zc (jv ?b7 (by size_fits))
 refine zc (m:=firstArgMember _ _) (vS (a:=Value.none) (by first| rfl | (simp only[firstArgMember];rfl)) (jv ?b8 (by size_fits)))
 simp only[raiseNew];refine zc (QI ?b9)
 rw[show A.in1.handled=none from J];refine zc (zg (yK ?c1))
 exact zc (xC (T:= "StopIteration") (b:=true) {_,qo _ rfl,rfl} isSubtype_stop (zg (H _ (((yI ..).extBut.push _).push _))))
end
end PySem
namespace L2
open PySem PySem.Spec PyProof.Rows PySem.W
abbrev PKy:=List Key×List Key
abbrev PEs:=List (PKy×Addr×Addr)
def ym(e:PEs):List (PKy×Addr×Value):=e.map λx=>(x.1,x.2.1,.ref x.2.2)
def lkP(e:PEs)(k:PKy):Option (Addr×Addr):=(e.find? λx=>decide (x.1=k)).map (·.2)
def stP(e:PEs)(k:PKy)(a v:Addr):PEs:=if(lkP e k).isSome=true then e.map (λx=>if x.1=k then(x.1,x.2.1,v) else x) else e++[(k,a,v)]
theorem zaS(k:PKy):∀f:PEs,atKey (ym f) k=(lkP f k).map λp=>(p.1,Value.ref p.2)
 | []=>rfl
 | x::f=>by
  have o:=zaS k f;unfold atKey lkP ym at *
  by_cases e:x.1=k
  .simp[wu,e]
  .simp only[jR,wu,e,decide_false]
   exact o
theorem ze8(f:PEs)(k:PKy)(a v:Addr):ym (stP f k a v)=storedH (ym f) k a (.ref v):=by
 unfold stP storedH;rw[zaS,W3];by_cases e:(lkP f k).isSome=true
 .rw[zt e,zt e]
  unfold ym;rw[qK,qK];refine QR λx _=>?_
  by_cases z:x.1=k
  .simp[putAt,z]
  .simp[putAt,z]
 .rw[zq e,zq e]
  unfold ym;rw[zG];rfl
theorem YT(e:PEs):(ym e).map (·.1)=e.map (·.1):=by unfold ym;rw[qK];rfl
theorem zgY(e:PEs)(k:PKy)(a v:Addr):(stP e k a v).length<=e.length+1:=by
 unfold stP;split
 .rw[zm];exact xH _
 .rw[qu];exact zx _
def DpO(P:Program)(w:World)(a:Addr)(o:Obj)(e:PEs):Prop:=(a==sysModules)=false/\e.length<=sizeLine/\o.ExactDict/\(e.map (·.1)).Nodup/\∃f t,o.data=.dict f t/\f.toList=(ym e).map (entryOfKey (xA (zw P w)))
def dP(P:Program)(w:World)(a:Addr)(o:Obj)(e:PEs):HO:=.ext λh=>h.get? a=some o/\DpO P w a o e
theorem ziL{P:Program}{w:World}{H:Hp}{h:Heap}{a:Addr}{o:Obj}{f:PEs}(e:h.get? a=some o)(d:DpO P w a o f):ObjOk P w H h a (dP P w a o f):=
 {⟨e,d⟩,⟨o,e⟩,λh1 h2 x k=>{k o x.1,x.2}}
def KyAt(K:W.Frag)(H:Hp)(k:PKy)(a:Addr):Prop:=∃B C,SqT K H a [.ref B,.ref C]/\SqT K H B (k.1.map kV)/\SqT K H C (k.2.map kV)
def zaF(K:W.Frag)(H:Hp)(e:PEs):Prop:=∀x∈e,KyAt K H x.1 x.2.1
section
variable{X:Cx}{A:List (Addr×Obj)}{σ:St}{H:Hp}{s:Shared}
theorem YA{a:Addr}{f:List Key}(I:Inv X A σ H s)(h:SqT X.K H a (f.map kV)):IsTupleKey 0#x s.heap f a:=by
 obtain⟨e,r,⟨o,h1,h2,n,h3⟩,_⟩:=I.tuple h;exact{o,e.toArray,n,h1,h2,h3,by simpa using wJ r}
theorem zah{a:Addr}{k:PKy}(I:Inv X A σ H s)(h:KyAt X.K H k a):IsPK 0#x s.heap k a:=by
 obtain⟨B,C,h0,h1,h2⟩:=h;obtain⟨f,r,⟨o,e,t,n,d⟩,_⟩:=I.tuple h0;cases r with
 | @cons _ u _ _ w r=>
  cases r with
  | @cons _ E _ _ D r=>
   cases r;cases(show u=Value.ref B from w)
   cases(show E=Value.ref C from D)
   exact{o,n,B,C,e,t,d,YA I h1,YA I h2}
theorem Q8{a:Addr}{o:Obj}{f:PEs}(I:Inv X A σ H s)(e:H a=some (dP X.prog X.w a o f)):s.heap.get? a=some o/\DpO X.prog X.w a o f:=(show ObjOk X.prog X.w H s.heap a (dP X.prog X.w a o f) from I.hok a _ e).1
theorem zc7{a:Addr}{o:Obj}{f:PEs}(I:Inv X A σ H s)(e:H a=some (dP X.prog X.w a o f))(B:zaF X.K H f):s.heap.DictOfH (xA 0#x) a (ym f):=by
 obtain⟨e1,_,_,w,C,u,t,h1,h2⟩:=Q8 I e;refine{o,u,t,e1,w,h1,h2,λx hx=>?_,by rw[YT];exact C}
 obtain⟨y,hy,rfl⟩:=zA.mp hx;exact zah I (B y hy)
theorem zbm{a b v:Addr}{o:Obj}{f:PEs}{k:PKy}{u:Heap}{t':Nat}(I:Inv X A σ H s)(e:H a=some (dP X.prog X.w a o f))(J:f.length<sizeLine)
  (w:u.DictOfH (xA 0#x) a (storedH (ym f) k b (.ref v))) (G:Heap.SameBut a s.heap u):∃t,Inv X A σ (upd H a (dP X.prog X.w a t (stP f k b v))) { s with heap:=u,toks:=t' }:=by
 obtain⟨_,lo,_⟩:=Q8 I e;obtain⟨t,C,B,h1,h2,h3,D,_,E⟩:=w;refine{t,wf I (by rw[e];exact True.intro) G ⟨t,h1⟩ (ziL h1 {lo,?_,h2,?_,C,B,h3,?_})}
 .have:=zgY f k b v;omega
 .rw[<- YT,ze8];exact E
 .rw[ze8];exact D
def ziV(P:Program)(w:World):TE:=λ_ H Q=>∀p o,H p=none->Q (.ref p) (upd H p (dP P w p o []))
theorem zbn{H:Hp}{P:Program}{w:World}(h:Heap)(hb:sysModules<h.objs.size):ObjOk P w H (h.push { cls:=.type "dict",data:=.dict #[] }) h.objs.size (dP P w h.objs.size { cls:=.type "dict",data:=.dict #[] } []):=
 ziL (qo _ rfl) {beq_eq_false_iff_ne.mpr (zS (zN hb)),qJ _,⟨rfl,rfl,rfl⟩,vU,#[],0,rfl,rfl}
theorem zfp{e:Pos}:PE X (.Dict [] [] e) (ziV X.prog X.w):=by
 intro A s σ H Q I q;have f:=I.hok.fresh (zx s.heap.objs.size);exact wpAny_Dict_empty {.ref s.heap.objs.size,_,I.laid (t':=s.toks) (λ_ _ q=>zH _ q) (zx _) (zbn s.heap I.big),rfl,q _ _ f}
inductive zfc(P:Program)(w:World)(K:W.Frag)(x i v:V)(H:Hp)(Q:Hp->Prop):Prop
 | mk (a b c:Addr) (o:Obj) (e:PEs) (k:PKy) (_:x=.ref a) (_:i=.ref b) (_:v=.ref c) (_:H a=some (dP P w a o e)) (_:zaF K H e) (_:KyAt K H k b) (_:e.length<sizeLine) (_:∀f,Q (upd H a (dP P w a f (stP e k b c)))):zfc P w K x i v H Q
theorem zi1(hu:X.A.units+2<cLine):zh3 X (zfc X.prog X.w X.K):=by
 intro A s σ H x i v ov Y u Q I M L N h;obtain⟨a,b,c,o,O,k,rfl,rfl,rfl,e,G,E,f,q⟩:=h;cases M;cases L;cases N;have D:(ym O).length<=sizeLine:=by unfold ym;rw[zm];exact yN f
 refine wpAny_setItem_heap (hsz:=D) (show(xA 0#x).room X.A.in1 from hu) (zah I E) (zc7 I e G) λU w B=>?_
 obtain⟨J,t⟩:=zbm (t':=_) I e f w B;exact{_,t,q J}
def zkq(P:Program)(w:World)(K:W.Frag)(u ty B:TE):TS:=λD σ H=>B σ H λv e=>u σ e λx f=>ty σ f λi o=>zfc P w K x i v o λt=>D.nx σ t
theorem zfg{o i e:Expr}{w ty B:TE}{t f:Pos}(hu:X.A.units+2<cLine)(U:PE X o w)(Q:PE X i ty)(hv:PE X e B)(Y:swapsWith e (some (.Subscript o i f)) t.line X.env=pure false) :
  PS X (.Assign [.Subscript o i f] e t) (zkq X.prog X.w X.K w ty B):=by
 intro A s σ H D I h;refine wpAny_Assign_Subscript (thn (hv A s σ H _ I h) λr s1 ⟨v,C,L,rv,q1⟩=>thn (U A s1 σ C _ L q1) λu s2 ⟨x,E,M,rx,q2⟩=>thn (Q A s2 σ E _ M q2) λiv s3 ⟨y,G,N,ry,q3⟩=>?_) Y
 exact thn (zi1 hu A s3 σ G x y v u iv r _ N rx ry rv q3) λ_ s4 ⟨J,O,q4⟩=>⟨σ,J,O,q4⟩
inductive ziA(P:Program)(w:World)(K:W.Frag)(a:Addr)(i z:V)(H:Hp)(Q:VK):Prop
 | mk (b:Addr) (o:Obj) (e:PEs) (k:PKy) (_:i=.ref b) (_:H a=some (dP P w a o e)) (_:zaF K H e) (_:KyAt K H k b) (_:Q (((lkP e k).map λp=>V.ref p.2).getD z) H):ziA P w K a i z H Q
inductive zkx(P:Program)(w:World)(x:V)(H:Hp)(Q:Addr->Hp->Prop):Prop
 | mk (a:Addr) (o:Obj) (e:PEs) (_:x=.ref a) (_:H a=some (dP P w a o e)) (_:Q a H):zkx P w x H Q
def zkb(P:Program)(w:World)(K:W.Frag)(t ty u:TE):TE:=λσ H Q=>t σ H λx e=>zkx P w x e λa e=>ty σ e λy f=>u σ f λz o=>ziA P w K a y z o Q
theorem zfs{o e f:Expr}{t w:Pos}{M ty N:TE}(hu:X.A.units+2<cLine)(ho:PE X o M)(he:PE X e ty)(hf:PE X f N)(m:M2 X o "get" t e f w):PE X (.Call (.Attribute o "get" t) [e,f] [] w) (zkb X.prog X.w X.K M ty N):=by
 intro A s σ H Q I h;refine wpAny_Call_method m.base m.few m.line QV Z1 zbQ (thn (ho A s σ H _ I h) λu s1 ⟨x,O,C,rx,q1⟩=>?_)
 obtain⟨a,L,aa,rfl,e1,q1⟩:=q1;cases rx;obtain⟨J,D⟩:=Q8 C e1;refine{⟨L,J,D.2.2.1.1⟩,λb q=>?_,?_}
 .cases q;exact⟨L,J,D.2.2.1.2.1⟩
 rw[m.trees];refine Z2 rfl (QT (ye (thn (he A s1 σ O _ C q1) λiv s2 ⟨y,U,I2,ry,q2⟩=>ye (thn (hf A s2 σ U _ I2 q2) λfv s3 ⟨z,Y,B,rz,q3⟩=>yT ?_))))
 obtain⟨b,o3,xs,k,rfl,G,ks,kb,q⟩:=q3;cases ry;have E:=zc7 B G ks;refine call_meetsIn Z1 E.typeIs Ye (Yi _ _ _) (meetsH_dict_get_default (xA 0#x) a b (Q8 B G).2.1 fv) {hu,k,_,zah B kb,E,_,Y,B.tok _,?_,q}
 rw[zaS,Option.map_map];cases lkP xs k with
 | none=>exact rz
 | some p=>exact rfl
end
end L2
namespace L2
open PySem PySem.Spec PyProof.Rows PySem.W
section
variable{X:Cx}
inductive zcF(P:Program)(w:World)(x:V)(H:Hp)(Q:VK):Prop
 | mk (d:Addr) (o:Obj) (e:PEs) (_:x=.ref d) (_:H d=some (dP P w d o e)) (_:∀p,H p=none->Q (.ref p) (upd H p (Q0 p d))):zcF P w x H Q
def zgR(P:Program)(w:World)(to:TE):TE:=λσ H Q=>to σ H λx e=>zcF P w x e Q
theorem Qz{o:Expr}{to:TE}{f t:Pos}(G:PE X o to)(w:attributeBase o "items" X.env (eval o X.env)=eval o X.env:=by rfl)(A:(f.endLine==t.line)=true:=by rfl) :
  PE X (.Call (.Attribute o "items" f) [] [] t) (zgR X.prog X.w to):=by
 intro B s σ H Q I h;refine wpAny_Call_method0_late w A (thn (G B s σ H _ I h) λv s1 ⟨x,L,C,U,q1⟩=>?_)
 obtain⟨d,J,xs,rfl,e,q⟩:=q1;cases U;obtain⟨E,lo,_,D,_,N,M,h3,_⟩:=Q8 C e;have ty:s1.TypeIs (.ref d) "dict" :=⟨J,E,D.1⟩;refine{"dict", "dict.items",QV,PySem.F.slot_dict_items,PySem.F.type_dict_items,ty,λb z=>?_,Z2 rfl (PySem.evalArgs_none ?_)}
 .cases z;exact⟨J,E,D.2.1⟩
 have O:L s1.heap.objs.size=none:=C.hok.fresh (zx _);refine call_meetsIn PySem.F.slot_dict_items ty PySem.F.entry_dict_items (PySem.F.args_dict_items_1 _) (J9 d lo) {⟨N,M,J,E,D,h3⟩,?_}
 exact{.ref s1.heap.objs.size,_,C.laid (a:=s1.heap.objs.size) (o:=Q0 s1.heap.objs.size d) (t':=s1.toks) (λb u e=>zH _ e) (zx _) {{_,qo _ rfl,rfl,rfl},{_,qo _ rfl},λh1 h2 x e=>let ⟨o,G,r⟩:=x;{o,e o G,r}},rfl,q _ O}
end
def ItP(P:Program)(w:World)(d:Addr)(o:Obj)(e:PEs):It:=
 {λi H=>H d=some (dP P w d o e)/\i<e.length,λi H x f=>∃T k a v,x=.ref T/\H T=none/\f=upd H T (.tup [.ref a,.ref v])/\e[i]? =some (k,a,v),λi H=>H d=some (dP P w d o e)/\e.length<=i}
theorem zaK{P:Program}{w:World}{K:W.Frag}{u:List Expr}{kk:Nat}{ab:Pos}(d f:Addr)(o:Obj)(G:PEs)(A:Array DictEntry)(ep:Nat)(J:o.data=.dict A ep)(hx:A.toList=(ym G).map (entryOfKey (xA (zw P w)))) :
  Qr P w K (.Tuple u kk ab) (ItP P w d o G) [f] f (λi h=>∃ok ov,IsItemIter h f d i A.size ep ok ov) where
 mem:=1e3
 obj:=λi h st b hb=>by
  have e:b=f:=by simpa using hb
  subst e;obtain⟨_,_,st⟩:=st;exact{_,st,λv z=>nomatch z}
 keep:=λi h U st k=>let ⟨a,b,st⟩:=st;{a,b,k f 1e3 _ st}
 item:=by
  intro X hP hw Y hc i D s σ H E I L st hg;subst hP hw Y;obtain⟨hd,hi⟩:=hg;obtain⟨ok,ov,st⟩:=st;obtain⟨Q,_,_,O,_,N,M,h1,_⟩:=Q8 I hd;rw[J] at h1;cases h1;obtain⟨⟨k,a,v⟩,hv⟩:∃p,G[i]? =some p:={G[i],by simp[hi]}
  have ei:A[i]? =some {(xA 0#x).hash k,.ref a,.ref v}:=by
   rw[<- vR,hx];unfold ym;rw[zT,zT,hv];rfl
  refine zaU st ⟨o,Q,O,J⟩ ei λU B hT ac t=>?_
  refine{_,rfl,wpAny_letOwnedTupleGo_items B λh2 aa C=>?_}
  have eT:s.heap.objs.size≠f:=jW (zK st);have k2:∀b o,b∉[f]->s.heap.get? b=some o->h2.get? b=some o:=λb o hb q=>by
   have n1:b≠f:=λz=>hb (by simp[z])
   exact(C.2 b n1).trans (t b o n1 q)
  refine{.ref s.heap.objs.size,upd H s.heap.objs.size (.tup [.ref a,.ref v]),?_,rfl,{_,k,a,v,rfl,I.hok.fresh (zx _),rfl,hv},{_,_,aa},λb hb=>?_}
  .exact JB (s:=s) (h':=h2) (t':=s.toks) (its:=[.ref a,.ref v]) I L (zx _) k2 (by rw[sizeLine_eq];exact(by decide:2<=16777216)) (.cons rfl (.cons rfl .nil)) (TupX.by ((C.2 _ eT).trans hT))
  .rw[zj (zN (by rw[zR.mp hb];exact zK st))]
   exact(L b hb).1
 done:=by
  intro X hP hw Y hc i D s σ H E I L st hg;subst hP hw Y;obtain⟨hd,hi⟩:=hg;obtain⟨ok,ov,st⟩:=st;obtain⟨Q,_,_,O,_,N,M,h1,_⟩:=Q8 I hd;rw[J] at h1;cases h1;have ln:A.size=G.length:=by rw[<- jt,hx];unfold ym;simp
  obtain⟨f0,f1,f2,f3,f4,f5⟩:=L f 1e3
  exact zdN 0#Q st ⟨o,Q,O,J⟩ () λU eb=>{rfl,I.turned (t':=s.toks) (λb o hb e=>eb b o hb e) f0 f1 f3 f4 f5}
 self:=λ_ _ _ _ _ st h=>let ⟨_,_,st⟩:=st;kcp_self st h
section
variable{X:Cx}
inductive zfa(P:Program)(w:World)(x:V)(H:Hp)(R:It->Hp->Prop):Prop
 | mk (p d:Addr) (o:Obj) (e:PEs) (_:x=.ref p) (_:H p=some (Q0 p d)) (_:H d=some (dP P w d o e)) (_:R (ItP P w d o e) H):zfa P w x H R
def zjJ(P:Program)(w:World)(f:TE):TI:=λσ H R=>f σ H λx e=>zfa P w x e R
theorem JX{l:Expr}{A:TE}{t:List Expr}{M:Nat}{O:Pos}(J:PE X l A):PI X (.Tuple t M O) l (zjJ X.prog X.w A):=by
 intro u s σ H R I h;refine thn (J u s σ H _ I h) λv s1 ⟨x,w,f,N,q1⟩=>?_
 obtain⟨p,d,o,Q,rfl,hp,hd,q⟩:=q1;cases N;obtain⟨L,_,_⟩:=(show ObjOk X.prog X.w w s1.heap p (Q0 p d) from f.hok p _ hp)
 obtain⟨E,_,_,D,_,C,B,h3,G⟩:=Q8 f hd;refine zaT L ⟨o,E,D,h3⟩ ?_
 refine{s1.heap.objs.size,[s1.heap.objs.size],_,_,w,rfl,f.kept (t':=s1.toks) (λb o e=>zH _ e),zaK d _ o Q C B h3 G,{.none,.none,qo _ rfl},λb hb=>?_,q}
 cases zR.mp hb;exact f.fpOk (zx _) (f.hok.fresh (zx _))
inductive zfe(P:Program)(w:World)(K:W.Frag)(p:Addr)(e:List (V×V))(H:Hp)(Q:VK):Prop
 | mk (b c:Addr) (o:Obj) (k:PKy) (_:e=[(.ref b,.ref c)]) (_:H p=some (dP P w p o [])) (_:KyAt K H k b) (_:∀f,Q (.ref p) (upd H p (dP P w p f [(k,b,c)]))):zfe P w K p e H Q
def ziU(P:Program)(w:World)(K:W.Frag)(t u:TE):TE:=λσ H Q=>∀p o,H p=none->Zy [(t,u)] σ (upd H p (dP P w p o [])) λf e=>zfe P w K p f e Q
theorem zfr{f:Pos}{k v:Expr}{D E:TE}(hu:X.A.units+2<cLine)(hk:PE X k D)(U:PE X v E):PE X (.Dict [some k] [v] f) (ziU X.prog X.w X.K D E):=by
 intro w s σ H Q I q;have M:=I.hok.fresh (zx s.heap.objs.size);have J:=I.laid (a:=s.heap.objs.size) (t':=s.toks) (λ_ _ q=>zH _ q) (zx _) (zbn s.heap I.big)
 refine wpAny_Dict_any rfl rfl 1e3 (show 1<=15 by decide) (thn (JV (pos:=f) hk U Wl w _ σ _ _ J (q _ _ M)) λws s2 ⟨ps,H2,A,C,q2⟩=>?_)
 obtain⟨b,c,o,kk,rfl,e,L,q3⟩:=q2;cases C with
 | @cons _ w0 _ _ h t=>
  cases t;obtain⟨u,r⟩:=w0;obtain⟨ru,rr⟩:=h;cases(show u=Value.ref b from ru)
  cases(show r=Value.ref c from rr)
  unfold storeAll;rw[wj];refine zc (zc (wpAny_dictSet_heap (hsz:=qJ _) (knd:=xA 0#x) (show X.A.units+1<cLine from ZU hu) (zah A L) (zc7 A e λ_ z=>nomatch z) λh' B N=>zg ?_))
  dsimp only;rw[wO];obtain⟨o',G⟩:=zbm (t':=_) A e (by rw[sizeLine_eq];exact(by decide:0<16777216)) B N
  exact zg {.ref s.heap.objs.size,_,G,rfl,q3 o'}
end
theorem zed{P:Program}{w:World}{d:Addr}{o:Obj}{xs:PEs}{g:TG}{C:TS}{D:XY}{σ:St}{H:Hp}(Pv:Nat->St->Hp->Prop)(h0:Pv 0 σ H)(I:∀i σ H,i<=xs.length->Pv i σ H->H d=some (dP P w d o xs))
  (J:∀i k a v σ H T,xs[i]? =some (k,a,v)->Pv i σ H->H T=none->g (.ref T) σ (upd H T (.tup [.ref a,.ref v])) λA t=>C { D with nx:=Pv (i+1),ct:=Pv (i+1),bk:=D.nx } A t) (hd:∀σ H,Pv xs.length σ H->D.nx σ H) :
  ∃W:Nat->Nat->St->Hp->Prop,(∃m,W 0 m σ H)/\∀i m σ H,W i m σ H ->
   ((ItP P w d o xs).stop i H/\D.nx σ H)\/((ItP P w d o xs).go i H/\∃N:St->Hp->Prop,(∀u e,N u e->∃B,B<m/\W (i+1) B u e)/\∀x e,(ItP P w d o xs).yld i H x e->g x σ e λA t=>C { D with nx:=N,ct:=N,bk:=D.nx } A t):=by
 refine{λi m σ H=>m=xs.length-i/\i<=xs.length/\Pv i σ H,{_,rfl,qJ _,h0},?_}
 rintro i m σ H ⟨rfl,G,p⟩;have q:=I i σ H G p;by_cases f:i<xs.length
 .refine .inr {⟨q,f⟩,Pv (i+1),λu e L=>{xs.length-(i+1),(),rfl,f,L},?_}
  rintro x e ⟨T,k,a,v,rfl,E,rfl,y⟩;exact J i k a v σ H T y p E
 .obtain rfl:i=xs.length:=()
  exact .inl {{q,zx _},hd σ H p}
theorem zfU{P:Program}{w:World}{d:Addr}{o:Obj}{xs:PEs}{n:Nat}{g:TG}{L:TT}{J:TE}{B:St}{R:List V->Hp->Prop}{H:Hp}(Pv:Nat->List V->Hp->Prop)(h0:Pv 0 [] H)
  (h1:∀i e H,Pv i e H->H d=some (dP P w d o xs))
  (O:∀i k a v e H T,xs[i]? =some (k,a,v)->Pv i e H->H T=none->g (.ref T) B (upd H T (.tup [.ref a,.ref v])) λt E=>t.drop n=B.drop n/\L t E λb u=>if b=true then J t u λv G=>e.length<sizeLine/\Pv (i+1) (e++[v]) G else Pv (i+1) e u)
  (hd:∀e H,Pv xs.length e H->e.length<=sizeLine/\R e H) :
  ∃W:Nat->Nat->List V->Hp->Prop,(∃m,W 0 m [] H)/\∀i m e f,W i m e f ->
   ((ItP P w d o xs).stop i f/\e.length<=sizeLine/\R e f) \/
   ((ItP P w d o xs).go i f/\∃M:List V->Hp->Prop,(∀e C,M e C->∃I,I<m/\W (i+1) I e C)/\∀x D,(ItP P w d o xs).yld i f x D->g x B D λt E=>t.drop n=B.drop n/\L t E λb u=>
    if b=true then J t u λy G=>e.length<sizeLine/\M (e++[y]) G else M e u):=by
 refine{λi m e f=>m=xs.length-i/\i<=xs.length/\Pv i e f,{_,rfl,qJ _,h0},?_}
 rintro i m e f ⟨rfl,hi,p⟩;by_cases A:i<xs.length
 .refine .inr {{h1 i e f p,A},Pv (i+1),λaa C Q=>{_,(),rfl,A,Q},?_}
  rintro x D ⟨T,k,a,v,rfl,N,rfl,y⟩;exact O i k a v e f T y p N
 .obtain rfl:i=xs.length:=()
  obtain⟨U,Y⟩:=hd e f p;exact .inl {{h1 _ e f p,zx _},U,Y}
end L2
namespace L2
open PySem PySem.Spec PyProof.Rows
abbrev zb3:=Addr->V->V->Hp->(Hp->Prop)->Prop
def zgE(P:Program)(w:World)(K:W.Frag)(A:Around)(t:zb3):Prop:=∀(X:Cx),X.prog=P->X.w=w->X.K=K->∀(e:List (Addr×Obj)) (s:Shared) (σ:St) (H:Hp) (D:Addr) (y v:V) (u r:Value) (Q:Hp->Prop),Inv X e σ H s->RelV y u->RelV v r->t D y v H Q ->
 wpAny (model P w) A (dictSet D u r) (λ_ o=>∃f,Inv X e σ f o/\Q f) 0#h s
def zgF(P:Program)(w:World)(mk:Addr->HO):Prop:=∀(H:Hp) (h:Heap),sysModules<h.objs.size->ObjOk P w H (h.push { cls:=.type "dict",data:=.dict #[] }) h.objs.size (mk h.objs.size)
inductive ziy(D:Addr)(y v:V)(H:Hp)(Q:Hp->Prop):Prop
 | mk (e:List (Key×V)) (k:Key) (_:H D=some (.dK e)) (_:y=kV k) (_:e.length<sizeLine) (_:Q (upd H D (.dK (xt e k v)))):ziy D y v H Q
theorem Ws{P:Program}{w:World}:zgF P w (λ_=>.dK []):=λH h hb=>Xo h hb
theorem Wh{P:Program}{w:World}{K:W.Frag}{A:Around}:zgE P w K A ziy:=by
 intro X L U J C s σ H D y v u r Q I ry Y h;subst L U J;obtain⟨o,k,e,rfl,hl,q⟩:=h;obtain⟨z,hd,vs,t,E⟩:=VS I.hok e;have B:(xt o k v).length<=sizeLine:=by have:=xh o k v;omega
 refine wpAny_dictSet_pairs (hsz:=by rw[<- t.length];exact z) (wI ry) E λG f N=>{_,?_,q}
 have M:∃q,G.get? D=some q:=let ⟨q,_,_,hq,_⟩:=f;⟨q,hq⟩
 exact wf I (by rw[e];exact True.intro) N M (QB B hd (t.put k Y) f)
inductive zix(P:Program)(w:World)(K:W.Frag)(D:Addr)(y v:V)(H:Hp)(Q:Hp->Prop):Prop
 | mk (b c:Addr) (o:Obj) (e:PEs) (k:PKy) (_:y=.ref b) (_:v=.ref c) (_:H D=some (dP P w D o e)) (_:zaF K H e) (_:KyAt K H k b) (_:e.length<sizeLine) (_:∀f,Q (upd H D (dP P w D f (stP e k b c)))):zix P w K D y v H Q
def zgd:Obj:={ cls:=.type "dict",data:=.dict #[] }
theorem zjA{P:Program}{w:World}:zgF P w (λa=>dP P w a zgd []):=λH h hb=>zbn h hb
theorem zja{P:Program}{w:World}{K:W.Frag}{A:Around}(hu:A.units+1<cLine):zgE P w K A (zix P w K):=by
 intro X G M E t s σ H D y v u r Q I ry rv h;subst G M E;obtain⟨b,c,o,xs,k,rfl,rfl,e,Y,O,f,q⟩:=h;cases ry;cases rv;have N:(ym xs).length<=sizeLine:=by unfold ym;rw[zm];exact yN f
 refine wpAny_dictSet_heap (hsz:=N) (knd:=xA 0#x) hu (zah I O) (zc7 I e Y) λh' C J=>?_
 obtain⟨o',B⟩:=zbm (t':=_) I e f C J;exact{_,B,q o'}
def tDC(mk:Addr->HO)(t:zb3)(U:TI)(n:Nat)(B:List Nat)(g:TG)(L:TT)(M O:TE):TE:=λσ H Q=>U σ H λJ u=>∀D,u D=none ->
 ∃W:Nat->Nat->Hp->Prop,(∃m,W 0 m (upd u D (mk D)))/\∀i m e,W i m e ->
  (J.stop i e/\Q (.ref D) e) \/
  (J.go i e/\∃N:Hp->Prop,(∀o,N o->∃C,C<m/\W (i+1) C o)/\∀x w,J.yld i e x w->g x (upS n B σ) w λf E=>f.drop n=(upS n B σ).drop n/\L f E λb A=>
   if b=true then M f A λy G=>O f G λv I=>t D y v I N else N A)
section
variable{X:Cx}{B G C e:Expr}{f:List Expr}{scope:Scope}{o:Pos}{M:TI}{g:TG}{H:TT}{I L:TE}{mk:Addr->HO}{t:zb3}
theorem zlq{N:Program}{w:World}{A:Around}{R:Result->Shared->Prop}{s:Shared}{it:Value}{D:Addr}{O:Env}(J:Nat->Shared->Prop)
  (Y:∀n s,J n s->wpAny (model N w) A (pyNext it) (λr s1=>match r with
   | none=>R (.ok .next) s1
   | some v=>wpAny (model N w) A (letOwnedTupleGo C it v) (λ_ s2=>wpAny (model N w) A (assign C O v) (λ_ s3=>
     wpAny (model N w) A (xT f O) (λok s4=>
      if ok=true then wpAny (model N w) A (eval B O) (λkv s5=>wpAny (model N w) A (eval G O) (λvv s6=>
       wpAny (model N w) A (dictSet D kv vv) (λ_ s7=>∃m,m<n/\J m s7) 0#h s6) 0#h s5) 0#h s4
      else ∃m,m<n/\J m s4) 0#h s3) 0#h s2) 0#h s1) 0#h s)
  (n:Nat) (h:J n s):codeAny (model N w) A (.compLoop (.DictComp B G [{C,e,f,0}] scope o) 0 it (.ref D) O) R s:=by
 have U:∀{α:Type} {t:Sem α} {Q:α->Shared->Prop} {E:Value->Shared->Prop} {s:Shared},wpAny (model N w) A t Q 0#h s->wpAny (model N w) A t Q E s:=λx=>z9 x (λ_ _ q=>q) λ_ _ q=>q.elim
 refine codeAny_loop rfl J (λk u hJ=>?_) n h
 refine wpAny_noted (?_:wpAny _ A (compTurn (.DictComp B G [{C,e,f,0}] scope o) 0 it (.ref D) O) _ _ u)
 rw[compTurn_dict];refine zc (xZ (zc (U (z9 (Y k u hJ) (λr s1 h1=>?_) λ_ _ q=>q))))
 cases r with
 | none=>exact zg h1
 | some v=>
  refine zc (U (z9 h1 (λ_ s2 h2=>zc (U (z9 h2 (λ_ s3 h3=>zc (U (z9 h3 (λok s4 h4=>?_) λ_ _ q=>q))) λ_ _ q=>q))) λ_ _ q=>q))
  cases ok with
  | false=>exact zg ⟨rfl,h4⟩
  | true=>
   have aa:wpAny (model N w) A (eval B O) (λkv s5=>wpAny (model N w) A (eval G O) (λvv s6=>wpAny (model N w) A (dictSet D kv vv) (λ_ s7=>∃m,m<k/\J m s7) 0#h s6) 0#h s5) 0#h s4:=h4
   exact zc (zc (U (z9 aa (λkv s5 h5=>zc (jy (U (z9 h5 (λvv s6 h6=>zc (xZ (jy (U (z9 h6 (λ_ s7 h7=>zg ⟨rfl,h7⟩) λ_ _ q=>q))))) λ_ _ q=>q)))) λ_ _ q=>q)))
end
end L2
namespace L2
open PySem PySem.Spec PyProof.Rows PySem.W
section
variable{X:Cx}{f Y vx e:Expr}{o:List Expr}{scope:Scope}{E:Pos}{U:TI}{O:TT}{N tk tv:TE}{mk:Addr->HO}{t:zb3}{x y z u:Str}{J L M I Q B D:Pos}{G w A:Nat}
theorem zfn(fr:List Str)(js:List Nat)(hc:X.calm=true)(hk:scope.kind=.function)(hb:vN scope.names X.env.scope.names X.N [x,y,z,u] fr js=true)(hi:PI X (.Tuple [.Tuple [.Name x J,.Name y L] w B,.Tuple [.Name z M,.Name u I] A D] G Q) e U)
  (hf:∀C s H ex,PF (zB X ([x,y,z,u]++fr) scope C s H ex) o O) (he:∀C s H ex,PE (zB X ([x,y,z,u]++fr) scope C s H ex) f N) (hs:∀x,foldedSetIterable e X.env x=pure x:=by intro _;rfl) :
  PE X (.ListComp f [{.Tuple [.Tuple [.Name x J,.Name y L] w B,.Tuple [.Name z M,.Name u I] A D] G Q,e,o,0}] scope E) (tLC U 4 js (WB X.K 2 (vg (WB X.K 2 (vg (j7 0) (vg (j7 1) zam))) (vg (WB X.K 2 (vg (j7 2) (vg (j7 3) zam))) zam))) O N):=by
 obtain⟨h1,h2,h3⟩:=xn hb;refine zfo [x,y,z,u] fr js hc hk h1 hi (λC s H ex=>?_) hf he hs
 exact jP (X:=zB X ([x,y,z,u]++fr) scope C s H ex) hc (zD (jP hc (zD (xf (h2 x 1e3) h3 rfl) (zD (xf (h2 y 1e3) h3 rfl) jw))) (zD (jP hc (zD (xf (h2 z 1e3) h3 rfl) (zD (xf (h2 u 1e3) h3 rfl) jw))) jw))
end
theorem JG{K:W.Frag}{a D:Addr}{xs:List V}{t:zb3}{g:TG}{L:TT}{M O:TE}{A:St}{n:Nat}{R:Hp->Prop}{H:Hp}(Pv:Nat->Hp->Prop)(h0:Pv 0 H)(h1:∀i H,Pv i H->SqL K H a xs)
  (Q:∀i x H,xs[i]? =some x->Pv i H->g x A H λo E=>o.drop n=A.drop n/\L o E λb u=>if b=true then M o u λy G=>O o G λv I=>t D y v I (Pv (i+1)) else Pv (i+1) u) (hd:∀H,Pv xs.length H->R H) :
  ∃W:Nat->Nat->Hp->Prop,(∃m,W 0 m H)/\∀i m f,W i m f ->
   ((Itl K a).stop i f/\R f) \/
   ((Itl K a).go i f/\∃N:Hp->Prop,(∀B,N B->∃J,J<m/\W (i+1) J B)/\∀x C,(Itl K a).yld i f x C->g x A C λo E=>o.drop n=A.drop n/\L o E λb u=>
    if b=true then M o u λy G=>O o G λv I=>t D y v I N else N u):=by
 refine{λi m f=>m=xs.length-i/\i<=xs.length/\Pv i f,{_,rfl,qJ _,h0},?_}
 rintro i m f ⟨rfl,Y,p⟩;have q:=h1 i f p;by_cases w:i<xs.length
 .refine .inr {{xs,xs[i],q,by simp[w]},Pv (i+1),λB U=>{_,(),rfl,w,U},λx C y=>?_}
  obtain⟨e,y⟩:=y;subst e;exact Q i x _ (y _ q) p
 .obtain rfl:i=xs.length:=()
  exact .inl {{xs,q,zx _},hd f p}
theorem zgf{P:Program}{w:World}{d D:Addr}{o:Obj}{xs:PEs}{t:zb3}{g:TG}{M:TT}{O Q:TE}{B:St}{n:Nat}{R:Hp->Prop}{H:Hp}(Pv:Nat->Hp->Prop)(h0:Pv 0 H)(h1:∀i H,Pv i H->H d=some (dP P w d o xs))
  (Y:∀i k a v H T,xs[i]? =some (k,a,v)->Pv i H->H T=none->g (.ref T) B (upd H T (.tup [.ref a,.ref v])) λf G=>f.drop n=B.drop n/\M f G λb u=>if b=true then O f u λy I=>Q f I λv J=>t D y v J (Pv (i+1)) else Pv (i+1) u) (hd:∀H,Pv xs.length H->R H) :
  ∃W:Nat->Nat->Hp->Prop,(∃m,W 0 m H)/\∀i m e,W i m e ->
   ((ItP P w d o xs).stop i e/\R e) \/
   ((ItP P w d o xs).go i e/\∃N:Hp->Prop,(∀C,N C->∃L,L<m/\W (i+1) L C)/\∀x E,(ItP P w d o xs).yld i e x E->g x B E λf G=>f.drop n=B.drop n/\M f G λb u=>
    if b=true then O f u λy I=>Q f I λv J=>t D y v J N else N u):=by
 refine{λi m e=>m=xs.length-i/\i<=xs.length/\Pv i e,{_,rfl,qJ _,h0},?_}
 rintro i m e ⟨rfl,hi,p⟩;by_cases A:i<xs.length
 .refine .inr {{h1 i e p,A},Pv (i+1),λC p'=>{_,(),rfl,A,p'},?_}
  rintro x E ⟨T,k,a,v,rfl,U,rfl,y⟩;exact Y i k a v e T y p U
 .obtain rfl:i=xs.length:=()
  exact .inl {{h1 _ e p,zx _},hd e p}
def WkAt(K:W.Frag)(H:Hp)(a:Addr)(p:Int×List Int):Prop:=∃U,SqT K H a [.int p.1,.ref U]/\SqT K H U (p.2.map V.int)
def WkO(h:Heap)(a:Addr)(p:Int×List Int):Prop:=∃o n t U,h.get? a=some o/\o.cls=.type "tuple" /\ o.data=.seq #[.int p.1 t,.ref U] n/\∃e u f,h.get? U=some e/\e.cls=.type "tuple" /\ e.data=.seq f u/\Vals (p.2.map V.int) f.toList
theorem WkO.keep{h e:Heap}{a:Addr}{p:Int×List Int}(x:WkO h a p)(k:∀b o,h.get? b=some o->e.get? b=some o):WkO e a p:=
 let ⟨o,n,t,U,a1,a2,a3,u,f,w,b1,b2,b3,b4⟩:=x;{o,n,t,U,k _ _ a1,a2,a3,u,f,w,k _ _ b1,b2,b3,b4}
theorem ziO{X:Cx}{w:List (Addr×Obj)}{σ:St}{H:Hp}{s:Shared}{a:Addr}{p:Int×List Int}(I:Inv X w σ H s)(h:WkAt X.K H a p):WkO s.heap a p:=by
 obtain⟨U,h0,h1⟩:=h;obtain⟨C,r,⟨o,e,t,n,d⟩,_⟩:=I.tuple h0;obtain⟨f,G,⟨E,B,M,D,A⟩,_⟩:=I.tuple h1;cases r with
 | @cons _ u _ _ J r=>
  cases r with
  | @cons _ O _ _ L r=>
   cases r;obtain⟨N,rfl⟩:=J;cases(show O=Value.ref U from L)
   exact{o,n,N,U,e,t,d,E,D,f.toArray,B,M,A,by simpa using G}
theorem zh7{e:Program}{w:World}{A:Around}{s:Shared}{a b:Addr}{p q:Int×List Int}{Q:Value->Shared->Prop}{E:Value->Shared->Prop}(hu:A.in1.units<cLine)(x:WkO s.heap a p)(y:WkO s.heap b q)(h:Q (.bool (ltW p q)) s) :
  wpAny 0#w A (richCompare .Lt (.ref a) (.ref b)) Q E s:=by
 obtain⟨O,M,H,U,a1,a2,a3,B,t,J,a4,a5,a6,a7⟩:=x;obtain⟨Y,N,I,D,b1,b2,b3,C,u,L,b4,b5,b6,b7⟩:=y;refine Yy (ZU hu) a1 a2 a3 b1 b2 b3 ?_ h
 show XX e w A.in1 s [.int p.1 H,.ref U] [.int q.1 I,.ref D] (ltW p q);by_cases e1:p.1=q.1
 .refine .eq (λQ E q=>eq_int _ _ _ _ (by rw[zY e1];exact q)) ?_
  have G:IsTupleKey (zw e w) s.heap (p.2.map Sum.inl) U:={B,J,t,a4,a5,a6,wJ (by rw[qK];exact a7)}
  have f:IsTupleKey (zw e w) s.heap (q.2.map Sum.inl) D:={C,L,u,b4,b5,b6,wJ (by rw[qK];exact b7)}
  have o:∀{x y:List Int},x.map (Sum.inl (β:=Str))=y.map Sum.inl->x=y:=λ{x y} z=>by
   have:=congrArg (List.map λk:Int ⊕ Str=>k.elim id λ_=>0) z
   simpa [qK,Function.comp_def] using this
  by_cases e2:p.2=q.2
  .rw[show ltW p q=false by unfold ltW;rw[zt e1,zt e2]]
   exact .eq (λQ E q=>ZX hu G f (by rw[zY (by rw[e2])];exact q)) .nil
  .rw[show ltW p q=ltN p.2 q.2 by unfold ltW;rw[zt e1,zq e2]]
   exact .ne (λQ E q=>ZX hu G f (by rw[jA λz=>e2 (o z)];exact q)) λQ E q=>Yy hu a4 a5 a6 b4 b5 b6 (zad a7 b7) q
 .rw[show ltW p q=decide (p.1<q.1) by unfold ltW;rw[zq e1]]
  exact .ne (λQ E q=>eq_int _ _ _ _ (by rw[jA e1];exact q)) λQ E q=>zcQ _ _ _ _ q
inductive Qu(K:W.Frag)(e:List V)(H:Hp)(Q:VK):Prop
 | mk (a b:Addr) (p q:Int×List Int) (_:e=[.ref a,.ref b]) (_:WkAt K H a p) (_:WkAt K H b q) (_:Q (.ref (if ltW q p=true then b else a)) H):Qu K e H Q
theorem zbr{X:Cx}(hc:X.calm=true)(hu:X.A.units+64<cLine):jD X (.builtin "min") (Qu X.K):=by
 intro aa s σ H xs us R I r h;obtain⟨a,b,p,q,rfl,wa,wb,hq⟩:=h;obtain⟨u,w',rfl,ra,rb⟩:=JK r;cases(show u=_ from ra)
 cases(show w'=_ from rb)
 have oa:=ziO I wa;have ob:=ziO I wb;have nm:(toString "min" ++ toString ".loop" : String) = "min.loop" :=1e1
 refine call_function_tree F.kind_min F.plain_min F.entry_min (F.args_min2 _ _) ?_
 refine zc (vS (show Builtin.Builtins.bindParams "min" ["key","default"] 0 {[],[]}=pure [none,none] from rfl) ?_)
 refine(?_:wpAny _ X.A.in1 (newTuple [.ref a,.ref b] >>= _) _ _ s)
 refine zc (jv ?_)
 have J:(s.heap.push { cls:=.type "tuple",data:=.seq #[.ref a,.ref b] }).IsTuple s.heap.objs.size #[.ref a,.ref b]:={_,qo _ rfl,rfl,0,rfl};have O:(s.heap.push { cls:=.type "tuple",data:=.seq #[.ref a,.ref b] }).objs.size=s.heap.objs.size+1:=jq ..;have k0:∀c o,s.heap.get? c=some o->(s.heap.push { cls:=.type "tuple",data:=.seq #[.ref a,.ref b] }).get? c=some o:=λc o e=>zH _ e
 refine zc (wpAny_pyIter_tuple J ?_)
 generalize s.heap.push { cls:=.type "tuple",data:=.seq #[.ref a,.ref b] }=h0 at J O k0;refine zc (jv ?_)
 rw[nm];have C:(h0.push { cls:=.type "tuple_iterator",data:=.fields #[.ref s.heap.objs.size,.int 0 0] }).IsTupleIter h0.objs.size s.heap.objs.size 0:={_,qo _ rfl,rfl,rfl};have B:=J.push { cls:=.type "tuple_iterator",data:=.fields #[.ref s.heap.objs.size,.int 0 0] };have z2:(h0.push { cls:=.type "tuple_iterator",data:=.fields #[.ref s.heap.objs.size,.int 0 0] }).objs.size=s.heap.objs.size+2:=by rw[jq,O]
 have k1:∀c o,s.heap.get? c=some o->(h0.push { cls:=.type "tuple_iterator",data:=.fields #[.ref s.heap.objs.size,.int 0 0] }).get? c=some o:=λc o e=>zH _ (k0 c o e)
 generalize h0.push { cls:=.type "tuple_iterator",data:=.fields #[.ref s.heap.objs.size,.int 0 0] }=h1 at C B z2 k1;have ne:h0.objs.size≠s.heap.objs.size:=()
 have W:=Walks.tuple (prog:=X.prog) (w:=X.w) (A:=X.A.in1) 0#Q h0.objs.size s.heap.objs.size (zN (by rw[O];exact wP _)) #[.ref a,.ref b]
 have f:h1.objs.size∉[h0.objs.size,s.heap.objs.size]:=by
  intro z;simp at z;omega
 have Q:(h1.push { cls:=.type "list",data:=.seq ([]:List Value).toArray }).get? h1.objs.size=some (seqObj "list" #[] 0):=qo _ rfl;refine zg {plainId_quiet wy _,codeAny_builtin WY ?_}
 rw[yg wy _];refine(?_:wpAny _ _ (seqItems? (.ref h1.objs.size) >>= _) _ _ _)
 refine zc (xc Q rfl ?_)
 refine(?_:wpAny _ _ (tryCatch (pyNext (.ref h0.objs.size)) _ >>= _) _ _ _)
 refine zc (QJ (W.item 0 { s with heap:=h1.push { cls:=.type "list",data:=.seq ([]:List Value).toArray } } _ _ 1e3 {C.at λo e=>zH _ e,B.push _} λv E tk pv M kk=>?_))
 have nw:h1.objs.size∉[h0.objs.size]:=λz=>f (by simp at z;omega)
 have t:=kk _ _ nw Q;refine(?_:wpAny _ _ (updateSeq h1.objs.size (λ_=>#[v,v]) >>= _) _ _ _)
 refine zc (wx t rfl ?_)
 rw[nm];have D:∀b o,b≠h1.objs.size->E.get? b=some o->(E.update h1.objs.size (Obj.mapSeq λ_=>#[v,v])).get? b=some o:=λb o b2 e=>(vm _ _ (zS b2)).trans e
 have all:∀b o,s.heap.get? b=some o->b≠h0.objs.size/\b≠h1.objs.size:=λb o e=>{zN (jM (zK e) ()),zN (jM (zK e) ())}
 have U:∀b o,s.heap.get? b=some o->(E.update h1.objs.size (Obj.mapSeq λ_=>#[v,v])).get? b=some o:=λb o e=>
  D b o (all b o e).2 (kk b o (λz=>(all b o e).1 (zR.mp z)) (zH _ (k1 b o e)))
 have hp:∀(i:Nat) v,(#[Value.ref a,.ref b]:Array Value)[i]? =some v->∃c,v=.ref c/\WkO s.heap c (if i=0 then p else q):=λi v e=>by
  match i,e with
  | 0,e=>cases e;exact⟨a,rfl,oa⟩
  | 1,e=>cases e;exact⟨b,rfl,ob⟩
  | n+2,e=>simp at e
 refine zg {plainId_quiet wy _,VN (S:=h1.objs.size) W (λi j=>ltW (if i=0 then p else q) (if j=0 then p else q)) (λh=>∀b o,s.heap.get? b=some o->h.get? b=some o) (λh h2 x y c o e=>y c o (λz=>(all c o e).1 (zR.mp z)) (all c o e).2 (x c o e)) ?_ f 1 0 _ v _ rfl (W.frame _ _ _ M λb bf o e=>D b o (λz=>f (by rw[<- z];exact bf)) e) U pv (xG _ t rfl) λv' h2 N p2 k2=>?_}
 .intro i j vi vj s2 Q2 E2 Y hi hj L
  obtain⟨c,rfl,wc⟩:=hp i vi hi;obtain⟨d,rfl,wd⟩:=hp j vj hj;exact zh7 (show X.A.in1.in1.units<cLine from Qo (yV (by decide:2<=64) _) hu) (wc.keep Y) (wd.keep Y) L
 .have e2:v'=.ref (if ltW q p=true then b else a):=by
   have G:(#[Value.ref a,.ref b]:Array Value)[argBest (λi j=>ltW (if i=0 then p else q) (if j=0 then p else q)) 1]? =some v':=p2
   cases hb:ltW q p with
   | true=>
    rw[show argBest (λi j=>ltW (if i=0 then p else q) (if j=0 then p else q)) 1=1 by simp[argBest,hb]] at G
    cases G;rfl
   | false=>
    rw[show argBest (λi j=>ltW (if i=0 then p else q) (if j=0 then p else q)) 1=0 by simp[argBest,hb]] at G
    cases G;rfl
  refine{_,H,I.kept (h':=h2) (t':=N) (λb o e=>k2 b o (λz=>(all b o e).1 (zR.mp z)) (all b o e).2 (U b o e)),?_,hq}
  rw[e2];exact rfl
end L2
namespace L2
open PySem PySem.Spec PyProof.Rows
section
variable{X:Cx}{E G U f:Expr}{w:List Expr}{scope:Scope}{A:Pos}{wi:TI}{g:TG}{O:TT}{L M:TE}{mk:Addr->HO}{t:zb3}
theorem ziD{y:Str}{py ae:Pos}{g2:TG}(own fr:List Str)(js:List Nat)(hn:zgF X.prog X.w mk)(hp:zgE X.prog X.w X.K X.A t)(hc:X.calm=true)(hk:scope.kind=.function)(hb:Zs scope.names X.env.scope.names X.N fr js=true)(hi:PI X U f wi)
  (hg:∀C s H ex,PG (zB X (own++fr) scope C s H ex) U g) (hf:∀C s H ex,PF (zB X (own++fr) scope C s H ex) w O) (b0:∀C s H ex,PE (zB X (own++fr) scope C s H ex) E L) (bd:∀C s H ex,PE (zB X (own++fr) scope C s H ex) G M)
  (az:PG X (.Name y py) g2) (bc:swapsWith (.DictComp E G [{U,f,w,0}] scope A) (some (.Name y py)) ae.line X.env=pure true:=by rfl)
  (hs:∀x,foldedSetIterable f X.env x=pure x:=by intro _;rfl):PS X (.Assign [.Name y py] (.DictComp E G [{U,f,w,0}] scope A) ae) (Wc (tDC mk t wi own.length js g O L M) g2):=by
 intro aa s σ H Dn I h;have B:=Xw hb;have ab:∀y∈scope.names,y.2=NameKind.free->∃c,X.env.cells.lookup y.1=some c:=λy hy e=>I.ok.has y.1 (B.free y hy e)
 rw[exec_Assign_Name_used _ _ _ _ bc];refine zc (xZ (zc ?_))
 refine(?_:wpAny _ X.A (do let _<-comprehension (.DictComp E G [{U,f,w,0}] scope A) scope X.env _ newDict false (eval f X.env) (some (assign (.Name y py) X.env))) _ _ s)
 refine zc (z9 (wpAny_comprehension_free (use:=some (assign (.Name y py) X.env)) (Q:=λ_ s'=>∃σ' H',Inv X aa σ' H' s'/\Dn.nx σ' H') rfl hs (JH ab) hk (λy hy e=>B.loc y hy e) (thn (hi aa s σ H _ I h) λv s1 h1=>thn h1 λbs s2 h2=>?_)) (λ_ s' hq=>zg (zg hq)) λ_ _ e=>e)
 obtain⟨it,fp,tn,J,H2,e,I2,T,ai,f2,hD⟩:=h2;subst e;have fl:∀b∈fp,b<s2.heap.objs.size:=λb hb=>let ⟨o,e,_⟩:=T.obj _ _ ai b hb;zK e
 refine jv (wpAny_newFunctionEnv B.cell (by intro y hy;simp at hy) (λh1 ag ah=>?_) hk)
 dsimp only at ag ah ⊢;have ba:=I2.hok.fresh (zx s2.heap.objs.size);obtain⟨W,⟨m0,w0⟩,an⟩:=hD _ ba;have I3:=I2.laid (a:=s2.heap.objs.size) (o:=mk s2.heap.objs.size) (h':=s2.heap.push { cls:=.type "dict",data:=.dict #[] }) (t':=s2.toks) (λ_ _ q=>zH _ q) (zx _) (hn _ s2.heap I2.big)
 generalize e3:s2.heap.push { cls:=.type "dict",dict:=none,data:=.dict #[] }=h3 at ag ah I3 ⊢;have k3:∀b o,s2.heap.get? b=some o->h3.get? b=some o:=λb o e=>by rw[<- e3];exact zH _ e
 have k4:∀b o,h3.get? b=some o->h1.get? b=some o:=λb o e=>ah.extBut b o (zN (zK e)) (zH _ e)
 have hz:h3.objs.size=s2.heap.objs.size+1:=by rw[<- e3,jq]
 generalize eD:s2.heap.objs.size=D at *
 have fD:∀b∈fp,b≠D:=λb hb=>zN (fl b hb)
 have f3:∀b∈fp,jH X aa (upd H2 D (mk D)) b:=λb hb=>by
  obtain⟨a1,a2⟩:=f2 b hb;exact{by rw[zj (fD b hb)];exact a1,a2}
 have I4:Inv (zB X (own++fr) scope h3.objs.size { s2 with heap:=h3,toks:=s2.toks } (upd H2 D (mk D)) fp) [] 0#R (upd H2 D (mk D)) { s2 with heap:=h1,toks:=s2.toks+([]:List (Str×Value)).length }:=
  Xv own fr js I3 B hk f3 (λb hb=>by show b<h3.objs.size;rw[hz];exact vP (fl b hb)) rfl ag k4
 have av:=(I3.fpOk (b:=h3.objs.size) (zx _) (I3.hok.fresh (zx _))).2;generalize eC:h3.objs.size=C at *
 have be:∀b∈fp,∀x c,(qX X.env.cells scope.names []).lookup x=some c->c≠b:=λb hb x c e=>(f2 b hb).2.2.2.2.1 x c (zV e ab)
 have bf:∀b∈fp,b∉frs X.stack:=I4.ok.exfs;generalize eY:zB X (own++fr) scope C { s2 with heap:=h3,toks:=s2.toks } (upd H2 D (mk D)) fp=Y at I4;have af:∀{H':Hp},(∀b∈fp,H' b=none)->∀b∈fp,jH Y [] H' b:=λ{H'} hn b hb=>by
  subst eY;exact{hn b hb,(I4.ok.exf b hb).1,bf b hb,.inl hb,λx c e=>be b hb x c e,λp h=>absurd h 1e3}
 have ac:∀s4:Shared,s4={ s2 with heap:=h1,toks:=s2.toks+([]:List (Str×Value)).length } ->
   codeAny 0#e X.A (.compLoop (.DictComp E G [{U,f,w,0}] scope A) 0 (.ref it) (.ref D) 0#l)
    (compPost 0#e X.A X.xe (some (assign (.Name y py) X.env)) (λ_ s'=>∃σ' H',Inv X aa σ' H' s'/\Dn.nx σ' H') (.ref D) C) s4:=by
  intro s4 e4;refine zlq (λn s'=>∃i H',Inv Y [] 0#R H' s'/\tn i s'.heap/\(∀b∈fp,H' b=none)/\W i n H') ?_ m0 ?_
  .rintro n s5 ⟨i,H5,I5,am,al,w5⟩
   rcases an i n H5 w5 with ⟨stop,q⟩ | ⟨go,N,hN,step⟩
   .subst eY
    refine thn (T.done 0#D rfl rfl rfl hc i _ s5 _ H5 _ I5 (af al) am stop) λr s6 ⟨hr,I6⟩=>?_
    subst hr;obtain⟨m6,bb,_⟩:=I6.loc;exact Yu az bb (λh7 k7=>I3.call' (s':={ s6 with heap:=h7 }) (ch:=fp) I6.os (Wa I6.base (vT eC) k7) (JD I6.hok I6.free k7) I6.bare λb hb=>by obtain⟨_,g1,_,g3,g4,g5⟩:=f3 b hb;exact⟨g3,g1,g4,g5⟩) ⟨I6.free,av⟩ q
   .have e1:Y.prog=X.prog:=by rw[<- eY]
    have e2:Y.w=X.w:=by rw[<- eY]
    have e5:Y.K=X.K:=by rw[<- eY]
    subst eY;refine thn (T.item 0#D rfl rfl rfl hc i _ s5 _ H5 _ I5 (af al) am go) λr s6 ⟨u,hr,h6⟩=>?_
    subst hr;refine thn h6 λ_ s7 ⟨x,H7,I7,r7,y7,aj,aw⟩=>?_
    have au:=I7.pinned (af aw) (T.obj _ _ aj);refine thn (hg _ _ _ _ _ s7 _ H7 x u _ au r7 (step x H7 y7)) λ_ s8 ⟨σ8,H8,I8,ay,q8⟩=>?_
    refine thn (hf _ _ _ _ _ s8 σ8 H8 _ I8 q8) λok s9 ⟨H9,I9,q9⟩=>?_
    have mF:∀b∈fp,∀o,s7.heap.get? b=some o->(b,o)∈[]++zX fp s7.heap:=λb hb o e=>zZ _ (qP hb e)
    have ak:∀{H':Hp} {s':Shared},Inv 0#D ([]++zX fp s7.heap) σ8 H' s'->N H' ->
      ∃m,m<n/\∃i H',Inv 0#D [] 0#R H' s'/\tn i s'.heap/\(∀b∈fp,H' b=none)/\W i m H':=λ{H' s'} J ax=>by
     obtain⟨m',hm,w'⟩:=hN _ ax;refine{m',hm,i+1,H',?_,T.keep _ _ _ aj λb hb o e=>(J.pin (b,o) (zZ _ (mF b hb o e))).1,λb hb=>?_,w'}
     .refine(J.pins_of (pins':=[]) λp hp=>absurd hp 1e3).weak (I5.len.trans J.len.symm) λk v e=>?_
      obtain⟨hn,e1,_⟩:=vH e;rw[<- ay,W6] at e1;rw[<- e1];congr 1
      omega
     .obtain⟨o,e,_⟩:=T.obj _ _ aj b hb
      exact(J.pin (b,o) (zZ _ (mF b hb o e))).2.1
    cases ok with
    | false=>exact ak I9 (by simpa using q9)
    | true=>
     have bj:L σ8 H9 λy H6=>M σ8 H6 λv H7=>t D y v H7 N:=by simpa using q9
     refine thn (b0 _ _ _ _ _ s9 σ8 H9 _ I9 bj) λkv bo ⟨y,ao,aq,bm,bh⟩=>?_
     refine thn (bd _ _ _ _ _ bo σ8 ao _ aq bh) λvv bp ⟨v,ap,ar,bn,bi⟩=>?_
     exact thn (hp _ e1 e2 e5 _ bp σ8 ap D y v kv vv N ar bm bn bi) λ_ bt ⟨br,as,bq⟩=>ak as bq
  .subst e4
   exact{0,_,I4,T.keep _ _ _ ai λb hb o e=>k4 b o (k3 b o e),λb hb=>(f3 b hb).1,w0}
 exact codeAny_compStart_dict (ac _ rfl) (T.self X.A 0 _ _ _ (T.keep _ _ _ ai λb hb o e=>k4 b o (k3 b o e)) (ac _ rfl))
theorem Wj{x y:Str}{Q Y e:Pos}{g2:TG}(u:List Str)(N:List Nat)(hn:zgF X.prog X.w mk)(hp:zgE X.prog X.w X.K X.A t)(hc:X.calm=true)(hk:scope.kind=.function)(hb:vN scope.names X.env.scope.names X.N [x] u N=true)(hi:PI X (.Name x Q) f wi)
  (hf:∀C s H o,PF (zB X ([x]++u) scope C s H o) w O) (D:∀C s H o,PE (zB X ([x]++u) scope C s H o) E L) (J:∀C s H o,PE (zB X ([x]++u) scope C s H o) G M)
  (B:PG X (.Name y Y) g2) (I:swapsWith (.DictComp E G [{.Name x Q,f,w,0}] scope A) (some (.Name y Y)) e.line X.env=pure true:=by rfl)
  (hs:∀x,foldedSetIterable f X.env x=pure x:=by intro _;rfl):PS X (.Assign [.Name y Y] (.DictComp E G [{.Name x Q,f,w,0}] scope A) e) (Wc (tDC mk t wi 1 N (j7 0) O L M) g2):=by
 obtain⟨h1,h2,h3⟩:=xn hb;exact ziD [x] u N hn hp hc hk h1 hi (λC s H o=>xf (h2 x 1e3) h3 rfl) hf D J B I hs
theorem zfh{x y z u:Str}{px py pz pu tp D e:Pos}{kk B:Nat}{g2:TG}(I:List Str)(js:List Nat)(hn:zgF X.prog X.w mk)(hp:zgE X.prog X.w X.K X.A t)(hc:X.calm=true)(hk:scope.kind=.function)(hb:vN scope.names X.env.scope.names X.N [x,y,z] I js=true)(hi:PI X (.Tuple [.Tuple [.Name x px,.Name y py] B D,.Name z pz] kk tp) f wi)
  (hf:∀C s H o,PF (zB X ([x,y,z]++I) scope C s H o) w O) (N:∀C s H o,PE (zB X ([x,y,z]++I) scope C s H o) E L) (Y:∀C s H o,PE (zB X ([x,y,z]++I) scope C s H o) G M)
  (J:PG X (.Name u pu) g2) (Q:swapsWith (.DictComp E G [{.Tuple [.Tuple [.Name x px,.Name y py] B D,.Name z pz] kk tp,f,w,0}] scope A) (some (.Name u pu)) e.line X.env=pure true:=by rfl)
  (hs:∀x,foldedSetIterable f X.env x=pure x:=by intro _;rfl):PS X (.Assign [.Name u pu] (.DictComp E G [{.Tuple [.Tuple [.Name x px,.Name y py] B D,.Name z pz] kk tp,f,w,0}] scope A) e) (Wc (tDC mk t wi 3 js (WB X.K 2 (vg (WB X.K 2 (vg (j7 0) (vg (j7 1) zam))) (vg (j7 2) zam))) O L M) g2):=by
 obtain⟨h1,h2,h3⟩:=xn hb;refine ziD [x,y,z] I js hn hp hc hk h1 hi (λC s H o=>?_) hf N Y J Q hs
 exact jP (X:=zB X ([x,y,z]++I) scope C s H o) hc (zD (jP hc (zD (xf (h2 x 1e3) h3 rfl) (zD (xf (h2 y 1e3) h3 rfl) jw))) (zD (xf (h2 z 1e3) h3 rfl) jw))
end
end L2
namespace L2
open PySem PySem.Spec PyProof.Rows PySem.W
def WkS(K:W.Frag)(H:Hp)(f:List V)(e:List (Int×List Int)):Prop:=f.length=e.length/\∀(j:Nat) q,e[j]? =some q->∃T,f[j]? =some (.ref T)/\WkAt K H T q
theorem WkS.nil{K:W.Frag}{H:Hp}:WkS K H [] []:={rfl,λj q e=>by simp at e}
theorem WkS.snoc{K:W.Frag}{H:Hp}{w:List V}{o:List (Int×List Int)}{q:Int×List Int}{T:Addr}(h:WkS K H w o)(e:WkAt K H T q):WkS K H (w++[.ref T]) (o++[q]):=by
 refine{by rw[qu,qu,h.1];rfl,λj r f=>?_}
 by_cases t:j<o.length
 .rw[x6 t] at f
  obtain⟨A,e1,e2⟩:=h.2 j r f;exact{A,by rw[x6 (by rw[h.1];exact t)];exact e1,e2}
 .have u:=(zO.mp f).1
  rw[qu] at u;have B:j=o.length:=by simp at u;omega
  subst B;rw[xr (zx _),Nat.sub_self] at f;cases(show some q=some r from f)
  exact{T,by rw[<- h.1,xr (zx _),Nat.sub_self];rfl,e}
inductive Qt(K:W.Frag)(o:List V)(H:Hp)(Q:VK):Prop
 | mk (p:Addr) (f:List V) (e:List (Int×List Int)) (_:o=[.ref p]) (_:SqL K H p f) (_:WkS K H f e) (_:e≠[]) (_:∀v,f[X7 e]? =some v->Q v H):Qt K o H Q
theorem zbq{X:Cx}(hc:X.calm=true)(hu:X.A.units+64<cLine):jD X (.builtin "min") (Qt X.K):=by
 intro ae s σ H xs us Q I r h;obtain⟨p,zs,B,rfl,hq,wk,J,q⟩:=h;obtain⟨u,rfl,ru⟩:=vX r;cases(show u=_ from ru)
 obtain⟨f,rv,pl,hz⟩:=I.list hq;have hl:=pl.isList;have ah:=rv.length;have wl:=wk.1;have h0:0<B.length:=W8.mpr J;have t:p<s.heap.objs.size:=let ⟨_,e,_⟩:=hl;zK e
 have nm:(toString "min" ++ toString ".loop" : String) = "min.loop" :=1e1
 have aa:X.A.in1.in1.units<cLine:=Qo (yV (by decide:2<=64) _) hu
 have ag:X.A.in1.units<cLine:=Qo (yV (by decide:1<=64) _) hu
 have tup:∀(j:Nat) v,f[j]? =some v->∃T q,v=Value.ref T/\B[j]? =some q/\WkO s.heap T q:=λj v Y=>by
  have af:=(zO.mp Y).1;have ek:B[j]? =some (B[j]'()):=vo _
  generalize B[j]'()=k at ek
  obtain⟨T,e1,e2⟩:=wk.2 j k ek;obtain⟨v',D,e5⟩:=rv.get e1;rw[Y] at D;cases D;cases(show v=Value.ref T from e5)
  exact{T,k,rfl,ek,ziO I e2}
 refine call_function_tree F.kind_min F.plain_min F.entry_min (F.args_min1 _) ?_
 show wpAny _ X.A.in1 (Builtin.Builtins.bindParams "min" ["key","default"] 0 {[],[]} >>= _) _ _ s;refine zc (vS (show Builtin.Builtins.bindParams "min" ["key","default"] 0 {[],[]}=pure [none,none] from rfl) (zc (zg (zc (wpAny_pyIter_list hl ?_)))))
 refine zc (jv ?_)
 rw[nm];have hI:s.heap.objs.size<(s.heap.push { cls:=.type "list_iterator",data:=.fields #[.ref p,.int 0 0] }).objs.size:=by rw[jq];exact wP _
 have M:(s.heap.push { cls:=.type "list_iterator",data:=.fields #[.ref p,.int 0 0] }).IsListIter s.heap.objs.size p 0:={_,qo _ rfl,rfl,rfl};have G:(s.heap.push { cls:=.type "list_iterator",data:=.fields #[.ref p,.int 0 0] }).IsList p f.toArray:=hl.push _;have k1:∀b o,s.heap.get? b=some o->(s.heap.push { cls:=.type "list_iterator",data:=.fields #[.ref p,.int 0 0] }).get? b=some o:=λb o e=>zH _ e
 generalize s.heap.push { cls:=.type "list_iterator",data:=.fields #[.ref p,.int 0 0] }=h1 at hI M G k1;have W:=QH (prog:=X.prog) (w:=X.w) (A:=X.A.in1.in1) 0#Q s.heap.objs.size p (zN t) f.toArray;have W':=QH (prog:=X.prog) (w:=X.w) (A:=X.A.in1) 0#Q s.heap.objs.size p (zN t) f.toArray;have C:h1.objs.size∉[s.heap.objs.size,p]:=by
  intro z;rcases zP.mp z with z | z
  .omega
  .exact xM _ (XE t (zR.mp z▸hI))
 have hS:(h1.push { cls:=.type "list",data:=.seq ([]:List Value).toArray }).get? h1.objs.size=some (seqObj "list" #[] 0):=qo _ rfl;refine zg {plainId_quiet wy _,codeAny_builtin WY ?_}
 rw[yg wy _];show wpAny _ _ (seqItems? (.ref h1.objs.size) >>= _) _ _ _;refine zc (xc hS rfl ?_)
 show wpAny _ _ (tryCatch (pyNext 0#m) _ >>= _) _ _ _;refine zc (QJ (W'.item 0 { s with heap:=h1.push { cls:=.type "list",data:=.seq ([]:List Value).toArray } } _ _ (by rw[zW];omega) {M.at λo e=>zH _ e,G.push _} λv U tk pv ab kk=>?_))
 have nw:h1.objs.size∉[s.heap.objs.size]:=λz=>C (by simp at z;omega)
 have E:=kk _ _ nw hS;show wpAny _ _ (updateSeq h1.objs.size (λ_=>#[v,v]) >>= _) _ _ _
 refine zc (wx E rfl ?_)
 rw[nm];have N:∀b o,b≠h1.objs.size->U.get? b=some o->(U.update h1.objs.size (Obj.mapSeq λ_=>#[v,v])).get? b=some o:=λb o b2 e=>(vm _ _ (zS b2)).trans e
 have all:∀b o,s.heap.get? b=some o->b≠s.heap.objs.size/\b≠h1.objs.size:=λb o e=>{zN (zK e),zN (XE (zK e) hI)}
 have j0:∀b o,s.heap.get? b=some o->(U.update h1.objs.size (Obj.mapSeq λ_=>#[v,v])).get? b=some o:=λb o e=>
  N b o (all b o e).2 (kk b o (λz=>(all b o e).1 (zR.mp z)) (zH _ (k1 b o e)))
 refine zg {plainId_quiet wy _,VN (S:=h1.objs.size) W' (λi j=>ltW (B.getD i (0,[])) (B.getD j (0,[]))) (λh=>∀b o,s.heap.get? b=some o->h.get? b=some o) (λh h2 a b c o e=>b c o (λz=>(all c o e).1 (zR.mp z)) (all c o e).2 (a c o e)) ?_ C (f.length-1) 0 _ v _ (by rw[zW];omega) (W'.frame _ _ _ ab λb bf o e=>N b o (λz=>C (by rw[<- z];exact bf)) e) j0 pv (xG _ E rfl) λv' h2 ac p2 k2=>?_}
 .intro i j vi vj s2 Q2 E2 jj hi Y L
  have ei:f[i]? =some vi:=by simpa using hi
  have ej:f[j]? =some vj:=by simpa using Y
  obtain⟨T,qi,rfl,fi,oi⟩:=tup i vi ei;obtain⟨T',qj,rfl,fj,oj⟩:=tup j vj ej;rw[Jd,fi,Jd,fj] at L;exact zh7 aa (oi.keep jj) (oj.keep jj) L
 .rw[zW] at p2
  have e2:f[X7 B]? =some v':=by
   have:f.length=B.length:=()
   unfold X7;rw[<- this];simpa using p2
  have hm:=zcP J;have e3:zs[X7 B]? =some (zs[X7 B]'()):=vo _
  obtain⟨v2,D,e5⟩:=rv.get e3;rw[e2] at D;cases D;refine{_,H,I.kept (h':=h2) (t':=ac) (λb o e=>k2 b o (λz=>(all b o e).1 (zR.mp z)) (all b o e).2 (j0 b o e)),e5,q _ e3}
end L2
namespace L2
open PySem PySem.W PySem.Spec PyProof.Rows
section
variable{X:Cx}
end
end L2
namespace L2
open PySem PySem.Spec PyProof.Rows
def pr2(q:Int×Int):List V:=[.int q.1,.int q.2]
section
variable{X:Cx}{e:List (Addr×Obj)}{σ:St}{H:Hp}{s:Shared}
end
section
variable{X:Cx}
end
def lpN(m:Nat):Nat->Nat->Nat->Nat×Nat
 | 0,i,q=>(i,q)
 | n+1,i,q=>lpN m n (SetTable.leap m i q).1 (SetTable.leap m i q).2
def fN(m:Nat):Nat->Nat->Nat
 | 0,i=>i
 | n+1,i=>fN m n ((i*5+1) % (m+1))
theorem WE(m:Nat):∀a b i:Nat,fN m (a+b) i=fN m b (fN m a i)
 | 0,b,i=>by rw[yM];rfl
 | a+1,b,i=>by rw[Nat.succ_add];exact WE m a b _
theorem zcR(m:Nat):∀a b i q:Nat,lpN m (a+b) i q=lpN m b (lpN m a i q).1 (lpN m a i q).2
 | 0,b,i,q=>by rw[yM];rfl
 | a+1,b,i,q=>by rw[Nat.succ_add];exact zcR m a b _ _
theorem ziH(m:Nat):∀n i q:Nat,(lpN m n i q).2=q/32^n
 | 0,i,q=>by rw[Nat.pow_zero,Nat.div_one];rfl
 | n+1,i,q=>by
  rw[Nat.pow_succ,Nat.mul_comm,<- Nat.div_div_eq_div_mul];exact ziH m n _ _
theorem ziI(m:Nat):∀n i q:Nat,q<32->(lpN m n i q).1=fN m n i
 | 0,i,q,_=>rfl
 | n+1,i,q,h=>by
  have e:q/32=0:=Nat.div_eq_of_lt h;show(lpN m n ((i*5+1+q/32) % (m+1)) (q/32)).1=fN m n ((i*5+1) % (m+1));rw[e];exact ziI m n _ 0 1e1
theorem zfQ(m:Nat):∀n i q:Nat,i<=m->(lpN m n i q).1<=m
 | 0,_,_,h=>h
 | n+1,i,q,h=>zfQ m n _ _ (XM (ZK _ (XD m)))
def Msk(m:Nat):Prop:=m=7\/m=31\/m=127
def orb(m:Nat):Nat->Nat->List Nat
 | 0,_=>[]
 | n+1,i=>i::orb m n ((i*5+1) % (m+1))
theorem zfv(m:Nat):∀{n i j:Nat},j∈orb m n i->∃k,k<n/\fN m k i=j
 | n+1,i,j,h=>by
  rcases zP.mp h with e | h
  .exact{0,XD n,e.symm}
  .obtain⟨k,h1,h2⟩:=zfv m h
   exact{k+1,Nat.succ_lt_succ h1,h2}
def zk3(m:Nat):Bool:=(List.range (m+1)).all (λj=>(orb m (m+1) 0).contains j)&&fN m (m+1) 0==0
theorem zhV{m:Nat}(h:Msk m):zk3 m=true:=by
 rcases h with rfl | rfl | rfl<;>kernel_rfl
theorem Msk.hit{m i j:Nat}(h:Msk m)(u:i<=m)(f:j<=m):∃n,n<=m/\fN m n i=j:=by
 have c:=zhV h;unfold zk3 at c;rw[jX,xD,xY] at c;have e:∀j,j<=m->∃k,k<m+1/\fN m k 0=j:=λj f=>zfv m (List.contains_iff_mem.mp (c.1 j (xo.mpr (Nat.lt_succ_of_le f))))
 obtain⟨a,w,o⟩:=e i u;obtain⟨b,hb,t⟩:=e j f;by_cases A:a<=b
 .refine{b-a,(),?_}
  rw[<- o,<- WE,show a+(b-a)=b by omega,t]
 .refine{m+1+b-a,(),?_}
  rw[<- o,<- WE,show a+(m+1+b-a)=m+1+b by omega,WE,c.2,t]
theorem Msk.leaps{m i j q:Nat}(h:Msk m)(f:i<=m)(o:j<=m)(hq:q<2^64):∃n,n<=m+12/\(lpN m n i q).1=j:=by
 obtain⟨n,t,e⟩:=h.hit (zfQ m 12 i q f) o;refine{12+n,(),?_}
 rw[zcR,ziI m n _ _ (by rw[ziH];exact Nat.div_lt_of_lt_mul (jM hq 1e1)),e]
inductive Far(t:SetTable):Nat->SetTable.Probe->Prop
 | here {k:Nat} {p:SetTable.Probe}:t.slot p.j=.empty->Far t k p
 | step {k:Nat} {p:SetTable.Probe}:Far t k (t.advance p)->Far t (k+1) p
theorem Far.mono{t:SetTable}{k f:Nat}{p:SetTable.Probe}(h:Far t k p)(u:k<=f):Far t f p:=by
 induction h generalizing f with
 | here e=>exact .here e
 | step _ o=>obtain⟨c,rfl⟩:∃c,f=c+1:={f-1,()};exact .step (o ())
def zkS(t:SetTable)(p:SetTable.Probe):SetTable.Probe:=t.advance { p with more:=0 }
theorem Far.more{t:SetTable}{k:Nat}:∀{m:Nat} {p:SetTable.Probe},p.more=m->Far t k (zkS t p)->Far t (k+m+1) p
 | 0,⟨j,_,i,q,d⟩,rfl,h=>.step h
 | m+1,⟨j,_,i,q,d⟩,rfl,h=>.step (Far.more (m:=m) (p:={j+1,m,i,q,d}) rfl h)
theorem VB{m i:Nat}(h:i<=m):SetTable.runEnd m i<=m/\i<=SetTable.runEnd m i/\SetTable.runEnd m i<=i+9:=by
 unfold SetTable.runEnd;split<;>omega
theorem Far.leaps{t:SetTable}:∀{n i q:Nat} {d:Option Nat},i<=t.mask->t.slot (lpN t.mask n i q).1=.empty->Far t (10*n) {i,SetTable.runEnd t.mask i-i,i,q,d}
 | 0,i,q,d,_,h=>.here h
 | n+1,i,q,d,e,h=>by
  have r:=VB e;have:=Far.leaps (n:=n) (i:=(SetTable.leap t.mask i q).1) (q:=(SetTable.leap t.mask i q).2) (d:=d) (XM (ZK _ (XD _))) h;exact(Far.more (m:=SetTable.runEnd t.mask i-i) (p:={i,SetTable.runEnd t.mask i-i,i,q,d}) rfl this).mono ()
structure Prb(t:SetTable)(p:SetTable.Probe):Prop where
 le:p.j+p.more<=t.mask
 no:p.dummy=none
structure TabT(t:SetTable)(n:Nat):Prop where
 up:Up t.place
 no:t.dummies=#[]
 le:∀j∈t.place.toList,j<=t.mask
 sz:t.place.size=n
 ms:(t.mask=7/\n<=4)\/(t.mask=31/\n<=18)\/(t.mask=127/\n<=76)
theorem TabT.lt{t:SetTable}{n:Nat}(h:TabT t n):n<t.mask:=by rcases h.ms with ⟨e,_⟩ | ⟨e,_⟩ | ⟨e,_⟩<;>omega
theorem TabT.fits{t:SetTable}{n:Nat}(h:TabT t n):t.fits n=true:=by
 have:=h.lt;have z:t.place.size=n:=h.sz;have:t.fill=n:=by unfold SetTable.fill;rw[h.no,z];rfl
 unfold SetTable.fits;rw[jX,xY,ZY];omega
theorem zc2{m:Nat}{owner:Array (Option Nat)}:∀{fuel n i q:Nat},i<=m->n<fuel->(owner.getD (lpN m n i q).1 (some 0)).isNone=true ->
  ∃j,j<=m/\SetTable.layClean.free m owner fuel i q=some j/\(owner.getD j (some 0)).isNone=true
 | 0,n,i,q,_,l,_=>absurd l (WU n)
 | fuel+1,n,i,q,e,l,h=>by
  have r:=VB e;unfold SetTable.layClean.free;cases c:(List.range (SetTable.runEnd m i+1-i)).find? λk=>(owner.getD (i+k) (some 0)).isNone with
  | some k=>
   have h1:=zbx c;have h2:=xo.mp (zbX c);exact{i+k,(),rfl,h1}
  | none=>
   cases n with
   | zero=>
    have:=zbK.mp c 0 (xo.mpr ())
    exact absurd h this
   | succ n=>exact zc2 (XM (ZK _ (XD m))) (Nat.lt_of_succ_lt_succ l) h
theorem zhK{l:List (Option Nat)}{k:Nat}:∀{j:Nat},l[j]? =some none->((l.set j (some k)).filterMap id).Perm (k::l.filterMap id):=by
 induction l with
 | nil=>intro j h;simp at h
 | cons x l e=>
  intro j h;cases j with
  | zero=>
   cases(show x=none by simpa using h)
   exact .refl _
  | succ j=>
   have:=e (j:=j) (by simpa using h)
   cases x with
   | none=>exact this
   | some y=>exact(this.cons y).trans (.swap _ _ _)
structure Own(m k:Nat)(o:Array (Option Nat)):Prop where
 sz:o.size=m+1
 pm:(o.toList.filterMap id).Perm (List.range k)
theorem Own.free{m k:Nat}{o:Array (Option Nat)}(h:Own m k o)(C:k<=m):∃j,j<=m/\(o.getD j (some 0)).isNone=true:=by
 refine Classical.byContradiction λA=>?_
 have all:∀x∈o.toList,x.isSome=true:=λx hx=>by
  obtain⟨j,f,e⟩:=zbP.mp hx;rw[jt,h.sz] at f;cases x with
  | some y=>rfl
  | none=>
   refine absurd {j,(),?_} A
   have e2:o[j]? =some none:=by rw[<- vR,<- e];exact vo _
   unfold Array.getD;rw[dif_pos (by rw[h.sz];exact f)]
   have:o[j]'(by rw[h.sz];exact f)=none:=jL ((jY _).symm.trans e2)
   show(o[j]'_).isNone=true;rw[this];rfl
 have t:∀{l:List (Option Nat)},(∀x∈l,x.isSome=true)->(l.filterMap id).length=l.length:=λ{l}=>by
  induction l with
  | nil=>exactλ_=>rfl
  | cons x l w=>
   intro a;have hx:=a x 1e3
   cases x with
   | none=>cases hx
   | some y=>show(l.filterMap id).length+1=_;rw[w λz u=>a z (jf _ u)];rfl
 have e1:=t all;have e2:=h.pm.length_eq;rw[vk] at e2;have B:o.toList.length=m+1:=by rw[jt,h.sz]
 omega
theorem zaf{m:Nat}(hm:Msk m):∀{hs:List Int} {k:Nat} {o:Array (Option Nat)},Own m k o->k+hs.length<=m->∃u,hs.foldl (λA h=>(do
   let (f,k)<-A
   let j<-SetTable.layClean.free m f (SetTable.turns m) (SetTable.bits h % (m+1)) (SetTable.bits h)
   pure (f.setIfInBounds j (some k),k+1):Option (Array (Option Nat)×Nat))) (some (o,k))=some (u,k+hs.length)/\Own m (k+hs.length) u
 | [],k,o,w,_=>⟨o,rfl,w⟩
 | h::hs,k,o,w,G=>by
  rw[qH] at G;obtain⟨M,E,H⟩:=w.free ()
  have hb:SetTable.bits h<2^64:=by
   unfold SetTable.bits;have:=Zt h (by decide:(0:Int)<2^64)
   have:=wt h (by decide:(2^64:Int)≠0)
   omega
  have C:SetTable.bits h % (m+1)<=m:=XM (ZK _ (XD _));obtain⟨n,L,e⟩:=hm.leaps C E hb;obtain⟨j,N,D,B⟩:=zc2 (owner:=o) (fuel:=SetTable.turns m) (n:=n) C (by unfold SetTable.turns;omega) (by rw[e];exact H)
  have t:j<o.size:=by rw[w.sz];omega
  have I:o[j]? =some none:=by
   unfold Array.getD at B;rw[dif_pos t] at B;rw[jY t];exact congrArg some (Option.isNone_iff_eq_none.mp B)
  have J:Own m (k+1) (o.setIfInBounds j (some k)):={by rw[Array.size_setIfInBounds];exact w.sz,by
   rw[Array.toList_setIfInBounds,zbw];exact((zhK (by rw[vR];exact I)).trans (w.pm.cons k)).trans (zgr k (List.range k)).symm}
  obtain⟨u,e1,e2⟩:=zaf hm (hs:=hs) J ()
  refine{u,?_,by rw[qH,show k+(hs.length+1)=k+1+hs.length by omega];exact e2}
  rw[List.foldl_cons,qH,show k+(hs.length+1)=k+1+hs.length by omega,<- e1]
  congr 1
  show((SetTable.layClean.free m o (SetTable.turns m) (SetTable.bits h % (m+1)) (SetTable.bits h)).bind λj=>pure (o.setIfInBounds j (some k),k+1))=_
  rw[D];rfl
theorem zd4{m:Nat}(hm:Msk m){e:Array Int}(u:e.size<=m):∃o,SetTable.layClean m e=some o/\Own m e.size o:=by
 have t:Own m 0 (Array.replicate (m+1) none):={Array.size_replicate ..,by
  rw[Array.toList_replicate];have:∀n,(List.replicate n (none:Option Nat)).filterMap id=[]:=λn=>by
   induction n with
   | zero=>rfl
   | succ n f=>exact f
  rw[this];exact .refl _}
 obtain⟨o,e1,e2⟩:=zaf hm (hs:=e.toList) t (by rw[jt];omega)
 rw[yM,jt] at e1 e2;refine{o,?_,e2}
 unfold SetTable.layClean;rw[<- Array.foldl_toList];exact congrArg (Option.map (·.1)) e1
theorem zhB{m f v:Nat}{b p:Bool}(hm:Msk m){t:Array Int}(G:t.size<=m)(H:(m=7/\t.size<=4)\/(m=31/\t.size<=18)\/(m=127/\t.size<=76)) :
  ∃B u,SetTable.laid m f v b p t=some (B,u)/\u.toList.Perm (List.range t.size)/\TabT B t.size:=by
 obtain⟨o,e,w⟩:=zd4 hm G;have e2:((List.range (m+1)).filterMap λj=>(o.getD j none).map (j,·)).map (·.2)=o.toList.filterMap id:=by
  rw[List.map_filterMap];have C:o.toList=(List.range (m+1)).map λj=>o.getD j none:=by
   refine zbA (by rw[jt,w.sz,zm,vk]) λi h1 h2=>?_
   rw[List.getElem_map,List.getElem_range];unfold Array.getD;rw[dif_pos (by rwa[jt] at h1)]
   rfl
  rw[C,List.filterMap_map];refine congrArg (λf=>List.filterMap f _) (funext λj=>?_)
  show((o.getD j none).map (j,·)).map (·.2)=id (o.getD j none)
  cases o.getD j none<;>rfl
 have A:(((List.range (m+1)).filterMap λj=>(o.getD j none).map (j,·)).map (·.2)).Perm (List.range t.size):=by rw[e2];exact w.pm
 have ln:=A.length_eq;rw[zm,vk] at ln;refine{{m,(((List.range (m+1)).filterMap λj=>(o.getD j none).map (j,·)).map λx=>x.1).toArray,#[],f,b,v,p},_,by unfold SetTable.laid;rw[e];rfl,A,?_,rfl,λj E=>?_,?_,H}
 .exact zb6 (m+1) λj=>o.getD j none
 .obtain⟨x,hx,rfl⟩:=zA.mp E
  obtain⟨y,hy,D⟩:=zbM.mp hx;obtain⟨z,_,rfl⟩:=qy.mp D;exact XM (xo.mp hy)
 .show(((List.range (m+1)).filterMap λj=>(o.getD j none).map (j,·)).map (·.1)).toArray.size=_
  rw[zW,zm,ln]
theorem TabT.putAt{t:SetTable}{n j:Nat}(h:TabT t n)(o:t.place[SetTable.below t.place j]?≠some j)(u:j<=t.mask) :
  Up (t.put j).1.place/\(t.put j).1.dummies=#[]/\(∀i∈(t.put j).1.place.toList,i<=t.mask)/\(t.put j).1.place.size=n+1:=by
 have e:=SetTable.insertAt_perm t.place (SetTable.below t.place j) j;rw[zbF] at e;refine{Vl h.up o,?_,λi f=>?_,?_}
 .show(if SetTable.has t.dummies j=true then _ else t.dummies)=#[]
  rw[h.no,Xk];rfl
 .rcases qL.mp (e.mem_iff.mp f) with z | z
  .exact h.le i z
  .rw[zR.mp z];exact u
 .have:=e.length_eq
  rw[jt,qu,jt,h.sz] at this;exact this
theorem TabT.more{t:SetTable}{n j:Nat}(h:TabT t n)(I:n<76)(D:t.place[SetTable.below t.place j]?≠some j)(G:j<=t.mask)(p:Bool) :
  (({ (t.put j).1 with plain:=p }:SetTable).tooFull=false/\TabT { (t.put j).1 with plain:=p } (n+1)) \/
  ({ (t.put j).1 with plain:=p }:SetTable).tooFull=true/\({ (t.put j).1 with plain:=p }:SetTable).fits (n+1)=true/\SetTable.sizeAbove (SetTable.grown (n+1))<=128/\∀f:Array Int,f.size=n+1 ->
   ∃u o,({ (t.put j).1 with plain:=p }:SetTable).relaid f (SetTable.grown (n+1))=some (u,o)/\o.toList.Perm (List.range f.size)/\TabT u f.size:=by
 obtain⟨a,b,c,d⟩:=h.putAt D G;have C:({ (t.put j).1 with plain:=p }:SetTable).fill=n+1:=by
  show(t.put j).1.place.size+(t.put j).1.dummies.size=n+1;rw[b,d];rfl
 have H:({ (t.put j).1 with plain:=p }:SetTable).tooFull=decide ((n+1)*5≥t.mask*3):=by
  unfold SetTable.tooFull;rw[C];rfl
 have ok:∀m,m=t.mask->((m=7/\n+1<=4)\/(m=31/\n+1<=18)\/(m=127/\n+1<=76))->TabT { (t.put j).1 with plain:=p } (n+1):=λm e w=>{a,b,c,d,by subst e;exact w}
 have A:∀w m,SetTable.sizeAbove w=m+1->Msk m->∀f:Array Int,f.size<=m->((m=7/\f.size<=4)\/(m=31/\f.size<=18)\/(m=127/\f.size<=76)) ->
   ∃u o,({ (t.put j).1 with plain:=p }:SetTable).relaid f w=some (u,o)/\o.toList.Perm (List.range f.size)/\TabT u f.size:=λw m e hm f l k=>by
  unfold SetTable.relaid;rw[show SetTable.sizeAbove w-1=m by omega]
  exact zhB hm l k
 have B:({ (t.put j).1 with plain:=p }:SetTable).fits (n+1)=true:=by
  have:=h.lt;unfold SetTable.fits;rw[jX,xY,ZY,C];exact⟨d,this⟩
 rw[H];rcases h.ms with ⟨e,l⟩ | ⟨e,l⟩ | ⟨e,l⟩
 .by_cases z:n+1<=4
  .exact .inl {jA (),ok _ rfl (.inl ⟨e,z⟩)}
  .have z:n=4:=()
   subst z;exact .inr {zY (),B,by decide +kernel,λf E=>A _ 31 (by decide +kernel) (.inr (.inl rfl)) f () (.inr (.inl {rfl,()}))}
 .by_cases z:n+1<=18
  .exact .inl {jA (),ok _ rfl (.inr (.inl ⟨e,z⟩))}
  .have z:n=18:=()
   subst z;exact .inr {zY (),B,by decide +kernel,λf E=>A _ 127 (by decide +kernel) (.inr (.inr rfl)) f () (.inr (.inr {rfl,()}))}
 .exact .inl {jA (),ok _ rfl (.inr (.inr {e,()}))}
section
variable{f:Program}{w:World}{A:Around}{E:Value->Shared->Prop}{s:Shared}
def TK(f:Program)(w:World):HeapKind f w (List Key):=tupleKind (zw f w)
def zlp(f:Program)(w:World)(p:List Key×Addr):Int×Value:=((TK f w).hash p.1,.ref p.2)
def SetT(f:Program)(w:World)(h:Heap)(a:Addr)(B:List (List Key×Addr)):Prop:=
 ∃o e u t,h.get? a=some o/\o.ExactSet/\o.data=.set e u t/\e.toList.Perm (B.map (zlp f w))/\TabT t e.size
theorem SetT.at{h u:Heap}{a:Addr}{B:List (List Key×Addr)}(x:SetT f w h a B)(k:∀o,h.get? a=some o->u.get? a=some o):SetT f w u a B:=let ⟨o,D,C,t,e,r⟩:=x;{o,D,C,t,k o e,r}
end
section
variable{X:Cx}{f A e:Expr}{o:List Expr}{scope:Scope}{t:Pos}{B:TI}{g:TG}{w:TT}{u:TE}
end
section
variable{X:Cx}{x:Str}{u:Pos}{f e:Expr}{o:List Expr}{scope:Scope}{t:Pos}{B:TI}{A:TT}{w:TE}
end
abbrev zls(h:Heap)(z TI TO:Addr)(e:Value)(f:Bool):Prop:=h.get? z=some { cls:=.type "zip",dict:=none,data:=.fields #[e,.bool f,.bool false,.ref TI,.ref TO],slots:=#[] }
abbrev ziN(h:Heap)(T:Addr)(a b c:Value):Prop:=h.get? T=some { cls:=.type "tuple",data:=.seq #[a,b,c] }
structure Z3At(h:Heap)(z TI TO i1 i2 i3 a1 a2 a3:Addr)(i:Nat):Prop where
 zz:∃f0 f1,(f0=.none\/∃t:Int,f0=rawInt t)/\zls h z TI TO f0 f1
 ti:ziN h TI (.ref i1) (.ref i2) (.ref i3)
 to:∃a b c,ziN h TO a b c
 r1:h.IsListIter i1 a1 i
 r2:h.IsListIter i2 a2 i
 r3:h.IsListIter i3 a3 i
section
variable{e:Program}{w:World}{A:Around}{E:Value->Shared->Prop}{s:Shared}
end
section
variable{X:Cx}
end
section
variable{X:Cx}{e:List (Addr×Obj)}{σ:St}{H:Hp}{s:Shared}
end
section
variable{X:Cx}
end
section
variable{G:Program}{w:World}{K:Type}[DecidableEq K](u:KeyKind G w K)
def IsTR(h:Heap)(k:List K×List K×List K)(a:Addr):Prop:=∃o n B C D,h.get? a=some o/\o.cls=.type "tuple" /\ o.data=.seq #[.ref B,.ref C,.ref D] n/\IsTupleKey u h k.1 B/\IsTupleKey u h k.2.1 C/\IsTupleKey u h k.2.2 D
def zaP(k:List K×List K×List K):Int:=reduceHash (Builtin.Tuple.tupleHashOf [tupleKeyHash u k.1,tupleKeyHash u k.2.1,tupleKeyHash u k.2.2])
variable{u}
theorem IsTR.ty{s:Shared}{k:List K×List K×List K}{a:Addr}(x:IsTR u s.heap k a):s.TypeIs (.ref a) "tuple" :=let ⟨o,_,_,_,_,p,q,_⟩:=x;⟨o,p,q⟩
theorem IsTR.inj{h:Heap}{a:Addr}{x y:List K×List K×List K}(p:IsTR u h x a)(q:IsTR u h y a):x=y:=by
 obtain⟨o,n,B,C,D,e,_,d,b,c,f⟩:=p;obtain⟨U,Q,M,N,O,H,_,t,I,J,L⟩:=q;rw[e] at H;cases H;rw[d] at t;cases t;exact ZJ (b.inj I) (ZJ (c.inj J) (f.inj L))
theorem IsTR.keeps{h J:Heap}{k:List K×List K×List K}{a d:Addr}{o:Obj}{M L}(x:IsTR u h k a)(H:h.get? d=some o)(hd:o.data=.dict M L)(I:Heap.SameBut d h J):IsTR u J k a:=by
 obtain⟨p,n,B,C,D,e,t,q,b,c,f⟩:=x;refine{p,n,B,C,D,(I.2 a λz=>?_).trans e,t,q,b.keeps H hd I,c.keeps H hd I,f.keeps H hd I}
 subst z;rw[e] at H;cases H;rw[hd] at q;exact nomatch q
variable{A:Around}{E:Value->Shared->Prop}{s:Shared}
theorem zgP{k:List K×List K×List K}{a:Addr}{Q:Int->Shared->Prop}(hu:A.units+1<cLine)(hk:IsTR u s.heap k a)(h:Q (zaP u k) { s with toks:=s.toks+(k.1.length+1+(k.2.1.length+1)+(k.2.2.length+1)+1) }) :
  wpAny (model G w) A (pyHash (.ref a)) Q E s:=by
 have ty:=hk.ty;obtain⟨o,n,B,C,D,e,t,q,b,c,f⟩:=hk;have h0:A.units<cLine:=ZU hu;unfold pyHash;first| unfold pyHashByItsType | skip
 first| refine zc (wpAny_cRoomFor_or (.inr h0) ?r) | skip
 refine zc (yH ty yR.lookup ?a1)
 refine(?a2:wpAny _ _ (if(some (Value.builtin "tuple.__hash__")==some Value.none)=true then _ else _) Q E s)
 rw[zq (by rw[beq_builtin_none];decide)]
 refine zc (yH ty yR.lookup (zc (wpAny_callSpecialIfBoundUnlessNone?_slot ty yR (jG yR ty F.entry_tuple_hash ?a3 (F.args_tuple_hash_1 _)))))
 refine(?a4:wpAny _ _ (Builtin.Tuple.tupleItemsOf (.ref a) >>= _) _ _ s)
 refine zc (yU e q (zc ?a5))
 rw[<- ZZ];simp only[wj,wO];refine zc (zc (wpAny_pyHash_tuple hu b (zg ?b1)))
 refine zc (zc (wpAny_pyHash_tuple hu (s:={ s with toks:=_ }) c (zg ?b4)))
 refine zc (zc (wpAny_pyHash_tuple hu (s:={ s with toks:=_ }) f (zg (zg ?b2))))
 refine wpAny_ret_mkInt (zak ?b3)
 simpa [zaP,Nat.add_assoc] using h
theorem zaO{x y:List K×List K×List K}{a b:Addr}{P:PySem.Fin->Shared->Prop}(hu:A.units<cLine)(hx:IsTR u s.heap x a)(hy:IsTR u s.heap y b)(h:P (.done (.ret (.bool (decide (x=y))))) s) :
  wpAny (model G w) A (Builtin.«tuple.__eq__» {[.ref a,.ref b],[]}) P E s:=by
 have ty:=hy.ty;obtain⟨o,n,B,C,D,e,_,d,O,Q,U⟩:=hx;obtain⟨o',n',B',C',D',M,_,L,H,I,J⟩:=hy;refine(?a0:wpAny _ _ (isInstance (.ref b) (.type "tuple") >>= _) _ _ s)
 refine zc (xC ty isSubtype_tuple_tuple ?a1)
 simp only[ZN,x5,if_false];refine zc (yU e d (zc (yU M L (zc ?a2))))
 simp only[W5,List.zip_nil_left,wj,wO];have N:decide (x=y)=(decide (x.1=y.1)&&(decide (x.2.1=y.2.1)&&decide (x.2.2=y.2.2))):=by
  obtain⟨Y,x2,x3⟩:=x;obtain⟨y1,y2,y3⟩:=y;by_cases z:Y=y1<;>by_cases f:x2=y2<;>by_cases t:x3=y3<;>simp[z,f,t]
 rw[N] at h;refine zc (zc (ZX hu O H ?a3))
 by_cases z:x.1=y.1
 .rw[zY z] at h ⊢
  refine zg (zc (zc (ZX hu Q I ?a4)))
  by_cases f:x.2.1=y.2.1
  .rw[zY f] at h ⊢
   refine zg (zc (zc (ZX hu U J ?a5)))
   by_cases t:x.2.2=y.2.2
   .rw[zY t] at h ⊢
    exact zg (zg (zg h))
   .rw[jA t] at h ⊢
    exact zc (zg (zg (zg (zg h))))
  .rw[jA f] at h ⊢
   exact zc (zg (zg (zg (zg h))))
 .rw[jA z] at h ⊢
  exact zc (zg (zg (zg (zg h))))
theorem zj5{x y:List K×List K×List K}{a b:Addr}{Q:Bool->Shared->Prop}(hu:A.units+1<cLine)(hx:IsTR u s.heap x a)(hy:IsTR u s.heap y b)(h:Q (decide (x=y)) s) :
  wpAny (model G w) A (eqBool (.ref a) (.ref b)) Q E s:=by
 unfold eqBool;try with_reducible refine jy ?h0
 refine(?h1:wpAny _ _ (if(Value.ref a==Value.ref b)=true then _ else _) Q E s)
 by_cases z:(Value.ref a==Value.ref b)=true
 .rw[zt z]
  have e:a=b:=by have:=eq_of_beq z;injection this
  subst e;cases hx.inj hy;refine zc (j9 (zg ?h2))
  rw[zY rfl] at h;exact h
 .rw[zq z]
  refine zc (wpAny_richCompare_same_room (op:=.Eq) hx.ty hy.ty ZO (jG ZO hx.ty F.entry_tuple_eq ?h3 (F.args_tuple_eq_2 _ _)) (ZU hu))
  exact zaO hu hx hy {_,rfl,(λe=>nomatch e),yc h}
theorem zeE{k:List K×List K×List K}{a:Addr}{Q:Bool->Shared->Prop}(hk:IsTR u s.heap k a)(h:Q true s):wpAny (model G w) A (eqIsQuiet 8 (.ref a)) Q E s:=by
 have ty:=hk.ty;obtain⟨o,n,B,C,D,e,_,d,b,c,f⟩:=hk;unfold eqIsQuiet;refine zc (yH ty ZO.lookup (?q0:wpAny _ _ (isInstance (.ref a) (.type "tuple") >>= _) _ _ s))
 refine zc (xC ty isSubtype_tuple_tuple ?q1)
 simp only[ZN,x5,if_false];refine zc (xc e d (zc (?q2:wpAny _ _ (forIn (#[Value.ref B,Value.ref C,Value.ref D]) _ _) _ _ s)))
 rw[<- ZZ];simp only[wj,wO];exact zc (zc (yo b (zg (zc (zc (yo c (zg (zc (zc (yo f (zg (zg (zg h)))))))))))))
end
def vI{e:Program}{w:World}{K:Type}[DecidableEq K](f:KeyKind e w K):HeapKind e w (List K×List K×List K) where
 is:=IsTR f
 hash:=zaP f
 draws:=λk=>k.1.length+1+(k.2.1.length+1)+(k.2.2.length+1)+1
 room:=λA=>A.units+1<cLine
 inj:=λp q=>p.inj q
 keeps:=λx a b c=>x.keeps a b c
 pyHash:=λa b c=>zgP a b c
 eqBool:=λa b c d=>zj5 a b c d
 quiet:=λa b=>zeE a b
end L2
namespace L2
open PySem PySem.Spec PyProof.Rows PySem.W
abbrev TKy:=List Key×List Key×List Key
abbrev TEs:=List (TKy×Addr×Int×Tok)
def ZB(e:TEs):List (TKy×Addr×Value):=e.map λx=>(x.1,x.2.1,.int x.2.2.1 x.2.2.2)
def lkT(e:TEs)(k:TKy):Option (Addr×Int×Tok):=(e.find? λx=>decide (x.1=k)).map (·.2)
def stT(e:TEs)(k:TKy)(a:Addr)(v:Int×Tok):TEs:=if(lkT e k).isSome=true then e.map (λx=>if x.1=k then(x.1,x.2.1,v) else x) else e++[(k,a,v)]
theorem Jx(k:TKy):∀f:TEs,atKey (ZB f) k=(lkT f k).map λp=>(p.1,Value.int p.2.1 p.2.2)
 | []=>rfl
 | x::f=>by
  have o:=Jx k f;unfold atKey lkT ZB at *
  by_cases e:x.1=k
  .simp[wu,e]
  .simp only[jR,wu,e,decide_false]
   exact o
theorem zcE(f:TEs)(k:TKy)(a:Addr)(v:Int×Tok):ZB (stT f k a v)=storedH (ZB f) k a (.int v.1 v.2):=by
 unfold stT storedH;rw[Jx,W3];by_cases e:(lkT f k).isSome=true
 .rw[zt e,zt e]
  unfold ZB;rw[qK,qK];refine QR λx _=>?_
  by_cases z:x.1=k
  .simp[putAt,z]
  .simp[putAt,z]
 .rw[zq e,zq e]
  unfold ZB;rw[zG];rfl
theorem VD(e:TEs):(ZB e).map (·.1)=e.map (·.1):=by unfold ZB;rw[qK];rfl
theorem zgX(e:TEs)(k:TKy)(a:Addr)(v:Int×Tok):(stT e k a v).length<=e.length+1:=by
 unfold stT;split
 .rw[zm];exact xH _
 .rw[qu];exact zx _
def DtO(P:Program)(w:World)(a:Addr)(o:Obj)(e:TEs):Prop:=(a==sysModules)=false/\e.length<=sizeLine/\o.ExactDict/\(e.map (·.1)).Nodup/\∃f t,o.data=.dict f t/\f.toList=(ZB e).map (entryOfKey (vI (zw P w)))
def dTr(P:Program)(w:World)(a:Addr)(o:Obj)(e:TEs):HO:=.ext λh=>h.get? a=some o/\DtO P w a o e
theorem zgg{P:Program}{w:World}{H:Hp}{h:Heap}{a:Addr}{o:Obj}{f:TEs}(e:h.get? a=some o)(d:DtO P w a o f):ObjOk P w H h a (dTr P w a o f):=
 {⟨e,d⟩,⟨o,e⟩,λh1 h2 x k=>{k o x.1,x.2}}
def TrAt(K:W.Frag)(H:Hp)(k:TKy)(a:Addr):Prop:=∃B C D,SqT K H a [.ref B,.ref C,.ref D]/\SqT K H B (k.1.map kV)/\SqT K H C (k.2.1.map kV)/\SqT K H D (k.2.2.map kV)
def zaC(K:W.Frag)(H:Hp)(e:TEs):Prop:=∀x∈e,TrAt K H x.1 x.2.1
section
variable{X:Cx}{A:List (Addr×Obj)}{σ:St}{H:Hp}{s:Shared}
theorem Yz{a:Addr}{k:TKy}(I:Inv X A σ H s)(h:TrAt X.K H k a):IsTR 0#x s.heap k a:=by
 obtain⟨B,C,D,h0,h1,h2,h3⟩:=h;obtain⟨w,r,⟨o,e,t,n,d⟩,_⟩:=I.tuple h0;cases r with
 | @cons _ u _ _ E r=>
  cases r with
  | @cons _ L _ _ G r=>
   cases r with
   | @cons _ f _ _ J r=>
    cases r;cases(show u=Value.ref B from E)
    cases(show L=Value.ref C from G)
    cases(show f=Value.ref D from J)
    exact{o,n,B,C,D,e,t,d,YA I h1,YA I h2,YA I h3}
theorem Xn{a:Addr}{o:Obj}{f:TEs}(I:Inv X A σ H s)(e:H a=some (dTr X.prog X.w a o f)):s.heap.get? a=some o/\DtO X.prog X.w a o f:=(show ObjOk X.prog X.w H s.heap a (dTr X.prog X.w a o f) from I.hok a _ e).1
theorem WG{a:Addr}{o:Obj}{f:TEs}(I:Inv X A σ H s)(e:H a=some (dTr X.prog X.w a o f))(B:zaC X.K H f):s.heap.DictOfH (vI 0#x) a (ZB f):=by
 obtain⟨e1,_,_,w,C,u,t,h1,h2⟩:=Xn I e;refine{o,u,t,e1,w,h1,h2,λx hx=>?_,by rw[VD];exact C}
 obtain⟨y,hy,rfl⟩:=zA.mp hx;exact Yz I (B y hy)
theorem zc5{a b:Addr}{v:Int×Tok}{o:Obj}{f:TEs}{k:TKy}{u:Heap}{t':Nat}(I:Inv X A σ H s)(e:H a=some (dTr X.prog X.w a o f))(J:f.length<sizeLine)
  (w:u.DictOfH (vI 0#x) a (storedH (ZB f) k b (.int v.1 v.2))) (G:Heap.SameBut a s.heap u):∃t,Inv X A σ (upd H a (dTr X.prog X.w a t (stT f k b v))) { s with heap:=u,toks:=t' }:=by
 obtain⟨_,lo,_⟩:=Xn I e;obtain⟨t,C,B,h1,h2,h3,D,_,E⟩:=w;refine{t,wf I (by rw[e];exact True.intro) G ⟨t,h1⟩ (zgg h1 {lo,?_,h2,?_,C,B,h3,?_})}
 .have:=zgX f k b v;omega
 .rw[<- VD,zcE];exact E
 .rw[zcE];exact D
def zgT(P:Program)(w:World):TE:=λ_ H Q=>∀p o,H p=none->Q (.ref p) (upd H p (dTr P w p o []))
theorem zc6{H:Hp}{P:Program}{w:World}(h:Heap)(hb:sysModules<h.objs.size):ObjOk P w H (h.push { cls:=.type "dict",data:=.dict #[] }) h.objs.size (dTr P w h.objs.size { cls:=.type "dict",data:=.dict #[] } []):=
 zgg (qo _ rfl) {beq_eq_false_iff_ne.mpr (zS (zN hb)),qJ _,⟨rfl,rfl,rfl⟩,vU,#[],0,rfl,rfl}
theorem zdQ{e:Pos}:PE X (.Dict [] [] e) (zgT X.prog X.w):=by
 intro A s σ H Q I q;have f:=I.hok.fresh (zx s.heap.objs.size);exact wpAny_Dict_empty {.ref s.heap.objs.size,_,I.laid (t':=s.toks) (λ_ _ q=>zH _ q) (zx _) (zc6 s.heap I.big),rfl,q _ _ f}
inductive zfb(P:Program)(w:World)(K:W.Frag)(x i v:V)(H:Hp)(Q:Hp->Prop):Prop
 | mk (a b:Addr) (c:Int) (o:Obj) (e:TEs) (k:TKy) (_:x=.ref a) (_:i=.ref b) (_:v=.int c) (_:H a=some (dTr P w a o e)) (_:zaC K H e) (_:TrAt K H k b) (_:e.length<sizeLine) (_:∀f t,Q (upd H a (dTr P w a f (stT e k b (c,t))))):zfb P w K x i v H Q
theorem zg1(hu:X.A.units+2<cLine):zh3 X (zfb X.prog X.w X.K):=by
 intro A s σ H x i v ov iv u Q I N M O h;obtain⟨a,b,c,o,U,k,rfl,rfl,rfl,e,J,G,f,q⟩:=h;cases N;cases M;obtain⟨t,rfl⟩:=(show ∃t,u=Value.int c t from O)
 have E:(ZB U).length<=sizeLine:=by unfold ZB;rw[zm];exact yN f
 refine wpAny_setItem_heap (hsz:=E) (show(vI 0#x).room X.A.in1 from hu) (Yz I G) (WG I e J) λY B C=>?_
 obtain⟨L,w⟩:=zc5 (v:=(c,t)) (t':=_) I e f B C;exact{_,w,q L t}
def zkp(P:Program)(w:World)(K:W.Frag)(u ty B:TE):TS:=λD σ H=>B σ H λv e=>u σ e λx f=>ty σ f λi o=>zfb P w K x i v o λt=>D.nx σ t
theorem zdO{o i e:Expr}{w ty B:TE}{t f:Pos}(hu:X.A.units+2<cLine)(U:PE X o w)(Q:PE X i ty)(hv:PE X e B)(Y:swapsWith e (some (.Subscript o i f)) t.line X.env=pure false) :
  PS X (.Assign [.Subscript o i f] e t) (zkp X.prog X.w X.K w ty B):=by
 intro A s σ H D I h;refine wpAny_Assign_Subscript (thn (hv A s σ H _ I h) λr s1 ⟨v,C,L,rv,q1⟩=>thn (U A s1 σ C _ L q1) λu s2 ⟨x,E,M,rx,q2⟩=>thn (Q A s2 σ E _ M q2) λiv s3 ⟨y,G,N,ry,q3⟩=>?_) Y
 exact thn (zg1 hu A s3 σ G x y v u iv r _ N rx ry rv q3) λ_ s4 ⟨J,O,q4⟩=>⟨σ,J,O,q4⟩
inductive ziz(P:Program)(w:World)(K:W.Frag)(a:Addr)(i z:V)(H:Hp)(Q:VK):Prop
 | mk (b:Addr) (o:Obj) (e:TEs) (k:TKy) (_:i=.ref b) (_:H a=some (dTr P w a o e)) (_:zaC K H e) (_:TrAt K H k b) (_:Q (((lkT e k).map λp=>V.int p.2.1).getD z) H):ziz P w K a i z H Q
inductive zkw(P:Program)(w:World)(x:V)(H:Hp)(Q:Addr->Hp->Prop):Prop
 | mk (a:Addr) (o:Obj) (e:TEs) (_:x=.ref a) (_:H a=some (dTr P w a o e)) (_:Q a H):zkw P w x H Q
def zka(P:Program)(w:World)(K:W.Frag)(t ty u:TE):TE:=λσ H Q=>t σ H λx e=>zkw P w x e λa e=>ty σ e λy f=>u σ f λz o=>ziz P w K a y z o Q
theorem zdS{o e f:Expr}{t w:Pos}{M ty N:TE}(hu:X.A.units+2<cLine)(ho:PE X o M)(he:PE X e ty)(hf:PE X f N)(m:M2 X o "get" t e f w):PE X (.Call (.Attribute o "get" t) [e,f] [] w) (zka X.prog X.w X.K M ty N):=by
 intro A s σ H Q I h;refine wpAny_Call_method m.base m.few m.line QV Z1 zbQ (thn (ho A s σ H _ I h) λu s1 ⟨x,O,C,rx,q1⟩=>?_)
 obtain⟨a,L,aa,rfl,e1,q1⟩:=q1;cases rx;obtain⟨J,D⟩:=Xn C e1;refine{⟨L,J,D.2.2.1.1⟩,λb q=>?_,?_}
 .cases q;exact⟨L,J,D.2.2.1.2.1⟩
 rw[m.trees];refine Z2 rfl (QT (ye (thn (he A s1 σ O _ C q1) λiv s2 ⟨y,U,I2,ry,q2⟩=>ye (thn (hf A s2 σ U _ I2 q2) λfv s3 ⟨z,Y,B,rz,q3⟩=>yT ?_))))
 obtain⟨b,o3,xs,k,rfl,G,ks,kb,q⟩:=q3;cases ry;have E:=WG B G ks;refine call_meetsIn Z1 E.typeIs Ye (Yi _ _ _) (meetsH_dict_get_default (vI 0#x) a b (Xn B G).2.1 fv) {hu,k,_,Yz B kb,E,_,Y,B.tok _,?_,q}
 rw[Jx,Option.map_map];cases lkT xs k with
 | none=>exact rz
 | some p=>exact{_,rfl}
inductive ziv(P:Program)(w:World)(K:W.Frag)(x i:V)(H:Hp)(Q:VK):Prop
 | mk (a b:Addr) (o:Obj) (e:TEs) (k:TKy) (p:Addr×Int×Tok) (_:x=.ref a) (_:i=.ref b) (_:H a=some (dTr P w a o e)) (_:zaC K H e) (_:TrAt K H k b) (_:lkT e k=some p) (_:Q (.int p.2.1) H):ziv P w K x i H Q
def zib(P:Program)(w:World)(K:W.Frag)(o ty:TE):TE:=λσ H Q=>o σ H λx e=>ty σ e λy f=>ziv P w K x y f Q
theorem VG{o i:Expr}{t:Pos}{B ty:TE}(hu:X.A.units+2<cLine)(J:PE X o B)(G:PE X i ty)(L:zh4 i):PE X (.Subscript o i t) (zib X.prog X.w X.K B ty):=by
 intro A s σ H Q I h;refine zca zgp.lookup L (thn (J A s σ H _ I h) λu s1 ⟨x,C,E,O,q1⟩=>thn (G A s1 σ C _ E q1) λY s2 ⟨y,D,f,U,q2⟩=>?_)
 obtain⟨a,b,o',xs,k,p,rfl,rfl,e,N,M,hp,q⟩:=q2;cases O;cases U;have w:=WG f e N;refine{w.typeIs,?_}
 refine wpAny_getItem_heap (show(vI 0#x).room X.A.in1 from hu) (Yz f M) w (p:=(p.1,Value.int p.2.1 p.2.2)) (by rw[Jx,hp];rfl) ?_
 exact{.int p.2.1,D,f.tok _,{_,rfl},q}
theorem za4{P:Program}{w:World}{K:W.Frag}{o i:Expr}{e:Pos}{f ty:TE}(h:X.prog=P/\X.w=w/\X.K=K)(hu:X.A.units+2<cLine)(u:PE X o f)(t:PE X i ty)(B:zh4 i):PE X (.Subscript o i e) (zib P w K f ty):=by
 obtain⟨rfl,rfl,rfl⟩:=h;exact VG hu u t B
inductive zfd(P:Program)(w:World)(K:W.Frag)(p:Addr)(e:List (V×V))(H:Hp)(Q:VK):Prop
 | mk (b:Addr) (c:Int) (o:Obj) (k:TKy) (_:e=[(.ref b,.int c)]) (_:H p=some (dTr P w p o [])) (_:TrAt K H k b) (_:∀f t,Q (.ref p) (upd H p (dTr P w p f [(k,b,c,t)]))):zfd P w K p e H Q
def ziT(P:Program)(w:World)(K:W.Frag)(t u:TE):TE:=λσ H Q=>∀p o,H p=none->Zy [(t,u)] σ (upd H p (dTr P w p o [])) λf e=>zfd P w K p f e Q
theorem zdR{f:Pos}{k v:Expr}{D E:TE}(hu:X.A.units+2<cLine)(hk:PE X k D)(Y:PE X v E):PE X (.Dict [some k] [v] f) (ziT X.prog X.w X.K D E):=by
 intro A s σ H Q I q;have N:=I.hok.fresh (zx s.heap.objs.size);have J:=I.laid (a:=s.heap.objs.size) (t':=s.toks) (λ_ _ q=>zH _ q) (zx _) (zc6 s.heap I.big)
 refine wpAny_Dict_any rfl rfl 1e3 (show 1<=15 by decide) (thn (JV (pos:=f) hk Y Wl A _ σ _ _ J (q _ _ N)) λws s2 ⟨ps,H2,w,C,q2⟩=>?_)
 obtain⟨b,c,o,kk,rfl,e,L,q3⟩:=q2;cases C with
 | @cons _ w0 _ _ h t=>
  cases t;obtain⟨u,r⟩:=w0;obtain⟨ru,rr⟩:=h;cases(show u=Value.ref b from ru)
  obtain⟨t,M⟩:=(show ∃t,r=Value.int c t from rr)
  cases M;unfold storeAll;rw[wj];refine zc (zc (wpAny_dictSet_heap (hsz:=qJ _) (knd:=vI 0#x) (show X.A.units+1<cLine from ZU hu) (Yz w L) (WG w e λ_ z=>nomatch z) λh' B O=>zg ?_))
  dsimp only;rw[wO];obtain⟨o',G⟩:=zc5 (v:=(c,t)) (t':=_) w e (by rw[sizeLine_eq];exact(by decide:0<16777216)) B O
  exact zg {.ref s.heap.objs.size,_,G,rfl,q3 o' t}
inductive Zv(P:Program)(w:World)(f:List V)(H:Hp)(Q:VK):Prop
 | mk (a:Addr) (o:Obj) (e:TEs) (_:f=[.ref a]) (_:H a=some (dTr P w a o e)) (_:∀p:Addr,H p=none->Q (.ref p) (upd H p (.lst (e.map λx=>V.ref x.2.1)))):Zv P w f H Q
theorem Jc(O:X.A.handled=none):jD X (.type "list") (Zv X.prog X.w):=by
 intro A s σ H xs us Q I r h;obtain⟨a,o,C,rfl,hx,q⟩:=h;obtain⟨u,rfl,ru⟩:=ua r;cases(show u=Value.ref a from ru)
 obtain⟨N,lo,ln,M,nd,D,G,h1,h2⟩:=Xn I hx;have J:PySem.RawD s.heap a D G:=⟨o,N,M,h1⟩;have sz:D.size=C.length:=by rw[<- jt,h2,zm];unfold ZB;rw[zm]
 refine PySem.W.kdl_call (zg4 (prog:=X.prog) (w:=X.w) (es:=D) (ep:=G) lo) O J () λh' tk f c B E t=>?_
 have U:H s.heap.objs.size=none:=I.hok.fresh (zx _);refine{.ref s.heap.objs.size,_,I.laid (a:=s.heap.objs.size) (o:=.lst (C.map λx=>V.ref x.2.1)) (t':=tk) B (zx _) {by rw[zm];exact ln,f.toList,c,V8 ?_ ?_,by rw[E]},rfl,q _ U}
 .have z:=t.1
  have y:f.toList.length=f.size:=jt;rw[zm];omega
 .intro j u e
  rw[vR] at e;obtain⟨en,e1,e2⟩:=t.2 j u e;rw[<- vR,h2,zT] at e1;obtain⟨y,hy,rfl⟩:=qy.mp e1;unfold ZB at hy;rw[zT] at hy;obtain⟨z,Y,rfl⟩:=qy.mp hy;exact{.ref z.2.1,by rw[zT,Y];rfl,e2}
end
end L2
namespace L2
open PySem PySem.Spec PyProof.Rows
def BoxAt(H:Hp)(b:Addr)(n:Int):Prop:=∃e b1 b2:Int,H b=some (.lst [.int e,.int b1,.int b2])/\0<=e/\0<=b1/\b1<2147483648/\0<=b2/\b2<=n
def SameB(b:Addr)(H e:Hp):Prop:=∀c o,H c=some o->c≠b->e c=some o
theorem Qj{i j:Int}(h1:0<=i)(h2:i<18446744073709551616):CMul i j:=by
 have e1:(-(2^64):Int)= -18446744073709551616:=1e1
 have e2:((2^64):Int)=18446744073709551616:=1e1
 refine .inl {?_,?_}
 .rw[e1];omega
 .rw[e2];exact h2
theorem ziM{a m j:Int}(h:0<m)(h2:m<18446744073709551616):CMul (a % m) j:=Qj (wt _ ()) (Int.lt_trans (Zt _ h) h2)
section
variable{P:Program}{w:World}{K:W.Frag}{D:Str->Option Value}{C:Heap}
inductive YB(o:List V)(H:Hp)(Q:VK):Prop
 | mk (b:Addr) (e n:Int) (_:o=[.ref b,.int e]) (_:BoxAt H b n) (_:n<1099511627776) (_:0<e) (_:e<1073741824) (_:∀(r:Int) f,0<=r->r<e->BoxAt f b (n+1)->SameB b H f->Q (.int r) f):YB  o H Q
def wm:Sp:=λe H Q _=>YB  e H Q
theorem u4{N P:List Str}{S:Scope}(a:S.kind=.function:=by rfl)(b:S.isCoroutine=false:=by rfl)(c:S.isGenerator=false:=by rfl)(d:N.Nodup:=by decide +kernel)(e:N.take P.length=P:=by rfl)(f:∀x∈P,S.names.lookup x=some .local∨S.names.lookup x=some .cell:=by decide +kernel)(g:∀y∈S.names,y.2≠.free:=by decide +kernel):zM N P S:=⟨a,b,c,d,e,f,g⟩
theorem zeW:zM ["_law_box_here","_law_size","_law_found","_law_step","_law_once","_law_twice"] ["_law_box_here","_law_size"] (zv (topL 18)):=u4
theorem zhl{f:Addr}{U:FuncData}(F:Fun K "_law_take" "_law_take" (topL 18) f U)(B:Blt D):FnOk P w K D C CX0 1 f U ["_law_box_here","_law_size"] wm:=by
 have J:=zeW.nd;refine F.ok zeW 0#i (λaa A O s H vs Q E hr h=>?_)
 .obtain⟨b,I,n,rfl,_⟩:=h
  rfl
 .obtain⟨b,I,n,rfl,⟨L,b1,b2,hb,Y,p1,G,p2,ab⟩,hn,u,N,k⟩:=h
  refine{_,(zi (xu (qG ziE (zu qR (pv 0) zf 0#d) zf (qO _))
   (zi (JU (zr zau rfl B.divmod zaw (za (zu qR (pv 0) zf 0#d) 0#K)) (jP rfl (zD (za1 (pv 0) zf JS) (zD (zy (i:=2) J rfl 0#z) jw))))
    (zp (zJ (pv 2))))
   jk)
   (zi (JU (zE qN (zu qR (pv 0) zf 0#d) zf) (za1 (pv 0) zf JS))
   (zi (zI (i:=3) J rfl 0#z (zE qN zf (zE xR (zu qR (pv 0) zf 0#d) (zu qR (pv 0) zf 0#d))))
   (zi (zI (i:=4) J rfl 0#z (zE vc (zE xR (zE qN (zu qR (pv 0) zf 0#d) (zE xR zf (zu qR (pv 0) zf 0#d))) (pv 3)) zf))
   (zi (zI (i:=5) J rfl 0#z (zE vc (zE qN (zE xR (pv 4) (zE qN (zE vc (pv 4) zf) zf)) (zu qR (pv 0) zf 0#d)) zf))
   (zp (zJ (zE vc (zE zcM (zE vc (zE xR (pv 5) (zE qN (zE vc (pv 5) zf) zf)) zf) zf) (pv 1))))))))),?_}
  refine{_,rfl,b,_,_,_,rfl,rfl,u5 hb,rfl,_,_,rfl,rfl,_,rfl,?_}
  refine wo (λc=>?_) (λc=>?_)
  .refine{_,rfl,b,_,_,_,rfl,rfl,u5 hb,rfl,_,rfl,_,_,rfl,⟨u,N⟩,λp hp=>?_}
   have M:b≠p:=zk hb hp;refine{p,_,rfl,u6 zd,rfl,_,_,rfl,_,rfl,b,_,_,_,rfl,rfl,(by rw[zj M];exact hb),rfl,_,_,rfl,rfl,_,rfl,?_}
   refine k _ _ (wt _ ()) (Zt _ u) {_,b1,b2,zd,Int.ediv_nonneg Y (),p1,G,p2,()} λd o e hd=>?_
   rw[zj hd,zj (zk e hp)];exact e
  .refine{_,rfl,b,_,_,_,rfl,rfl,u5 hb,rfl,_,_,rfl,rfl,_,rfl,b,_,_,_,rfl,rfl,hb,rfl,?_}
   have t:upd H b (.lst [.int L,.int b1,.int (b2+1)]) b=some (.lst [.int L,.int b1,.int (b2+1)]):=zd;refine{_,rfl,b,_,_,_,rfl,rfl,u5 t,rfl,_,rfl,b,_,_,_,rfl,rfl,u5 t,rfl,_,_,rfl,rfl,Qj () (),_,_,rfl,rfl,?_}
   refine{_,rfl,b,_,_,_,rfl,rfl,u5 t,rfl,_,rfl,b,_,_,_,rfl,rfl,u5 t,rfl,_,_,rfl,rfl,Qj () (),_,_,rfl,rfl,_,rfl,_,_,rfl,rfl,Qj () (),_,_,rfl,rfl,(by show(0:Int)<_;decide),?_}
   refine{_,rfl,_,rfl,_,_,rfl,rfl,(by show(0:Int)<_;decide),_,_,rfl,rfl,_,_,rfl,rfl,ziM 1e1 1e1,_,rfl,b,_,_,_,rfl,rfl,u5 t,rfl,_,_,rfl,rfl,_,_,rfl,rfl,(by show(0:Int)<_;decide),?_}
   refine{_,rfl,_,rfl,_,_,rfl,rfl,(by show(0:Int)<_;decide),_,_,rfl,rfl,_,_,rfl,rfl,ziM 1e1 1e1,_,_,rfl,rfl,(by show(0:Int)<_;decide),_,_,rfl,rfl,{1e1,1e1},_,rfl,_,_,rfl,rfl,u,?_}
   refine k _ _ (wt _ ()) (Zt _ u) {L,b1,b2+1,t,Y,p1,G,(),()} λd o e hd=>?_
   rw[zj hd];exact e
inductive zcr(K:W.Frag)(e:List V)(H:Hp)(Q:VK):Prop
 | mk (a:Addr) (f:List Int) (j:Nat) (_:e=[.ref a,.int j]) (_:SqL K H a (f.map V.int)) (_:j<=100) (_:∀p o,H p=none->BoxAt (upd H p o) p 0->Q (.ref p) (upd H p o)):zcr K e H Q
def zig(K:W.Frag):Sp:=λe H Q _=>zcr K e H Q
theorem zis:zM ["_law_script","_law_k","_law_cell"] ["_law_script","_law_k"] (zv (topL 17)):=u4
theorem zde{c:Int}{j:Nat}(e:j<=100):CMul (Zk c) (if decide (10^18<=Zk c)=true then 1 else 0):=by
 refine .inr ?_
 split
 .exact{1e1,1e1}
 .exact{1e1,1e1}
theorem zgl{c:Int}:0<=Zk c*(if decide (10^18<=Zk c)=true then 1 else 0):=by
 have h:0<=Zk c:=by unfold Zk;split<;>omega
 split
 .rw[Int.mul_one];exact h
 .rw[Int.mul_zero];exact vd 0
theorem zjx{f:Addr}{t:FuncData}(F:Fun K "_law_box" "_law_box" (topL 17) f t)(B:Blt D):FnOk P w K D C CX0 1 f t ["_law_script","_law_k"] (zig K):=by
 have L:=zis.nd;refine F.ok zis (λM H Q E h=>?_) (λI A o s H M Q E N h=>?_)
 .obtain⟨a,e,j,rfl,_⟩:=h
  rfl
 .obtain⟨a,e,j,rfl,u,G,k⟩:=h
  refine{_,(zi (zI (i:=2) L rfl 0#z (yu (qG Y1 (pv 1) (zr zC rfl B.len boot_len (za (pv 0) ze)) (qO _)) (zu qR (pv 0) (pv 1) 0#d) zf))
   (zp (zJ (je (za (zE xR (zr wL rfl B.abs wM (za (pv 2) ze)) (qh Zg rfl B.int yF (za (xz zkG (zr wL rfl B.abs wM (za (pv 2) ze)) (zE zfw zf zf) (qO _)) ze))) (za (zE vc (zE xR (zE qN (zE qN (zE vc (pv 2) zf) (zE xR zf (pv 1))) zf) zf) zf) (za zf ze))))))),?_}
  refine{_,rfl,_,rfl,a,_,rfl,.inl u,_,_,rfl,rfl,_,rfl,?_}
  refine wo (λc=>?_) (λc=>?_)
  .have J:j<e.length:=by
    have:=xF c;rw[zm] at this;omega
   refine{_,rfl,_,rfl,a,_,_,.int e[j],rfl,rfl,u,jI (by simp[J]),?_}
   generalize e[j]=z;refine{_,rfl,_,rfl,_,rfl,_,rfl,_,_,rfl,rfl,{1e1,1e1,1e1},_,_,rfl,rfl,.inr {_,rfl,_,_,rfl,rfl,zde G,_,rfl,_,_,rfl,rfl,(by show(0:Int)<_;decide),_,rfl,_,_,rfl,rfl,Qj 1e1 1e1,_,_,rfl,rfl,_,_,rfl,rfl,_,_,rfl,rfl,?_,_,_,rfl,rfl,(by show(0:Int)<_;decide),(by rw[sizeLine_eq];exact(by decide:3<=16777216)),λp hp=>k p _ hp {_,_,_,zd,?_,?_,?_,1e1,1e1}}}
   .refine Qj ?_ ?_
    .have:=wt z (show(2147483629:Int)≠0 by decide)
     omega
    .have:=Zt z (show(0:Int)<2147483629 by decide)
     omega
   .exact zgl
   .exact wt _ 1e1
   .exact Int.lt_trans (Zt _ 1e1) 1e1
  .refine{_,rfl,_,rfl,_,rfl,_,rfl,_,_,rfl,rfl,{1e1,1e1,1e1},_,_,rfl,rfl,.inr {_,rfl,_,_,rfl,rfl,zde G,_,rfl,_,_,rfl,rfl,(by show(0:Int)<_;decide),_,rfl,_,_,rfl,rfl,Qj 1e1 1e1,_,_,rfl,rfl,_,_,rfl,rfl,_,_,rfl,rfl,?_,_,_,rfl,rfl,(by show(0:Int)<_;decide),(by rw[sizeLine_eq];exact(by decide:3<=16777216)),λp hp=>k p _ hp {_,_,_,zd,?_,?_,?_,1e1,1e1}}}
   .refine Qj ?_ ?_
    .have:=wt 0 (show(2147483629:Int)≠0 by decide)
     omega
    .have:=Zt 0 (show(0:Int)<2147483629 by decide)
     omega
   .exact zgl
   .exact wt _ 1e1
   .exact Int.lt_trans (Zt _ 1e1) 1e1
theorem zgh{e:List V}{lo f:Option Int}{x:V}(h:x∈jS e lo f):x∈e:=List.mem_of_mem_drop (QS h)
theorem zhH{n j:Nat}(h:j<n):ixN n (j:Int)=some j:=by
 unfold ixN;rw[zt (),zt ()];simp
theorem zgi(e:List Int)(lo f:Option Int):∃o:List Int,jS (e.map V.int) lo f=o.map V.int:=by
 refine{(e.drop (HT.sIx e.length 0 lo)).take (HT.sIx e.length e.length f-HT.sIx e.length 0 lo),?_}
 unfold jS;rw[zm,List.map_take,List.map_drop]
theorem zhT(e:List Int)(z:Nat):(jS (e.map V.int) none (some (z:Int))).length=min z e.length:=by
 unfold jS;rw[HT.sIx_nat,HT.sIx_none,jb,ZT,zm];omega
theorem zhU(e:List Int)(z:Nat)(f:Option Int):(jS (e.map V.int) (some (z:Int)) f).length<=e.length-min z e.length:=by
 unfold jS;rw[HT.sIx_nat,jb,ZT,zm];omega
inductive YK(K:W.Frag)(t:List V)(H:Hp)(Q:VK):Prop
 | mk (a:Addr) (o:List Int) (z:Nat) (_:t=[.ref a,.int z]) (_:SqL K H a (o.map V.int)) (_:o.length<=63) (_:1<=z) (_:z<=63) (_:∀(p:Addr) (f:List Int) e,Same H e->SqL K e p (f.map V.int)->f.length<=z->Q (.ref p) e):YK K t H Q
def zeP(K:W.Frag):Sp:=λe H Q _=>YK K e H Q
theorem ze3:zM ["_law_script","_law_size","_law_cells","_law_k","_law_cell"] ["_law_script","_law_size"] (zv (topL 19)):=u4
def zdv(a:_)(z:Nat)(p:_)(H:_)(q:_)(o:List Int):=λ(i:Nat) (σ:St) (e:Hp)=>(Ex3 λ(f:List Int) (t u:Option V)=>An5 (σ=[some (.ref a),some (.int z),some (.ref p),t,u]) (Same H e) (e p=some (.lst (f.map V.int))) (e q=some (.lst (jS (o.map V.int) (some (z:Int)) (some 63)))) (f.length=min z o.length):Prop)
theorem zht{f:Addr}{fd:FuncData}(F:Fun K "_law_folded" "_law_folded" (topL 19) f fd)(B:Blt D):FnOk P w K D C CX0 1 f fd ["_law_script","_law_size"] (zeP K):=by
 have nd:=ze3.nd;refine F.ok ze3 0#i (λah A af s H vs Q E hr h=>?_)
 .obtain⟨a,t,z,rfl,_⟩:=h
  rfl
 .obtain⟨a,t,z,rfl,hS,ag,aj,ak,k⟩:=h
  refine{_,(zi (zI (i:=2) nd rfl 0#z (qh Qk rfl B.list xm (za (xX y4 (pv 0) wT (vq (pv 1))) ze)))
   (zi (qM jz rfl (zha rfl B.enumerate (za (xX y4 (pv 0) (vq (pv 1)) (vq zf)) ze)) (jP rfl (zD (zy (i:=3) nd rfl 0#z) (zD (zy (i:=4) nd rfl 0#z) jw)))
   (zp (JU (zE qN (zu qR (pv 2) (zE vc (pv 3) (pv 1)) 0#d) (zE xR (pv 4) (zE qN (pv 3) zf))) (za1 (pv 2) (zE vc (pv 3) (pv 1)) JS))))
   (zp (zJ (pv 2))))),?_}
  refine{_,rfl,_,rfl,_,rfl,a,_,rfl,hS,λl hl=>{l,_,rfl,.inl (u5 zd),λp hp=>?_}}
  have s1:Same H (upd (upd H l (.lst (jS (t.map V.int) none (some (z:Int))))) p (.lst (jS (t.map V.int) none (some (z:Int))))):=(zb hl).trans (zb hp);generalize aa:upd (upd H l (.lst (jS (t.map V.int) none (some (z:Int))))) p (.lst (jS (t.map V.int) none (some (z:Int))))=H1 at s1;have M:H1 p=some (.lst (jS (t.map V.int) none (some (z:Int)))):=by rw[<- aa];exact zd
  have np:H p=none:=(zb hl).free hp;refine{_,rfl,_,rfl,_,rfl,_,rfl,a,_,rfl,s1.seq hS,λq hq=>{q,rfl,{_,u5 zd},?_}}
  have U:p≠q:=zk M hq;obtain⟨ab,G⟩:=zgi t none (some (z:Int));have lo:=zhT t z;have hi:=zhU t z (some 63);refine zga (K:=K) (a:=q) (xs:=jS (t.map V.int) (some (z:Int)) (some 63)) (zdv a z p H q t)
   {ab,none,none,rfl,s1.trans (zb hq),by rw[zj U,M,G],zd,by rw[<- lo,G,zm]} (λi σ Y _ ⟨_,_,_,_,_,_,h,_⟩=>u5 h) ?_ ?_
  .rintro i x σ Y T hx ⟨J,v3,v4,rfl,sm,u,I,L⟩ hT
   have ai:i<(jS (t.map V.int) (some (z:Int)) (some 63)).length:=(zO.mp hx).1;obtain⟨c,rfl⟩:∃c,x=V.int c:=by
    have:=zgh (qw hx);obtain⟨c,_,e⟩:=zA.mp this;exact⟨c,e.symm⟩
   have hj:i % z<J.length:=by
    have:=ZK i (show 0<z by omega)
    omega
   have ac:p≠T:=zk u hT;have ae:q≠T:=zk I hT;have N:upd Y T (.tup [.int i,.int c]) p=some (.lst (J.map V.int)):=by rw[zj ac];exact u
   have em:((i % z:Nat):Int)=(i:Int) % (z:Int):=Int.natCast_emod i z;have O:(0:Int)<(z:Int):=()
   refine{T,_,rfl,u6 zd,rfl,_,_,rfl,_,_,rfl,rfl,?_}
   refine{_,rfl,_,rfl,_,rfl,_,_,rfl,rfl,O,p,_,_,.int J[i % z],rfl,rfl,u5 N,(by rw[<- em];exact jI (by simp[hj])),?_}
   refine{_,rfl,_,rfl,_,_,rfl,rfl,_,_,rfl,rfl,.inr {?_,?_},_,_,rfl,rfl,?_}
   .have e1:(-(2^64):Int)= -18446744073709551616:=1e1
    rw[e1];omega
   .have e2:((2^64):Int)=18446744073709551616:=1e1
    rw[e2];omega
   refine{_,rfl,_,rfl,_,rfl,_,_,rfl,rfl,O,p,_,_,i % z,rfl,rfl,N,(by rw[<- em,zm];exact zhH hj),?_}
   refine{J.set (i % z) (J[i % z]+c*((i:Int)+2)),_,_,rfl,λd o e=>?_,by rw[zd,List.map_set],?_,by rw[XJ];exact L}
   .rw[zj (zk e np),zj (zk (sm d o e) hT)]
    exact sm d o e
   .rw[zj (zS U),zj ae]
    exact I
  .rintro σ Y ⟨J,v3,v4,rfl,sm,u,I,L⟩
   exact{_,rfl,k p J Y sm (u5 u) ()}
theorem le0:([]:List V).length<=sizeLine:=qJ _
theorem le2{x y:V}:[x,y].length<=sizeLine:=by rw[sizeLine_eq];exact(by decide:2<=16777216)
theorem SameB.refl(b:Addr)(H:Hp):SameB b H H:=λ_ _ e _=>e
def u8:=@SameB.refl
theorem SameB.trans{b:Addr}{H f t:Hp}(a:SameB b H f)(c:SameB b f t):SameB b H t:=λd o e hd=>c d o (a d o e hd) hd
theorem SameB.of{b:Addr}{H f:Hp}(a:Same H f):SameB b H f:=λd o e _=>a d o e
theorem SameB.new{b p:Addr}{o:HO}{H e:Hp}(a:SameB b H e)(h:e p=none):SameB b H (upd e p o):=a.trans (.of (zb h))
theorem BoxAt.new{b p:Addr}{o:HO}{H:Hp}{n:Int}(a:BoxAt H b n)(h:H p=none):BoxAt (upd H p o) b n:=by
 obtain⟨f,b1,b2,e,r⟩:=a;exact{f,b1,b2,by rw[zj (zk e h)];exact e,r}
theorem BoxAt.same{b:Addr}{H f:Hp}{n:Int}(a:BoxAt H b n)(s:Same H f):BoxAt f b n:=by
 obtain⟨o,b1,b2,e,r⟩:=a;exact{o,b1,b2,s _ _ e,r}
theorem BoxAt.ne{b t:Addr}{H:Hp}{n:Int}{o:HO}(a:BoxAt H b n)(h:H t=some o)(f:∀x y z,o≠.lst [x,y,z]):t≠b:=by
 obtain⟨u,b1,b2,e,r⟩:=a;exact zcO h e (f _ _ _)
theorem BoxAt.some{b:Addr}{H:Hp}{n:Int}(a:BoxAt H b n):∃o,H b=.some o:=let ⟨_,_,_,e,_⟩:=a;{_,e}
theorem BoxAt.mono{b:Addr}{H:Hp}{n m:Int}(a:BoxAt H b n)(h:n<=m):BoxAt H b m:=by
 obtain⟨f,b1,b2,e,o,t,u,A,B⟩:=a;exact{f,b1,b2,e,o,t,u,A,()}
theorem le1{x:V}:[x].length<=sizeLine:=by rw[sizeLine_eq];exact(by decide:1<=16777216)
theorem le3{x y z:V}:[x,y,z].length<=sizeLine:=by rw[sizeLine_eq];exact(by decide:3<=16777216)
theorem le4{x y z u:V}:[x,y,z,u].length<=sizeLine:=by rw[sizeLine_eq];exact(by decide:4<=16777216)
theorem leN{e:List V}(h:e.length<=1000):e.length<=sizeLine:=by rw[sizeLine_eq];omega
theorem WO{α:Type}{xs:List α}{i:Int}(h:0<=i)(f:i<xs.length):∃v,atI xs i=some v/\xs[i.toNat]? =some v:=by
 have e:i.toNat<xs.length:=()
 refine{xs[i.toNat],?_,by simp[e]}
 have:=jI (xs:=xs) (j:=i.toNat) (v:=xs[i.toNat]) (by simp[e])
 rwa[show((i.toNat:Nat):Int)=i by omega] at this
theorem fm{α:V->Prop}{x:V}{f:List V}(h:α x)(o:∀y∈f,α y):∀y∈x::f,α y:=λy hy=>(zP.mp hy).elim (λe=>e▸h) (o y)
theorem SameB.put{b m:Addr}{H f:Hp}{o:HO}(s:SameB b H f)(h:H m=none):SameB b H (upd f m o):=λc u e hc=>by
 rw[zj (zk e h)];exact s c u e hc
theorem SameB.none{b m:Addr}{H e:Hp}(s:SameB b H e)(h:e m=none)(hm:m≠b):H m=none:=by
 cases q:H m with
 | none=>rfl
 | some o=>have:=s m o q hm;rw[h] at this;cases this
def wW(x:Str):Prop:=(x.cps.toList.map zac).all id=true
theorem zjB{r:Int}(h0:0<=r)(h1:r<26):∃c,atI zkr.cps.toList r=some c/\zac c=true:=by
 rw[zfS];obtain⟨c,e,f⟩:=WO (xs:=List.range' 97 26) h0 (by rw[List.length_range'];omega)
 have hm:=List.mem_range'_1.mp (qw f);refine{c,e,?_}
 unfold zac;rw[zY (),zY ()]
 rfl
theorem zfR{c:Nat}{y:Str}(h:zac c=true)(hy:wW y):wW ((⟨#[c]⟩:Str)++y):=by
 unfold wW at hy ⊢;show((#[c]++y.cps).toList.map zac).all id=true;rw[Array.toList_append,zG,List.all_append,hy,Bool.and_true];show(zac c&&true)=true;rw[h];rfl
theorem zfT{c:Nat}{y:Str}:((⟨#[c]⟩:Str)++y).length=y.length+1:=by
 show(#[c]++y.cps).size=y.cps.size+1;rw[Array.size_append];show 1+_=_;omega
theorem BoxAt.nne{b p:Addr}{H:Hp}{n:Int}(a:BoxAt H b n)(h:H p=none):p≠b:=by
 obtain⟨o,e⟩:=a.some;exact(zk e h).symm
theorem BoxAt.other{b l:Addr}{H:Hp}{n:Int}{o:HO}(a:BoxAt H b n)(h:l≠b):BoxAt (upd H l o) b n:=by
 obtain⟨f,b1,b2,e,r⟩:=a;exact{f,b1,b2,by rw[zj (zS h)];exact e,r}
def Nm(x:Str):Prop:=x.length<=8/\∀c∈x.cps.toList,c<1000000
theorem zkK{x:Str}(h:x.length<=8)(l:wW x):Nm x:={h,λc hc=>by
 unfold wW at l;have:=xD.mp l (zac c) (zA.mpr ⟨c,hc,rfl⟩);unfold zac at this;simp at this;omega}
theorem Vp:∀(e:List Str),(e.map V.str).all xB=true
 | []=>rfl
 | n::e=>by
  show(true&&(e.map V.str).all xB)=true;rw[Vp e];rfl
inductive Vu(o:List V)(H:Hp)(Q:VK):Prop
 | mk (f e:Int) (_:o=[.int f,.int e]) (_:0<=f) (_:1<=e) (_:e<=8) (_:∀y:Str,(y.length:Int)=e->wW y->Q (.str y) H):Vu  o H Q
def zch:Sp:=λe H Q _=>Vu  e H Q
theorem zcw:zM ["_law_number","_law_size","_law_word","_law_k"] ["_law_number","_law_size"] (zv (topL 20)):=u4
def zdu(f:_)(H:_):=λ(i:Nat) (σ:St) (o:Hp)=>(Ex3 λ(e:Int) (y:Str) (t:Option V)=>An5 (σ=[some (.int e),some (.int f),some (.str y),t]) (0<=e) (y.length=i) (wW y) (o=H):Prop)
theorem zfB{f:Addr}{L:FuncData}(F:Fun K "_law_spelled" "_law_spelled" (topL 20) f L)(B:Blt D):FnOk P w K D C CX0 1 f L ["_law_number","_law_size"] zch:=by
 have G:=zcw.nd;refine F.ok zcw 0#i (λY A J s H vs Q E hr h=>?_)
 .obtain⟨u,o,rfl,_⟩:=h
  rfl
 .obtain⟨u,o,rfl,n0,s0,s1,k⟩:=h
  have M:=bG100000;have t:=bGe;refine{_,(zi (zI (i:=2) G rfl 0#z zfm)
   (zi (qM jz rfl (qS rfl B.range 0#K) (zy (i:=3) G rfl 0#z)
   (zi (zI (i:=2) G rfl 0#z (zE za7 (zu zjH zfm (zE vc (pv 0) zf) 0#d) (pv 2)))
    (zp (zI (i:=0) G rfl 0#z (zE zcM (pv 0) zf)))))
   (zp (zJ (pv 2))))),?_}
  refine{_,rfl,_,rfl,(by rw[t];omega),(by rw[t];omega),?_}
  refine ju (zdu o H) {u,_,_,rfl,n0,rfl,rfl,rfl} ?_ ?_
  .rintro i σ U hi ⟨e,y,v3,rfl,O,N,I,rfl⟩
   obtain⟨c,hc,lc⟩:=zjB (r:=e % 26) (wt _ 1e1) (Zt _ 1e1)
   refine{_,rfl,_,_,rfl,rfl,(by show(0:Int)<26;decide),_,_,c,rfl,rfl,(by rw[sizeLine_eq];decide),hc,_,rfl,_,_,rfl,rfl,?_,?_}
   .show 1+y.length<=sizeLine
    omega
   .exact{_,rfl,_,_,rfl,rfl,{1e1,1e1},_,_,_,rfl,Int.ediv_nonneg O 1e1,by rw[zfT,N],zfR lc I,rfl}
  .rintro σ U ⟨e,y,v3,rfl,O,N,I,rfl⟩
   exact{_,rfl,k y () I}
inductive zcl(o:List V)(H:Hp)(Q:VK):Prop
 | mk (b t:Addr) (n:Int) (f:List Str) (_:o=[.ref b,.ref t]) (_:BoxAt H b n) (_:n<1099511000000) (_:t≠b) (_:H t=some (.lst (f.map V.str))) (_:f.length<=1000) (_:∀(y:Str) e,SameB b H e->BoxAt e b (n+12)->1<=y.length->y.length<=8->wW y->Q (.str y) e):zcl  o H Q
def zie:Sp:=λe H Q _=>zcl  e H Q
theorem zil:zM ["_law_box_here","_law_taken","_law_size","_law_number","_law_k","_law_word","_law_turn"] ["_law_box_here","_law_taken"] (zv (topL 21)):=u4
theorem zjf{r:Int}(h0:0<=r)(h1:r<4):∃z:Int,atI [V.int 3,V.int 3,V.int 3,V.int 8] r=some (.int z)/\3<=z/\z<=8:=by
 have hc:r=0\/r=1\/r=2\/r=3:=()
 rcases hc with rfl | rfl | rfl | rfl
 .exact{3,rfl,1e1,1e1}
 .exact{3,rfl,1e1,1e1}
 .exact{3,rfl,1e1,1e1}
 .exact{8,rfl,1e1,1e1}
def zdt(b:_)(t:_)(o:_)(H:_)(n:_):=λ(i:Nat) (σ:St) (f:Hp)=>(Ex2 λ(e:Int) (u:Option V)=>An4 (σ=[some (.ref b),some (.ref t),some (.int (1+o)),some (.int e),u,none,none]) (0<=e) (SameB b H f) (BoxAt f b (n+2+i)):Prop)
def zds(b:_)(t:_)(u:_)(e:_)(f:_):=λ(i:Nat) (σ:St) (o:Hp)=>(Ex3 λ(A B:Option V) (y:Str)=>An5 (σ=[some (.ref b),some (.ref t),some (.int (1+u)),some (.int e),A,some (.str y),B]) (1<=y.length) (y.length<=8) (wW y) (o=f):Prop)
theorem zjr{f:Addr}{fd:FuncData}(F:Fun K "_law_name" "_law_name" (topL 21) f fd)(B:Blt D)(G:Dfn P w K D C "_law_take" 1 ["_law_box_here","_law_size"] wm)(u:Dfn P w K D C "_law_spelled" 1 ["_law_number","_law_size"] zch):FnOk P w K D C CX0 2 f fd ["_law_box_here","_law_taken"] zie:=by
 have J:=zil.nd;refine F.ok zil 0#i (λag A af s H vs Q E N h=>?_)
 .obtain⟨b,t,n,Y,rfl,_⟩:=h
  rfl
 .obtain⟨b,t,n,Y,rfl,B0,hn,ae,ht,ah,k⟩:=h
  have I:=bGe;refine{_,(zi (zI (i:=2) J rfl 0#z (zE qN zf (zn G N.m rfl (za (pv 0) (za (zu qR (je (za zf (za zf (za zf (za zf ze))))) (zn G N.m rfl 0#F) 0#d) ze)))))
   (zi (zI (i:=3) J rfl 0#z zf)
   (zi (qM jz rfl (qS rfl B.range (za (pv 2) ze)) (zy (i:=4) J rfl 0#z)
   (zp (zI (i:=3) J rfl 0#z (zE qN (zE xR (pv 3) zf) (zn G N.m rfl 0#F)))))
   (zi (zI (i:=5) J rfl 0#z (zn u N.m rfl (za (pv 3) (za (pv 2) ze))))
   (zi (qM jz rfl (qS rfl B.range (za (zE qN (zr zC rfl B.len boot_len 0#K) zf) ze)) (zy (i:=6) J rfl 0#z)
   (zp (xu (qG y8 (pv 5) (pv 1) (by with_unfolding_all rfl))
    (zp (zI (i:=5) J rfl 0#z (zn u N.m rfl (za (zE qN (pv 3) (pv 6)) (za zf ze)))))
    jk)))
   (zp (zJ (pv 5)))))))),?_}
  refine{_,rfl,le4,λl hl=>{_,rfl,b,4,n,rfl,B0.new hl,(),1e1,1e1,λr H1 r0 r1 B1 S1=>?_}}
  have L1:=S1 l _ (zd (H:=H)) ((B0.new hl).ne (zd (H:=H) (o:=.lst [.int 3,.int 3,.int 3,.int 8])) (by intro x y z e;cases e))
  have aa:=((u8 b H).new (o:=.lst [.int 3,.int 3,.int 3,.int 8]) hl).trans S1;obtain⟨z,ez,z0,z1⟩:=zjf r0 r1;refine{l,_,_,_,rfl,rfl,u5 L1,ez,b,z,n+1,rfl,B1,(),(),(),λr2 H2 a0 a1 B2 S2=>{_,_,rfl,rfl,?_}}
  have ab:=aa.trans S2;refine{_,rfl,_,rfl,(by rw[I];omega),(by rw[I];omega),?_}
  refine ju (zdt b t r2 H n) {0,_,rfl,1e1,ab,B2.mono ()} ?_ ?_
  .rintro i σ H4 hi ⟨L,v4,rfl,m0,U,B4⟩
   refine{_,rfl,_,_,rfl,rfl,.inr {1e1,1e1},_,rfl,b,26,_,rfl,B4,(),1e1,1e1,λr3 H5 c0 c1 B5 S5=>{_,_,rfl,rfl,_,_,rfl,?_,U.trans S5,B5.mono ()}}
   omega
  .rintro σ H4 ⟨L,v4,rfl,m0,U,B4⟩
   refine{_,rfl,_,rfl,L,1+r2,rfl,m0,(),(),λy ly M=>?_}
   have O:=U t _ ht ae;have el:(Y.map V.str).length=Y.length:=zm ..;refine{_,rfl,t,_,rfl,.inl (u5 O),_,_,rfl,rfl,_,rfl,(by rw[I,el];omega),(by rw[I,el];omega),?_}
   refine ju (zds b t r2 L H4) {_,_,y,rfl,(),(),M,rfl} ?_ ?_
   .rintro i σ H5 hi ⟨v4,v6,y,rfl,y0,y1,M,rfl⟩
    refine{_,rfl,_,rfl,t,_,rfl,.inl (u5 O),rfl,Vp Y,_,rfl,wo (λc=>?_) (λc=>{_,_,y,rfl,y0,y1,M,rfl})}
    exact{_,rfl,_,rfl,_,_,rfl,rfl,_,8,rfl,(),1e1,1e1,λy' ai ac=>{_,_,y',rfl,(),(),ac,rfl}}
   .rintro σ H5 ⟨v4,v6,y,rfl,y0,y1,M,rfl⟩
    exact{_,rfl,k y _ U (B4.mono ()) y0 y1 M}
def Row(H:Hp)(l:Addr)(e:List Str):Prop:=H l=some (.lst (e.map V.str))/\∀x∈e,Nm x
theorem Row.same{H e:Hp}{l:Addr}{f:List Str}(r:Row H l f)(s:Same H e):Row e l f:={s _ _ r.1,r.2}
theorem Row.draw{H e:Hp}{b l:Addr}{f:List Str}(r:Row H l f)(s:SameB b H e)(h:l≠b):Row e l f:={s _ _ r.1 h,r.2}
inductive Vx(o:List V)(H:Hp)(Q:VK):Prop
 | mk (b:Addr) (m n:Int) (_:o=[.ref b,.int m]) (_:BoxAt H b n) (_:n<1000000) (_:0<=m) (_:m<=12) (_:∀(l:Addr) (f:List Str) e,SameB b H e->BoxAt e b (n+150)->l≠b->H l=none->Row e l f->(f.length:Int)=m->Q (.ref l) e):Vx  o H Q
def zck:Sp:=λe H Q _=>Vx  e H Q
theorem zcz:zM ["_law_box_here","_law_many","_law_found","_law_k"] ["_law_box_here","_law_many"] (zv (topL 22)):=u4
def zdr(b:_)(m:_)(l:_)(H:_)(n:_):=λ(i:Nat) (σ:St) (e:Hp)=>(Ex2 λ(f:List Str) (o:Option V)=>An5 (σ=[some (.ref b),some (.int m),some (.ref l),o]) (SameB b H e) (BoxAt e b (n+12*i)) (Row e l f) (f.length=i):Prop)
theorem zfE{f:Addr}{Y:FuncData}(F:Fun K "_law_names" "_law_names" (topL 22) f Y)(B:Blt D)(e:Dfn P w K D C "_law_name" 2 ["_law_box_here","_law_taken"] zie):FnOk P w K D C CX0 3 f Y ["_law_box_here","_law_many"] zck:=by
 have nd:=zcz.nd;refine F.ok zcz 0#i (λab A M s H vs Q E hr h=>?_)
 .obtain⟨b,m,n,rfl,_⟩:=h
  rfl
 .obtain⟨b,m,n,rfl,N,hn,m0,m1,k⟩:=h
  have aa:=bG100000;have u:=bGe;refine{_,(zi (zI (i:=2) nd rfl 0#z (je ze))
   (zi (qM jz rfl (qS rfl B.range 0#K) (zy (i:=3) nd rfl 0#z)
   (zp (vY (JZ XA QX QW vE (pv 2) (za (zn e hr.m rfl (za (pv 0) (za (pv 2) ze))) ze)))))
   (zp (zJ (pv 2))))),?_}
  refine{le0,λl G=>?_}
  have nl:=N.nne G;refine{_,rfl,_,rfl,(by rw[u];omega),(by rw[u];omega),?_}
  refine ju (zdr b m l H n) {[],_,rfl,(u8 b H).new G,(N.new G).mono (),{zd,λx h=>nomatch h},rfl} ?_ ?_
  .rintro i σ O hi ⟨I,v3,rfl,L,J,t,o⟩
   refine{_,rfl,.inl {rfl,_,u5 t.1},_,rfl,_,rfl,b,l,_,I,rfl,J,(),nl,t.1,(),λy H5 U B5 y0 y1 al=>{l,_,_,rfl,rfl,(t.draw U nl).1,by rw[zm,o];omega,?_}}
   refine{I++[y],_,rfl,(L.trans U).put G,(B5.other nl).mono (),{by rw[zd,zG];rfl,λx hx=>?_},by rw[qu,o];rfl}
   rcases qL.mp hx with q | q
   .exact t.2 x q
   .rw[zR.mp q];exact zkK y1 al
  .rintro σ O ⟨I,v3,rfl,L,J,t,o⟩
   exact{_,rfl,k l I O L (J.mono ()) nl G t ()}
def PlA(H:Hp)(a:Addr):Prop:=∃x y:Int,H a=some (.tup [.int x,.int y])/\0<=x/\x<=1000/\0<=y/\y<=1000
theorem PlA.draw{H f:Hp}{a b:Addr}{n:Int}(h:PlA H a)(B:BoxAt H b n)(s:SameB b H f):PlA f a:=by
 obtain⟨x,y,e,r⟩:=h;obtain⟨t,b1,b2,o,_⟩:=B;exact{x,y,s a _ e (zcO e o (by intro z;cases z)),r}
inductive Vw(K:W.Frag)(o:List V)(H:Hp)(Q:VK):Prop
 | mk (b t:Addr) (n:Int) (f:List Addr) (_:o=[.ref b,.ref t]) (_:BoxAt H b n) (_:n<1099511627000) (_:t≠b) (_:H t=some (.lst (f.map V.ref))) (_:f.length<=1000) (_:(∀a∈f,PlA H a)) (_:∀(p:Addr) e,SameB b H e->BoxAt e b (n+3)->H p=none->PlA e p->Q (.ref p) e):Vw K o H Q
def Jw(K:W.Frag):Sp:=λe H Q _=>Vw K e H Q
theorem zcy:zM ["_law_box_here","_law_taken","_law_most","_law_x","_law_y","_law_turn"] ["_law_box_here","_law_taken"] (zv (topL 23)):=u4
def zdq(b:_)(t:_)(y:_)(H:_)(n:_):=λ(i:Nat) (σ:St) (e:Hp)=>(Ex3 λ(f o:Option V) (x:Int)=>An5 (σ=[some (.ref b),some (.ref t),f,some (.int x),some (.int y),o]) (0<=x) (x<=1000) (SameB b H e) (BoxAt e b (n+1+1+1)):Prop)
theorem zfD{f:Addr}{fd:FuncData}(F:Fun K "_law_place" "_law_place" (topL 23) f fd)(B:Blt D)(u:Dfn P w K D C "_law_take" 1 ["_law_box_here","_law_size"] wm):FnOk P w K D C CX0 2 f fd ["_law_box_here","_law_taken"] (Jw K):=by
 have Y:=zcy.nd;refine F.ok zcy 0#i (λae A ac s H vs Q E U h=>?_)
 .obtain⟨b,t,n,as,rfl,_⟩:=h
  rfl
 .obtain⟨b,t,n,as,rfl,B0,hn,O,ht,af,pa,k⟩:=h
  have N:=U.units;have M:=bGe;have el:(as.map V.ref).length=as.length:=zm ..;refine{_,(zi (zI (i:=2) Y rfl 0#z (yu (qG Zm (zn u U.m rfl 0#F) zf (qO _)) zf zf))
   (zi (zaW (i:=3) (j:=4) rfl Y rfl rfl 1e1 rfl rfl (za (zn u U.m rfl (za (pv 0) (za (pv 2) ze))) (za (zn u U.m rfl (za (pv 0) (za (pv 2) ze))) ze)) 1e2)
   (zi (qM jz rfl (qS rfl B.range (za (zE qN (zr zC rfl B.len boot_len 0#K) zf) ze)) (zy (i:=5) Y rfl 0#z)
   (zp (xu (qG (zhh N) (qD (za (pv 3) (za (pv 4) ze))) (pv 1) (by with_unfolding_all rfl))
    (zp (zI (i:=3) Y rfl 0#z (zE vc (zE qN (pv 3) zf) zf)))
    jk)))
   (zp (zJ (qD (za (pv 3) (za (pv 4) ze)))))))),?_}
  refine{_,rfl,b,4,n,rfl,B0,(),1e1,1e1,λr H1 r0 r1 B1 S1=>{rfl,_,rfl,wo (λc=>?_) (λc=>?_)}}
  all_goals
   refine{_,rfl,_,rfl,b,_,n+1,rfl,B1,(),1e1,1e1,λx H2 x0 x1 B2 S2=>{_,rfl,_,rfl,b,_,n+1+1,rfl,B2,(),1e1,1e1,λy H3 y0 y1 B3 S3=>{_,_,rfl,?_}}}
   have S4:=S1.trans (S2.trans S3);have ab:=S4 t _ ht O;refine{_,rfl,t,_,rfl,.inl (u5 ab),_,_,rfl,rfl,_,rfl,(by rw[M,el];omega),(by rw[M,el];omega),?_}
   refine ju (zdq b t y H n) {_,none,x,rfl,x0,(),S4,B3} ?_ ?_
   .rintro i σ H4 _ ⟨v2,v5,x,rfl,I,J,G,L⟩
    refine{_,rfl,_,rfl,le2,λp hp=>{_,rfl,p,t,_,_,rfl,rfl,u6 zd,rfl,u5 ((G.new hp) t _ ht O),λv hv=>?_,λq=>{_,rfl,wo (λd=>?_) (λd=>?_)}}}
    .obtain⟨c,hc,rfl⟩:=zA.mp hv
     obtain⟨cx,cy,aa,_⟩:=(pa c hc).draw B0 (G.new (o:=.tup [.int x,.int y]) hp);exact{c,_,rfl,u6 aa,rfl}
    .exact{_,rfl,_,_,rfl,rfl,_,_,rfl,rfl,(by show(0:Int)<1001;decide),_,_,_,rfl,wt _ 1e1,by have:=Zt (x+1) (by decide:(0:Int)<1001);omega,G.new hp,L.new hp}
    .exact{_,_,x,rfl,I,J,G.new hp,L.new hp}
   .rintro σ H4 ⟨v2,v5,x,rfl,I,J,G,L⟩
    have B6:BoxAt H4 b (n+3):=by
     have e:n+3=n+1+1+1:=()
     rw[e];exact L
    exact{_,rfl,_,rfl,le2,λp hp=>k p _ (G.new hp) (B6.new hp) (G.none hp (L.nne hp)) {x,y,zd,I,J,y0,()}}
inductive JO(o:List V)(H:Hp)(Q:VK):Prop
 | mk (b:Addr) (m n:Int) (_:o=[.ref b,.int m]) (_:BoxAt H b n) (_:n<1000000) (_:0<=m) (_:m<=100) (_:∀(l:Addr) (f:List Addr) e,SameB b H e->BoxAt e b (n+400)->l≠b->H l=none->e l=some (.lst (f.map V.ref))->(∀a∈f,PlA e a)->(f.length:Int)=m->Q (.ref l) e):JO  o H Q
def YE:Sp:=λe H Q _=>JO  e H Q
theorem YR:zM ["_law_box_here","_law_many","_law_found","_law_k"] ["_law_box_here","_law_many"] (zv (topL 24)):=u4
def zdp(b:_)(m:_)(l:_)(H:_)(n:_):=λ(i:Nat) (σ:St) (e:Hp)=>(Ex2 λ(f:List Addr) (o:Option V)=>An6 (σ=[some (.ref b),some (.int m),some (.ref l),o]) (SameB b H e) (BoxAt e b (n+3*i)) (e l=some (.lst (f.map V.ref))) ((∀a∈f,PlA e a)) (f.length=i):Prop)
theorem zdZ{f:Addr}{fd:FuncData}(F:Fun K "_law_places" "_law_places" (topL 24) f fd)(B:Blt D)(o:Dfn P w K D C "_law_place" 2 ["_law_box_here","_law_taken"] (Jw K)):FnOk P w K D C CX0 3 f fd ["_law_box_here","_law_many"] YE:=by
 have nd:=YR.nd;refine F.ok YR 0#i (λab A Y s H vs Q E hr h=>?_)
 .obtain⟨b,m,n,rfl,_⟩:=h
  rfl
 .obtain⟨b,m,n,rfl,B0,hn,m0,m1,k⟩:=h
  have aa:=bG100000;have J:=bGe;refine{_,(zi (zI (i:=2) nd rfl 0#z (je ze))
   (zi (qM jz rfl (qS rfl B.range 0#K) (zy (i:=3) nd rfl 0#z)
   (zp (vY (JZ XA QX QW vE (pv 2) (za (zn o hr.m rfl (za (pv 0) (za (pv 2) ze))) ze)))))
   (zp (zJ (pv 2))))),?_}
  refine{le0,λl L=>?_}
  have nl:=B0.nne L;refine{_,rfl,_,rfl,(by rw[J];omega),(by rw[J];omega),?_}
  refine ju (zdp b m l H n) {[],_,rfl,(u8 b H).new L,(B0.new L).mono (),zd,(λx h=>nomatch h),rfl} ?_ ?_
  .rintro i σ H4 hi ⟨I,v3,rfl,U,M,G,N,u⟩
   refine{_,rfl,.inl {rfl,_,u5 G},_,rfl,_,rfl,b,l,_,I,rfl,M,(),nl,G,(),N,λp H5 O B5 pN pp=>{l,_,_,rfl,rfl,O l _ G nl,by rw[zm,u];omega,?_}}
   have L5:=O l _ G nl;have t:∀{a:Addr},PlA H5 a->PlA (upd H5 l (.lst (I.map V.ref++[.ref p]))) a:=λ{a} h=>by
    obtain⟨x,y,e,r⟩:=h;exact{x,y,by rw[zj (zcO e L5 (by intro z;cases z))];exact e,r}
   refine{I++[p],_,rfl,(U.trans O).put L,(B5.other nl).mono (),by rw[zd,zG];rfl,λa ha=>?_,by rw[qu,u];rfl}
   rcases qL.mp ha with q | q
   .exact t ((N a q).draw M O)
   .rw[zR.mp q];exact t pp
  .rintro σ H4 ⟨I,v3,rfl,U,M,G,N,u⟩
   exact{_,rfl,k l I H4 U (M.mono ()) nl L G N ()}
inductive YD(K:W.Frag)(o:List V)(H:Hp)(Q:VK):Prop
 | mk (b a:Addr) (n:Int) (f:List V) (_:o=[.ref b,.ref a]) (_:BoxAt H b n) (_:n<1000000) (_:a≠b) (_:H a=some (.lst f)) (_:f.length<=1000) (_:∀(l:Addr) (t:List V) e,SameB b H e->BoxAt e b (n+f.length)->l≠b->H l=none->e l=some (.lst t)->t.Perm f->Q (.ref l) e):YD K o H Q
def Wd(K:W.Frag):Sp:=λe H Q _=>YD K e H Q
theorem zeX:zM ["_law_box_here","_law_some","_law_found","_law_one"] ["_law_box_here","_law_some"] (zv (topL 25)):=u4
def zdo(b:_)(a:_)(l:_)(H:_)(n:_)(f:List V):=λ(i:Nat) (σ:St) (e:Hp)=>(Ex2 λ(o:List V) (t:Option V)=>An6 (σ=[some (.ref b),some (.ref a),some (.ref l),t]) (SameB b H e) (BoxAt e b (n+i)) (e a=some (.lst f)) (e l=some (.lst o)) (o.Perm (f.take i)):Prop)
theorem zhm{f:Addr}{fd:FuncData}(F:Fun K "_law_shuffled" "_law_shuffled" (topL 25) f fd)(B:Blt D)(e:Dfn P w K D C "_law_take" 1 ["_law_box_here","_law_size"] wm):FnOk P w K D C CX0 2 f fd ["_law_box_here","_law_some"] (Wd K):=by
 have nd:=zeX.nd;refine F.ok zeX 0#i (λae A ab s H vs Q E hr h=>?_)
 .obtain⟨b,a,n,t,rfl,_⟩:=h
  rfl
 .obtain⟨b,a,n,t,rfl,B0,hn,Y,U,af,k⟩:=h
  have ac:=bG100000;have O:=bGe;refine{_,(zi (zI (i:=2) nd rfl 0#z (je ze))
   (zi (qM jz rfl (qW (pv 1)) (zy (i:=3) nd rfl 0#z)
   (zp (vY (JZ XA PySem.F.slot_list_insert PySem.F.type_list_insert zd3 (pv 2) (za (zn e hr.m rfl (za (pv 0) (za (zE qN (zr zC rfl B.len boot_len (za (pv 2) ze)) zf) ze))) (za (pv 3) ze))))))
   (zp (zJ (pv 2))))),?_}
  refine{le0,λl o=>?_}
  have nl:=B0.nne o;have aa:a≠l:=zk U o;refine{_,rfl,a,rfl,{_,u5 ((zb o) _ _ U)},j8 (K:=K) (a:=a) (xs:=t) (zdo b a l H n t)
   {[],_,rfl,(u8 b H).new o,(B0.new o).mono (),(zb o) _ _ U,zd,.nil} (λi σ L _ ⟨_,_,_,_,_,h,_,_⟩=>u5 h) ?_ ?_}
  .rintro i x σ L hx ⟨I,v3,rfl,M,J,A4,u,G⟩
   have hi:=(zO.mp hx).1;have yl:I.length=i:=by rw[G.length_eq,jb];omega
   refine{_,rfl,.inl {rfl,_,u5 u},_,rfl,_,rfl,l,_,rfl,.inl (u5 u),_,_,rfl,rfl,b,_,_,rfl,J,(),(),(),λq H5 q0 q1 B5 N=>{_,rfl,?_}}
   refine{l,I,q,x,rfl,rfl,N l _ u nl,q0,by rw[O];omega,(),?_}
   refine{_,_,rfl,(M.trans N).put o,(B5.other nl).mono (),by rw[zj aa];exact N a _ A4 Y,zd,?_}
   have e1:t.take (i+1)=t.take i++[x]:=by
    obtain⟨h1,h2⟩:=zO.mp hx;rw[<- h2,Zu]
   rw[e1];refine List.perm_middle.trans ?_
   rw[List.take_append_drop];exact((List.Perm.cons x G).trans (zgr x _).symm)
  .rintro σ L ⟨I,v3,rfl,M,J,A4,u,G⟩
   rw[qY] at G;exact{_,rfl,k l I L M J nl o u G}
end
def SameT(H f:Hp):Prop:=∀a u,H a=some u->(∀o,u≠.lst o)->(∀e,u≠.dK e)->f a=some u
theorem SameT.refl(H:Hp):SameT H H:=λ_ _ e _ _=>e
theorem SameT.trans{H f o:Hp}(a:SameT H f)(b:SameT f o):SameT H o:=λc u e h i=>b c u (a c u e h i) h i
theorem SameT.of{H f:Hp}(s:Same H f):SameT H f:=λa u e _ _=>s a u e
theorem SameT.draw{H f:Hp}{b:Addr}{n:Int}(B:BoxAt H b n)(s:SameB b H f):SameT H f:=λa u e h _=>by
 obtain⟨t,b1,b2,o,_⟩:=B;exact s a u e (λz=>by rw[z,o] at e;cases e;exact h _ rfl)
def ub:=@SameT.draw
theorem SameT.put{H:Hp}{l:Addr}{f o:List V}(h:H l=some (.lst f)):SameT H (upd H l (.lst o)):=λa u e hu _=>by
 rw[zj (λz=>by rw[z,h] at e;cases e;exact hu _ rfl)];exact e
theorem SameT.putD{H:Hp}{l:Addr}{f:List (Key×V)}{o:HO}(h:H l=some (.dK f)):SameT H (upd H l o):=λa u e _ hu=>by
 rw[zj (λz=>by rw[z,h] at e;cases e;exact hu _ rfl)];exact e
mutual
def Dat.imm:Dat->Bool
 | .lst _=>false
 | .tup e=>Dat.imms e
 | _=>true
def Dat.imms:List Dat->Bool
 | []=>true
 | d::e=>d.imm&&Dat.imms e
end
section
variable{P:Program}{w:World}{K:W.Frag}{C:Str->Option Value}{u:Heap}
theorem SqT.keep{H e:Hp}{a:Addr}{f:List V}(q:SqT K H a f)(s:SameT H e):SqT K e a f:=by
 rcases q with(q | ⟨o,q⟩) | q
 .exact .inl (.inl (s a _ q (λz h=>nomatch h) (λz h=>nomatch h)))
 .exact .inl (.inr {o,s a _ q (λz h=>nomatch h) (λz h=>nomatch h)})
 .exact .inr q
mutual
theorem Rep.keep{H f:Hp}(s:SameT H f):∀{d:Dat} {v:V},d.imm=true->Rep K H d v->Rep K f d v
 | .non,_,_,h=>h
 | .bl _,_,_,h=>h
 | .int _,_,_,h=>h
 | .str _,_,_,h=>h
 | .lst _,_,i,_=>by cases i
 | .tup ds,_,i,h=>by
  obtain⟨a,o,e,q,r⟩:=h;exact{a,o,e,q.keep s,Reps.keep s (ds:=ds) i r}
theorem Reps.keep{H o:Hp}(s:SameT H o):∀{ds:List Dat} {t:List V},Dat.imms ds=true->Reps K H ds t->Reps K o ds t
 | [],_,_,h=>h
 | d::ds,_,i,h=>by
  obtain⟨x,r,e,h1,h2⟩:=h;have f:(d.imm&&Dat.imms ds)=true:=i;rw[jX] at f;exact{x,r,e,Rep.keep s f.1 h1,Reps.keep s f.2 h2}
end
theorem Reps.snoc{H:Hp}{d:Dat}{v:V}(h:Rep K H d v):∀{f:List Dat} {o:List V},Reps K H f o->Reps K H (f++[d]) (o++[v])
 | [],_,e=>by rw[show _=_ from e];exact{v,[],rfl,h,rfl}
 | _::_,_,e=>by
  obtain⟨x,r,e1,h1,h2⟩:=e;subst e1;exact{x,r++[v],rfl,h1,Reps.snoc h h2}
def u9:=@Reps.snoc
theorem vw{α β:Type}{f:α->β}{J I:List β}(h:J.Perm I):∀{o:List α},I=o.map f->∃t:List α,t.Perm o/\J=t.map f:=by
 induction h with
 | nil=>
  intro o e;have:o=[]:=by simpa using e.symm
  exact{[],by rw[this],rfl}
 | @cons x U Y p M=>
  intro o e;cases o with
  | nil=>simp at e
  | cons a G=>
   rw[jR] at e;injection e with e1 e2;obtain⟨t,D,E⟩:=M e2;exact{a::t,D.cons a,by rw[jR,<- E,<- e1]}
 | swap x y l=>
  intro o e;cases o with
  | nil=>simp at e
  | cons a G=>
   cases G with
   | nil=>simp at e
   | cons c H=>
    rw[jR,jR] at e;injection e with e1 e2;injection e2 with e2 L;exact{c::a::H,.swap a c H,by rw[jR,jR,<- e1,<- e2,<- L]}
 | trans p q A B=>
  intro o e;obtain⟨t,D,E⟩:=B e;obtain⟨Q,N,O⟩:=A E;exact{Q,N.trans D,O}
def yb(p:Nat×Nat):Dat:=.tup [.int p.1,.int p.2]
def Qq(e:List (Nat×Nat)):Dat:=.tup (e.map yb)
theorem wE:∀(e:List (Nat×Nat)),Dat.imms (e.map yb)=true
 | []=>rfl
 | p::e=>by
  show(Dat.imm (yb p)&&Dat.imms (e.map yb))=true;rw[wE e];rfl
def ByOrd(e:List Nat)(f:List (Nat×Nat)):Prop:=∀p∈f,∃k l:Nat,k<l/\e[k]? =some p.1/\e[l]? =some p.2
theorem Reps.take{H:Hp}:∀(n:Nat) {f:List Dat} {o:List V},Reps K H f o->Reps K H (f.take n) (o.take n)
 | 0,_,_,_=>rfl
 | n+1,[],_,h=>by rw[show _=_ from h];exact rfl
 | n+1,d::f,_,h=>by
  obtain⟨x,r,e,h1,h2⟩:=h;subst e;exact{x,r.take n,rfl,h1,Reps.take n h2}
theorem Reps.app{H:Hp}:∀{f t:List Dat} {A B:List V},Reps K H f A->Reps K H t B->Reps K H (f++t) (A++B)
 | [],_,_,_,h,o=>by rw[show _=_ from h];exact o
 | d::f,_,_,_,h,o=>by
  obtain⟨x,r,e,h1,h2⟩:=h;subst e;exact{x,r++_,rfl,h1,Reps.app h2 o}
inductive JP(K:W.Frag)(t:List V)(H:Hp)(Q:VK):Prop
 | mk (b:Addr) (m n:Int) (_:t=[.ref b,.int m]) (_:BoxAt H b n) (_:n<1000000) (_:0<=m) (_:m<=100) (_:∀(p:Addr) (o:List (Nat×Nat)) (e:List Nat) f,SameB b H f->BoxAt f b (n+800)->Rep K f (Qq o) (.ref p)->e.Perm (List.range m.toNat)->ByOrd e o->o.length<=300->Q (.ref p) f):JP K t H Q
def YM(K:W.Frag):Sp:=λe H Q _=>JP K e H Q
theorem YS:zM ["_law_box_here","_law_many","_law_order","_law_found","_law_turn","_law_k"] ["_law_box_here","_law_many"] (zv (topL 27)):=u4
theorem zkD{m r:Int}(h:0<=r)(e:r<4)(o:2<=m)(f:m<=100):∃z:Int,atI [V.int 1,V.int 4,V.int 13,V.int (2*m)] r=some (.int z)/\1<=z/\z<=200:=by
 have hc:r=0\/r=1\/r=2\/r=3:=()
 rcases hc with rfl | rfl | rfl | rfl
 .exact{1,rfl,(),()}
 .exact{4,rfl,(),()}
 .exact{13,rfl,(),()}
 .exact{2*m,rfl,(),()}
theorem zfu{ord:List Nat}{i:Int}(h:0<=i)(e:i<ord.length):∃x:Nat,atI (ord.map λi:Nat=>V.int (i:Int)) i=some (.int (x:Int))/\ord[i.toNat]? =some x:=by
 obtain⟨v,e1,e2⟩:=WO (xs:=ord.map λi:Nat=>V.int (i:Int)) h (by rw[zm];exact e)
 rw[zT] at e2;obtain⟨x,hx,rfl⟩:=qy.mp e2;exact⟨x,e1,hx⟩
def zdn(b:_)(m:_)(o:_)(R:_)(H:_)(n:_)(f:_)(K:_):=λ(i:Nat) (σ:St) (e:Hp)=>(Ex4 λ(t:List (Nat×Nat)) (A:List V) (B D:Option V)=>An8 (σ=[some (.ref b),some (.int m),some (.ref o),some (.ref R),B,D]) (SameB b H e) (BoxAt e b (n+110+2*i)) (e o=some (.lst (f.map λi:Nat=>V.int (i:Int)))) (e R=some (.lst A)) (Reps K e (t.map yb) A) (ByOrd f t) (t.length=i):Prop)
theorem zd0{f:Addr}{fd:FuncData}(F:Fun K "_law_aheads" "_law_aheads" (topL 27) f fd)(B:Blt C)(e:Dfn P w K C u "_law_take" 1 ["_law_box_here","_law_size"] wm)(D:Dfn P w K C u "_law_shuffled" 2 ["_law_box_here","_law_some"] (Wd K)):FnOk P w K C u CX0 3 f fd ["_law_box_here","_law_many"] (YM K):=by
 have nd:=YS.nd;refine F.ok YS 0#i (λao A aj s H vs Q E hr h=>?_)
 .obtain⟨b,m,n,rfl,_⟩:=h
  rfl
 .obtain⟨b,m,n,rfl,B0,hn,m0,m1,k⟩:=h
  have an:=bG100000;have ae:=bGe;refine{_,(zi (zaW (i:=2) (j:=3) rfl nd rfl rfl 1e1 rfl rfl (za (zn D hr.m rfl (za (pv 0) (za (Qg rfl rfl B.list rfl B.range xm 0#K) ze))) (za (je ze) ze)) 1e2)
   (zi (xu (qG Y1 (pv 1) zf (qO _))
   (zp (zJ (qD ze)))
   jk)
   (zi (qM jz rfl (qS rfl B.range (za (zn e hr.m rfl (za (pv 0) (za (zu qR (je (za zf (za zf (za zf (za (zE xR zf (pv 1)) ze))))) (zn e hr.m rfl 0#F) 0#d) ze))) ze)) (zy (i:=4) nd rfl 0#z)
   (zi (zI (i:=5) nd rfl 0#z (zn e hr.m rfl (za (pv 0) (za (zE yw (pv 1) zf) ze))))
    (zp (vY (JZ XA QX QW vE (pv 3) (za (qD (za (zu qR (pv 2) (pv 5) 0#d) (za (zu qR (pv 2) (zE qN (zE qN (pv 5) zf) (zn e hr.m rfl (za (pv 0) (za (zE yw (zE yw (pv 1) zf) (pv 5)) ze)))) 0#d) ze))) ze))))))
   (zp (zJ (qh jc rfl B.tuple ja (za (zE J7 (pv 3) (xX y4 (pv 3) wT (vq (qh Zg rfl B.int yF (za (xz Zm (zn e hr.m rfl 0#F) zf (qO _)) ze))))) ze))))))),?_}
  refine{_,rfl,_,rfl,m,rfl,m0,(),λl0 h0=>?_}
  have O:((List.range m.toNat).map λi:Nat=>V.int (i:Int)).length=m.toNat:=by rw[zm,vk]
  refine{b,l0,n,_,rfl,B0.new h0,(),B0.nne h0,zd,by rw[O];omega,λo ys H1 S1 B1 no oN ho pm=>{le0,λR hR=>{_,_,rfl,?_}}}
  obtain⟨G,op,rfl⟩:=vw pm rfl;have ol:G.length=m.toNat:=by rw[op.length_eq,vk]
  rw[O] at B1;have U:=B1.nne hR;have oR:o≠R:=zk ho hR;have ac:=((u8 b H).new h0).trans S1;have RH:H R=none:=ac.none hR U;have S2:=ac.new (o:=.lst []) hR;have B2:=B1.new (o:=.lst []) hR;have O2:=(zb (o:=.lst []) hR) _ _ ho;have R2:upd H1 R (.lst []) R=some (.lst []):=zd;generalize upd H1 R (.lst [])=H2 at S2 B2 O2 R2;refine{_,rfl,_,_,rfl,rfl,_,rfl,wo (λc=>?_) (λc=>?_)}
  .exact{le0,λp hp=>k p [] G _ (S2.new hp) ((B2.new hp).mono ()) {p,[],rfl,u6 zd,rfl} op (λp h=>nomatch h) (qJ _)}
  have m2:2<=m:=by
   have:¬m<2:=λz=>c (zY z)
   omega
  refine{_,rfl,_,rfl,_,_,rfl,rfl,.inl {1e1,1e1},le4,λl1 h1=>{_,rfl,b,4,_,rfl,B2.new h1,(),1e1,1e1,λr H3 r0 r1 B3 S3=>?_}}
  have L3:=S3 l1 _ zd (B2.nne h1);obtain⟨z,ez,z0,z1⟩:=zkD r0 r1 m2 m1;refine{l1,_,_,_,rfl,rfl,u5 L3,ez,b,z,_,rfl,B3,(),(),(),λcnt H4 c0 c1 B4 S4=>{_,rfl,(by rw[ae];omega),(by rw[ae];omega),?_}}
  have U4:=((u8 b H2).new h1).trans (S3.trans S4);have ag:=S2.trans U4;have O4:=U4 _ _ O2 no;have R4:=U4 _ _ R2 U;clear S2 B2 O2 R2 S3 S4 U4 L3 h1 B3;refine ju (zdn b m o R H n G K)
   {[],[],_,_,rfl,ag,B4.mono (),O4,R4,rfl,(λp h=>nomatch h),rfl} ?_ ?_
  .rintro i σ H5 hi ⟨M,I,v4,v5,rfl,S5,B5,O5,R5,rp,bo,Y⟩
   have xl:I.length=i:=by rw[rp.len,zm,Y]
   refine{_,rfl,_,rfl,_,_,rfl,rfl,b,_,_,rfl,B5,(),(),(),λkk H6 k0 k1 B6 J=>?_}
   have O6:=J _ _ O5 no;obtain⟨x1,ah,ak⟩:=zfu (ord:=G) k0 ()
   refine{_,rfl,.inl {rfl,_,u5 (J _ _ R5 U)},_,rfl,_,rfl,o,_,_,_,rfl,rfl,u5 O6,ah,?_}
   refine{_,rfl,_,rfl,_,_,rfl,rfl,_,rfl,_,rfl,_,_,rfl,rfl,_,rfl,_,_,rfl,rfl,b,_,_,rfl,B6,(),(),(),λq H7 q0 q1 B7 S7=>{_,_,rfl,rfl,?_}}
   have O7:=S7 _ _ O6 no;have R7:=S7 _ _ (J _ _ R5 U) U;obtain⟨x2,ai,al⟩:=zfu (ord:=G) (i:=kk+1+q) () ()
   refine{o,_,_,_,rfl,rfl,u5 O7,ai,le2,λT N=>{R,I,.ref T,rfl,rfl,(zb N) _ _ R7,(),?_}}
   have R8:=(zb (o:=.tup [.int (x1:Int),.int (x2:Int)]) N) _ _ R7;have st:SameT H5 (upd (upd H7 T (.tup [.int (x1:Int),.int (x2:Int)])) R (.lst (I++[.ref T]))):=((ub B5 (J.trans S7)).trans (.of (zb N))).trans (.put R8);refine{M++[(x1,x2)],_,_,_,rfl,(((S5.trans J).trans S7).new N).put RH,((B7.new N).other U).mono (),by rw[zj oR];exact(zb N) _ _ O7,zd,?_,λpq ab=>?_,by rw[qu,Y];rfl}
   .rw[zG]
    refine u9 ?_ (Reps.keep st (wE M) rp)
    refine{T,_,rfl,u6 ?_,_,_,rfl,rfl,_,_,rfl,rfl,rfl}
    rw[zj (λzz=>by rw[zz,R7] at N;cases N)]
    exact zd
   .rcases qL.mp ab with w1 | w1
    .exact bo pq w1
    .rw[zR.mp w1]
     exact{kk.toNat,(kk+1+q).toNat,(),ak,al}
  .rintro σ H5 ⟨M,I,v4,v5,rfl,S5,B5,O5,R5,rp,bo,Y⟩
   have xl:I.length=M.length:=by rw[rp.len,zm]
   refine{_,rfl,_,rfl,_,rfl,b,4,_,rfl,B5,(),1e1,1e1,λr9 H6 ap aq B6 J=>{rfl,.inr {_,rfl,_,rfl,R,I,rfl,u5 (J _ _ R5 U),λs1 L=>?_}}}
   have R6:=J _ _ R5 U;obtain⟨t,et⟩:∃t:Nat,jS I none (some (if decide (V.int r9=V.int 0)=true then(1:Int) else 0))=I.take t/\t<=1:=by
    unfold jS;by_cases hd:decide (V.int r9=V.int 0)=true
    .rw[zt hd,show(some (1:Int))=some ((1:Nat):Int) from rfl,HT.sIx_nat,HT.sIx_none]
     refine{min 1 I.length,1e3,()}
    .rw[zq hd,show(some (0:Int))=some ((0:Nat):Int) from rfl,HT.sIx_nat,HT.sIx_none]
     refine{0,1e3,()}
   rw[et.1];have st:SameT H5 H6:=.draw B5 J;have am:=Reps.keep st (wE M) rp;have tl:(I.take t).length<=1:=by rw[jb];omega
   refine{R,s1,_,_,rfl,rfl,(zb L) _ _ R6,zd,(),λc1 aa=>{c1,_,rfl,.inl {u5 zd,λp hp=>?_}}}
   have sm:=((zb (o:=.lst (I.take t)) L).trans (zb (o:=.lst (I++I.take t)) aa)).trans (zb (o:=.tup (I++I.take t)) hp);refine k p (M++M.take t) G _ ((((S5.trans J).new L).new aa).new hp) ((((B6.new L).new aa).new hp).mono ()) {p,_,rfl,u6 zd,?_} op (λpq ab=>?_) (by rw[qu,jb];omega)
   .have af:=Reps.keep (SameT.of sm) (wE M) am
    have rt:=Reps.take t af;rw[<- List.map_take] at rt;have:=Reps.app af rt;rw[<- zG] at this;exact this
   .rcases qL.mp ab with w1 | w1
    .exact bo pq w1
    .exact bo pq (QS w1)
structure zaE where
 k:Str
 x:Int
 y:Int
structure yY where
 k:Str
 x:Int
 y:Int
 m:Int
def xL(p:zaE):Dat:=.tup [.str p.k,.tup [.int p.x,.int p.y]]
def we(p:yY):Dat:=.tup [.str p.k,.tup [.int p.x,.int p.y],.int p.m]
theorem Zf:∀(e:List yY),Dat.imms (e.map we)=true
 | []=>rfl
 | p::e=>by
  show(Dat.imm (we p)&&Dat.imms (e.map we))=true;rw[Zf e];rfl
theorem vB:∀(e:List zaE),Dat.imms (e.map xL)=true
 | []=>rfl
 | p::e=>by
  show(Dat.imm (xL p)&&Dat.imms (e.map xL))=true;rw[vB e];rfl
def inP(x y:Int):Prop:=0<=x/\x<=1000/\0<=y/\y<=1000
inductive YL(K:W.Frag)(I:List V)(H:Hp)(Q:VK):Prop
 | mk (b D G:Addr) (J:Bool) (n:Int) (o:List Str) (t:List zaE) (_:I=[.ref b,.ref D,.ref G,.bl J]) (_:BoxAt H b n) (_:n<900000) (_:D≠b) (_:Row H D o) (_:1<=o.length) (_:o.length<=12) (_:Rep K H (.tup (t.map xL)) (.ref G)) (_:t.length<=100) (_:∀(p:Addr) (B:List yY) (E:List Str) A,SameB b H A->BoxAt A b (n+400)->Rep K A (.tup (B.map we)) (.ref p)->(B.map (·.k)).Perm (o++E)->(∀e∈E,e∈o)->B.length<=40->(∀f∈B,Nm f.k/\inP f.x f.y/\0<=f.m/\f.m<=400)->Q (.ref p) A):YL K I H Q
def zeR(K:W.Frag):Sp:=λe H Q _=>YL K e H Q
theorem ze4:zM ["_law_box_here","_law_kinds","_law_parts","_law_plenty","_law_great","_law_more","_law_some","_law_found","_law_kind","_law_need","_law_many"] ["_law_box_here","_law_kinds","_law_parts","_law_plenty"] (zv (topL 26)):=u4
theorem zeF{ns:List Str}{i:Int}(h:0<=i)(e:i<ns.length):∃x,atI (ns.map V.str) i=some (.str x)/\x∈ns:=by
 obtain⟨v,e1,e2⟩:=WO (xs:=ns.map V.str) h (by rw[zm];exact e)
 rw[zT] at e2;obtain⟨x,hx,rfl⟩:=qy.mp e2;exact{x,e1,qw hx}
theorem zkC{a c r:Int}(h:0<=r)(f:r<3)(a0:0<=a)(a1:a<=400)(e:0<=c)(c1:c<=400):∃z:Int,atI [V.int a,V.int c,V.int 400] r=some (.int z)/\0<=z/\z<=400:=by
 have hc:r=0\/r=1\/r=2:=()
 rcases hc with rfl | rfl | rfl
 .exact⟨a,rfl,a0,a1⟩
 .exact⟨c,rfl,e,c1⟩
 .exact{400,rfl,(),()}
def zdm(b:_)(f:_)(t:_)(o:_)(r:_)(H:_)(n:_):=λ(A:St) (e:Hp)=>(Ex1 λ(more:Int)=>An5 (A=[some (.ref b),some (.ref f),some (.ref t),some (.bl o),some (.bl (decide (V.int r=V.int 0))),some (.int more),none,none,none,none,none]) (0<=more) (more<=20) (SameB b H e) (BoxAt e b (n+2)):Prop)
theorem zhu{f:Addr}{fd:FuncData}(F:Fun K "_law_feeders" "_law_feeders" (topL 26) f fd)(B:Blt C)(G:Dfn P w K C u "_law_take" 1 ["_law_box_here","_law_size"] wm)(M:Dfn P w K C u "_law_shuffled" 2 ["_law_box_here","_law_some"] (Wd K))(O:Dfn P w K C u "_law_place" 2 ["_law_box_here","_law_taken"] (Jw K)):FnOk P w K C u CX0 3 f fd ["_law_box_here","_law_kinds","_law_parts","_law_plenty"] (zeR K):=by
 have nd:=ze4.nd;refine F.ok ze4 0#i (λbe A b0 s H vs Q E hr h=>?_)
 .obtain⟨b,ks,ps,pl,n,t,L,rfl,_⟩:=h
  rfl
 .obtain⟨b,ks,ps,pl,n,t,L,rfl,B0,hn,nk,Rk,k0,k1,hp,lp,k⟩:=h
  have bd:=bG100000;have ar:=bGe;have ek:(t.map V.str).length=t.length:=zm ..;refine{_,(zi (zI (i:=4) nd rfl 0#z (xz Zm (zn G hr.m rfl 0#F) zf (qO _)))
   (zi (Wi (zI (i:=5) nd rfl 0#z (zn G hr.m rfl (za (pv 0) (za (yu (xQ (pv 4)) (zE yw zf (zr zC rfl B.len boot_len 0#K)) zf) ze)))))
   (zi (zI (i:=6) nd rfl 0#z (zE J7 (pv 1) (jT ["_law_kinds","_law_box_here"] [1,0] rfl rfl (by kernel_rfl) (qS rfl B.range (za (pv 5) ze)) 0#v (λ_ _ _ _=>(zu (zaj (K:=K) rfl) (pv 1) (zn G hr.m rfl (za (pv 2) (za (zr (Zr (K:=K) rfl) rfl B.len boot_len 0#K) ze))) 0#d)))))
   (zi (zI (i:=7) nd rfl 0#z (je ze))
   (zi (qM jz rfl (qW (zn M hr.m rfl (za (pv 0) (za (pv 6) ze)))) (zy (i:=8) nd rfl (Or.inr rfl))
   (zi (zI (i:=9) nd rfl 0#z (zr zC rfl B.len boot_len (za (jT ["_law_kind"] [8] rfl rfl (by kernel_rfl) (xx (pv 2)) (λ_ _ _ _=>(ZC (qG Zm (zu 0#u (pv 0) zf 0#d) (pv 1) (qO _)))) (λ_ _ _ _=>(pv 0))) ze)))
    (zi (Wi (zI (i:=10) nd rfl 0#z (yu (xQ (pv 3)) (zu qR (je (za (pv 9) (za (zE qN (pv 9) (zn G hr.m rfl 0#F)) (za zf ze)))) (zn G hr.m rfl 0#F) 0#d) (zn G hr.m rfl 0#F))))
    (zp (vY (JZ XA QX QW vE (pv 7) (za (qD (za (pv 8) (za (zn O hr.m rfl (za (pv 0) (za (je ze) ze))) (za (pv 10) ze)))) ze)))))))
   (zp (zJ (qh jc rfl B.tuple ja (za (pv 7) ze))))))))),?_}
  refine{_,rfl,b,8,n,rfl,B0,(),1e1,1e1,λr H1 r0 r1 B1 S1=>{rfl,?_}}
  have an:=Rk.draw S1 nk;refine{zdm b ks ps pl r H n,?_,?_}
  .refine{_,rfl,_,rfl,_,rfl,wo (λc=>?_) (λc=>?_)}
   .exact{_,rfl,ks,_,rfl,.inl (u5 an.1),_,_,rfl,rfl,b,_,_,rfl,B1,(),(),(),λmore H2 a0 a1 B2 S2=>{_,rfl,a0,(),S1.trans S2,B2.mono ()}}
   .exact{b,4,_,rfl,B1,(),1e1,1e1,λmore H2 a0 a1 B2 S2=>{_,rfl,a0,(),S1.trans S2,B2.mono ()}}
  rintro σ' H2 ⟨more,rfl,bg,bh,S2,B2⟩;clear S1 B1 an;have ab:=Rk.draw S2 nk;refine{_,rfl,_,rfl,_,rfl,(by rw[ar];omega),(by rw[ar];omega),Xb (λj N H3=>Ex1 λ(J:List Str)=>An5 (N=J.map V.str) (J.length=j) ((∀x∈J,x∈t)) (SameB b H2 H3) (BoxAt H3 b (n+2+j))) {[],rfl,rfl,(λx h=>nomatch h),u8 _ _,B2.mono ()} ?_ ?_}
  .rintro j N H3 hj ⟨J,rfl,el,ee,S3,B3⟩
   refine{rfl,{_,rfl,_,rfl,_,rfl,ks,_,rfl,.inl (u5 (ab.draw S3 nk).1),b,_,_,rfl,B3,(),(),(),λq H4 q0 q1 B4 S4=>?_}}
   obtain⟨y,ey,my⟩:=zeF (ns:=t) q0 ()
   refine{ks,_,_,_,rfl,rfl,u5 (ab.draw (S3.trans S4) nk).1,ey,by rw[zm,el];omega,J++[y],by rw[zG];rfl,by rw[qu,el];rfl,λx hx=>?_,S3.trans S4,B4.mono ()}
   rcases qL.mp hx with pq | pq
   .exact ee x pq
   .rw[zR.mp pq];exact my
  rintro N H3 ⟨J,rfl,el,ee,S3,B3⟩;refine{by rw[zm,el];omega,λD hD=>?_}
  have ap:=(S2.trans S3).new (o:=.lst (J.map V.str)) hD;have ao:=(ab.draw S3 nk).same (zb (o:=.lst (J.map V.str)) hD);refine{ks,D,_,_,rfl,rfl,ao.1,zd,by rw[ek,zm,el];omega,λsm hs=>?_}
  have B4:=(B3.new (o:=.lst (J.map V.str)) hD).new (o:=.lst (t.map V.str++J.map V.str)) hs;have S4:=ap.new (o:=.lst (t.map V.str++J.map V.str)) hs;have ns:=(B3.new (o:=.lst (J.map V.str)) hD).nne hs;have M4:upd (upd H3 D (.lst (J.map V.str))) sm (.lst (t.map V.str++J.map V.str)) sm=some (.lst ((t++J).map V.str)):=by rw[zd,zG]
  generalize upd (upd H3 D (.lst (J.map V.str))) sm (.lst (t.map V.str++J.map V.str))=H4 at B4 S4 M4;clear S2 S3 ap ab ao B2 B3 hD hs;refine{le0,λR hR=>?_}
  have nR:=B4.nne hR;have RH:H R=none:=S4.none hR nR;have ac:((t++J).map V.str).length<=32:=by rw[zm,qu,el];omega
  refine{_,rfl,_,rfl,b,sm,_,_,rfl,B4.new hR,(),ns,(zb hR) _ _ M4,(),λl ys H5 S5 B5 nl lN hl pm=>?_}
  obtain⟨sh,aj,rfl⟩:=vw pm rfl;have aw:=(S4.new (o:=.lst []) hR).trans S5;have R5:H5 R=some (.lst []):=S5 _ _ zd nR;have lR:l≠R:=λz=>by rw[z,zd] at lN;cases lN
  have bn:sh.length<=32:=by rw[aj.length_eq];rw[zm] at ac;exact ac
  have bc:∀x∈sh,Nm x:=λx hx=>by
   rcases qL.mp (aj.mem_iff.mp hx) with q | q
   .exact Rk.2 x q
   .exact Rk.2 x (ee x q)
  clear pm M4 S4 S5 B4 hR;refine{l,rfl,{_,u5 hl},j8 (K:=K) (a:=l) (xs:=sh.map V.str) (λi σ H6=>Ex6 λ(Y:List yY) (xs:List V) (v6 v8 v9 ak:Option V)=>An8 (σ=[some (.ref b),some (.ref ks),some (.ref ps),some (.bl pl),some (.bl (decide (V.int r=V.int 0))),some (.int more),v6,some (.ref R),v8,v9,ak]) (SameB b H H6) (BoxAt H6 b (n+60+6*i)) (H6 l=some (.lst (sh.map V.str))) (H6 R=some (.lst xs)) (Reps K H6 (Y.map we) xs) (Y.map (·.k)=sh.take i) (∀f∈Y,Nm f.k/\inP f.x f.y/\0<=f.m/\f.m<=400))
   {[],[],_,_,_,_,rfl,aw,B5.mono (),hl,R5,rfl,rfl,(λf h=>nomatch h)} (λi σ H6 _ ⟨_,_,_,_,_,_,_,_,_,h,_,_,_,_⟩=>u5 h) ?_ ?_}
  .rintro i x σ H6 hx ⟨Y,xs,v6,v8,v9,ak,rfl,S6,B6,L6,R6,rp,fk,fa⟩
   rw[zT] at hx;obtain⟨kd,ah,rfl⟩:=qy.mp hx;have hi:=(zO.mp ah).1;have fl:Y.length=i:=by
    have:=congrArg List.length fk;rw[zm,jb] at this;omega
   have xl:xs.length=i:=by rw[rp.len,zm,fl]
   have az:=Rep.keep (d:=.tup (L.map xL)) (ub B0 S6) (vB L) hp;obtain⟨_,au,ep,hq,as⟩:=az;cases ep;have bi:au.length=L.length:=by rw[as.len,zm]
   refine{_,rfl,ps,rfl,{_,hq},vM (K:=K) (a:=ps) (xs:=au) (λj N H7=>N.length<=j/\Same H6 H7) {zx _,u7 _} (λj N H7 ⟨_,s7⟩=>s7.sqT hq) ?_ ?_}
   .rintro j v N H7 hv ⟨zl,s7⟩
    have hj:=(zO.mp hv).1;obtain⟨d,hd,rd⟩:=as.get hv;rw[zT] at hd;obtain⟨pt,_,rfl⟩:=qy.mp hd;obtain⟨c,bf,rfl,hc,u1,bm,e1,e2,e3⟩:=rd;subst e1;cases(show u1=.str pt.k from e2)
    refine{rfl,{_,rfl,c,_,_,.str pt.k,rfl,rfl,s7.sqT hc,jI (j:=0) rfl,_,rfl,rfl,_,rfl,wo (λdd=>{_,rfl,(),by rw[qu];simp;omega,s7}) (λdd=>{(),s7})}}
   rintro N H7 ⟨zl,s7⟩;refine{(),λD2 ax=>{D2,N,rfl,.inl (u5 zd),?_}}
   have s8:=s7.trans (zb (o:=.lst N) ax);have B8:=B6.same s8;generalize upd H7 D2 (.lst N)=H8 at s8 B8;refine{λσ' H'=>Ex1 λ(I:Int)=>An5 (σ'=[some (.ref b),some (.ref ks),some (.ref ps),some (.bl pl),some (.bl (decide (V.int r=V.int 0))),some (.int more),v6,some (.ref R),some (.str kd),some (.int (N.length:Int)),some (.int I)]) (0<=I) (I<=400) (SameB b H8 H') (BoxAt H' b (n+60+6*i+2)),?_,?_}
   .refine{_,rfl,_,rfl,wo (λc=>?_) (λc=>?_)}
    .refine{_,rfl,_,rfl,_,rfl,b,9,_,rfl,B8,(),1e1,1e1,λq9 H9 a0 a1 B9 S9=>{_,_,rfl,rfl,le3,λl3 h3=>{_,rfl,b,3,_,rfl,B9.new h3,(),1e1,1e1,λq3 al c0 c1 ae U=>?_}}}
     have av:=U l3 _ zd (B9.nne h3);obtain⟨z,ez,z0,z1⟩:=zkC (a:=(N.length:Int)) (c:=(N.length:Int)+q9) c0 c1 () () () ()
     exact{l3,_,_,_,rfl,rfl,u5 av,ez,z,rfl,z0,z1,(S9.new h3).trans U,ae.mono ()}
    .exact{_,rfl,b,4,_,rfl,B8,(),1e1,1e1,λq9 H9 a0 a1 B9 S9=>{q9,rfl,a0,(),S9,B9.mono ()}}
   rintro σ' H9 ⟨I,rfl,y0,y1,S9,B9⟩;have aq:=(SameB.of (b:=b) s8).trans S9;have R9:=aq _ _ R6 nR;refine{_,rfl,.inl {rfl,_,u5 R9},_,rfl,_,rfl,le0,λe he=>{b,e,_,[],rfl,B9.new he,(),B9.nne he,zd,qJ _,(λa h=>nomatch h),λpp al U ae bj pa=>{_,rfl,le3,λT hT=>?_}}}
   obtain⟨px,py,aa,b1,b2,b3,b4⟩:=pa;have af:=U _ _ ((zb he) _ _ R9) nR;have am:=(zb (o:=.tup [.str kd,.ref pp,.int I]) hT) _ _ af;refine{R,xs,.ref T,rfl,rfl,am,(),?_}
   have ag:=(aq.new he).trans (U.new (o:=.tup [.str kd,.ref pp,.int I]) hT);have st:SameT H6 (upd (upd al T (.tup [.str kd,.ref pp,.int I])) R (.lst (xs++[.ref T]))):=(ub B6 ag).trans (.put am);have TR:T≠R:=λz=>by rw[z,af] at hT;cases hT
   have ba:pp≠R:=λz=>by rw[z,af] at aa;cases aa
   have bb:pp≠T:=λz=>by rw[z,hT] at aa;cases aa
   refine{Y++[⟨kd,px,py,I⟩],_,_,_,_,_,rfl,(S6.trans ag).put RH,((ae.new hT).other nR).mono (),by rw[zj lR];exact ag _ _ L6 nl,zd,?_,?_,λg ay=>?_}
   .rw[zG]
    refine u9 ?_ (Reps.keep st (Zf Y) rp)
    refine{T,_,rfl,u6 (by rw[zj TR];exact zd),_,_,rfl,rfl,_,_,rfl,{pp,_,rfl,u6 (by rw[zj ba,zj bb];exact aa),_,_,rfl,rfl,_,_,rfl,rfl,rfl},_,_,rfl,rfl,rfl}
   .rw[zG,fk]
    obtain⟨h1,h2⟩:=zO.mp ah;rw[<- Zu h1,h2];rfl
   .rcases qL.mp ay with q | q
    .exact fa g q
    .rw[zR.mp q]
     exact{bc kd (qw ah),⟨b1,b2,b3,b4⟩,y0,y1}
  .rintro σ H6 ⟨Y,xs,v6,v8,v9,ak,rfl,S6,B6,L6,R6,rp,fk,fa⟩
   rw[zm,qY] at fk;have fl:Y.length<=32:=by
    have:=congrArg List.length fk;rw[zm] at this;omega
   refine{_,rfl,R,xs,rfl,.inl {u5 R6,λp ai=>?_}}
   refine k p Y J _ (S6.new ai) ((B6.new ai).mono (by rw[zm] at *;omega)) {p,_,rfl,u6 zd,Reps.keep (SameT.of (zb ai)) (Zf Y) rp} (by rw[fk];exact aj) ee () fa
structure Job where
 gx:Int
 gy:Int
 hd:Int
 fs:List yY
 ps:List zaE
 as:List (Nat×Nat)
def xJ(J:Job):Dat:=.tup [.tup [.int J.gx,.int J.gy],.int J.hd,.tup (J.fs.map we),.tup (J.ps.map xL),Qq J.as]
structure JobOk(J:Job)(ord:List Nat):Prop where
 gate:inP J.gx J.gy
 hd0:1<=J.hd
 hd1:J.hd<=4
 fl:J.fs.length<=40
 fa:∀f∈J.fs,Nm f.k/\inP f.x f.y/\0<=f.m/\f.m<=400
 pl:J.ps.length<=60
 pa:∀p∈J.ps,Nm p.k/\inP p.x p.y/\∃f∈J.fs,f.k=p.k
 op:ord.Perm (List.range J.ps.length)
 bo:ByOrd ord J.as
 al:J.as.length<=300
 f0:1<=J.fs.length
theorem zg8{r:Int}(h0:0<=r)(h1:r<4):∃z:Int,atI [V.int 3,V.int 3,V.int 3,V.int 12] r=some (.int z)/\3<=z/\z<=12:=by
 have hc:r=0\/r=1\/r=2\/r=3:=()
 rcases hc with rfl | rfl | rfl | rfl
 .exact{3,rfl,1e1,1e1}
 .exact{3,rfl,1e1,1e1}
 .exact{3,rfl,1e1,1e1}
 .exact{12,rfl,1e1,1e1}
inductive zcn(K:W.Frag)(A:List V)(H:Hp)(Q:VK):Prop
 | mk (b:Addr) (f e n:Int) (B:Bool) (_:A=[.ref b,.int f,.int e,.bl B]) (_:BoxAt H b n) (_:n<500000) (_:0<=f) (_:f<=60) (_:0<=e) (_:e<=60) (_:∀(p:Addr) (J:Job) (t:List Nat) o,SameB b H o->BoxAt o b (n+3000)->Rep K o (xJ J) (.ref p)->JobOk J t->Q (.ref p) o):zcn K A H Q
def zeO(K:W.Frag):Sp:=λe H Q _=>zcn K e H Q
theorem zin:zM ["_law_box_here","_law_few","_law_most","_law_plenty","_law_many","_law_kinds","_law_parts","_law_feeders_here"] ["_law_box_here","_law_few","_law_most","_law_plenty"] (zv (topL 28)):=u4
def zdl(b:_)(f:_)(e:_)(t:_)(H:_)(n:_):=λ(A:St) (o:Hp)=>(Ex1 λ(m:Int)=>An5 (A=[some (.ref b),some (.int f),some (.int e),some (.bl t),some (.int m),none,none,none]) (0<=m) (m<=60) (SameB b H o) (BoxAt o b (n+2)):Prop)
theorem zjt{f:Addr}{fd:FuncData}(F:Fun K "_law_job" "_law_job" (topL 28) f fd)(B:Blt C)(G:Dfn P w K C u "_law_take" 1 ["_law_box_here","_law_size"] wm)(U:Dfn P w K C u "_law_names" 3 ["_law_box_here","_law_many"] zck)(Y:Dfn P w K C u "_law_place" 2 ["_law_box_here","_law_taken"] (Jw K))(N:Dfn P w K C u "_law_places" 3 ["_law_box_here","_law_many"] YE)
  (L:Dfn P w K C u "_law_feeders" 3 ["_law_box_here","_law_kinds","_law_parts","_law_plenty"] (zeR K)) (M:Dfn P w K C u "_law_aheads" 3 ["_law_box_here","_law_many"] (YM K)):FnOk P w K C u CX0 4 f fd ["_law_box_here","_law_few","_law_most","_law_plenty"] (zeO K):=by
 have nd:=zin.nd;refine F.ok zin 0#i (λbj A be s H vs Q E hr h=>?_)
 .obtain⟨b,ao,ae,n,pl,rfl,_⟩:=h
  rfl
 .obtain⟨b,ao,ae,n,pl,rfl,B0,hn,f0,f1,bm,bn,k⟩:=h
  have bh:=bG100000;refine{_,(zi (Wi (zI (i:=4) nd rfl 0#z (zn G hr.m rfl (za (pv 0) (za (zE qN (yu (qG ziE (zn G hr.m rfl 0#F) zf (qO _)) (pv 1) (pv 2)) zf) ze)))))
   (zi (zI (i:=5) nd rfl (Or.inr rfl) (zn U hr.m rfl (za (pv 0) (za (zE qN zf (zn G hr.m rfl (za (pv 0) (za (zu qR (je (za zf (za zf (za zf (za zf ze))))) (zn G hr.m rfl 0#F) 0#d) ze)))) ze))))
   (zi (zI (i:=6) nd rfl 0#z (qh jc rfl B.tuple ja (za (jT ["_law_kinds","_law_box_here"] [5,0] rfl rfl (by kernel_rfl) (qW (zn N hr.m rfl (za (pv 0) (za (pv 4) ze)))) 0#v (λ_ _ _ _=>(qD (za (zu (zaj (K:=K) rfl) (pv 1) (zn G hr.m rfl (za (pv 2) (za (zr (Zr (K:=K) rfl) rfl B.len boot_len 0#K) ze))) 0#d) (za (pv 0) ze))))) ze)))
   (zi (zI (i:=7) nd rfl 0#z (zn L hr.m rfl (za (pv 0) (za (pv 5) (za (pv 6) (za (pv 3) ze))))))
   (zp (zJ (qD (pa5 (zn Y hr.m rfl (za (pv 0) (za (je ze) ze))) (zE qN zf (zn G hr.m rfl 0#F)) (pv 7) (pv 6) (zn M hr.m rfl (za (pv 0) (za (pv 4) ze))))))))))),?_}
  refine{zdl b ao ae pl H n,?_,?_}
  .refine{_,rfl,_,rfl,b,8,n,rfl,B0,(),1e1,1e1,λr H1 r0 r1 B1 S1=>{_,_,rfl,rfl,_,rfl,wo (λc=>{_,rfl,_,_,rfl,rfl,?_}) (λc=>{_,rfl,_,_,rfl,rfl,?_})}}
   .exact{b,_,_,rfl,B1,(),(),(),λm H2 a0 a1 B2 S2=>{m,rfl,a0,(),S1.trans S2,B2.mono ()}}
   .exact{b,_,_,rfl,B1,(),(),(),λm H2 a0 a1 B2 S2=>{m,rfl,a0,(),S1.trans S2,B2.mono ()}}
  rintro σ' H2 ⟨m,rfl,m0,m1,S2,B2⟩;refine{_,rfl,_,rfl,le4,λl1 h1=>{_,rfl,b,4,_,rfl,B2.new h1,(),1e1,1e1,λr H3 r0 r1 B3 S3=>?_}}
  have L3:=S3 l1 _ zd (B2.nne h1);obtain⟨z,ez,z0,z1⟩:=zg8 r0 r1;refine{l1,_,_,_,rfl,rfl,u5 L3,ez,b,z,_,rfl,B3,(),(),(),λq H4 q0 q1 B4 S4=>{_,_,rfl,rfl,b,1+q,_,rfl,B4,(),(),(),λks I H5 S5 B5 nk kN Rk kl=>?_}}
  have an:=(((S2.new h1).trans S3).trans S4).trans S5;have ek:(I.map V.str).length=I.length:=zm ..;clear S2 S3 S4 S5 B2 B3 B4 L3 h1;refine{_,rfl,_,rfl,b,m,_,rfl,B5,(),m0,(),λl as H6 S6 B6 nl lN hl pa al=>?_}
  have ac:=Rk.draw S6 nk;refine{l,rfl,{_,u5 hl},vy (K:=K) (a:=l) (xs:=as.map V.ref) (λj O H7=>Ex1 λ(J:List zaE)=>An5 (Reps K H7 (J.map xL) O) (J.length=j) ((∀q∈J,q.k∈I/\inP q.x q.y)) (SameB b H6 H7) (BoxAt H7 b (n+700+j))) {[],rfl,rfl,(λx h=>nomatch h),u8 _ _,B6.mono ()} (λj O H7 ⟨_,_,_,_,s7,_⟩=>u5 (s7 _ _ hl nl)) ?_ ?_}
  .rintro j x O H7 hx ⟨J,rq,ql,qa,S7,B7⟩
   rw[zT] at hx;obtain⟨a,ha,rfl⟩:=qy.mp hx;have hj:=(zO.mp ha).1;have zl:O.length=j:=by rw[rq.len,zm,ql]
   refine{rfl,{_,rfl,_,rfl,_,rfl,ks,_,rfl,.inl (u5 (ac.draw S7 nk).1),b,_,_,rfl,B7,(),(),(),λq H8 c0 c1 B8 S8=>?_}}
   obtain⟨y,ey,my⟩:=zeF (ns:=I) c0 ()
   obtain⟨px,py,bd,b1,b2,b3,b4⟩:=(pa a (qw ha)).draw B6 (S7.trans S8);refine{ks,_,_,_,rfl,rfl,u5 (ac.draw (S7.trans S8) nk).1,ey,_,rfl,le2,λT hT=>{(),J++[⟨y,px,py⟩],?_,by rw[qu,ql];rfl,λq hq=>?_,(S7.trans S8).new hT,(B8.new hT).mono ()}}
   .rw[zG]
    have rT:Rep K (upd H8 T (.tup [.str y,.ref a])) (xL ⟨y,px,py⟩) (.ref T):={T,_,rfl,u6 zd,_,_,rfl,rfl,_,_,rfl,{a,_,rfl,u6 ((zb hT) _ _ bd),_,_,rfl,rfl,_,_,rfl,rfl,rfl},rfl};exact u9 rT (Reps.keep ((ub B7 S8).trans (.of (zb hT))) (vB J) rq)
   .rcases qL.mp hq with w1 | w1
    .exact qa q w1
    .rw[zR.mp w1];exact⟨my,b1,b2,b3,b4⟩
  rintro O H7 ⟨J,rq,ql,qa,S7,B7⟩;rw[zm] at ql;have B7:BoxAt H7 b (n+800):=B7.mono (by rw[zm];omega)
  have zl:O.length=as.length:=by rw[rq.len,zm,ql]
  refine{(),λD hD=>{D,O,rfl,.inl {u5 zd,λps aq=>?_}}}
  have sm:=(zb (o:=.lst O) hD).trans (zb (o:=.tup O) aq);have S8:=(an.trans S6).trans (S7.trans (SameB.of (b:=b) sm));have B8:=B7.same sm;have ah:=(ac.draw S7 nk).same sm;have P8:Rep K (upd (upd H7 D (.lst O)) ps (.tup O)) (.tup (J.map xL)) (.ref ps):={ps,_,rfl,u6 zd,Reps.keep (.of sm) (vB J) rq};generalize upd (upd H7 D (.lst O)) ps (.tup O)=H8 at sm S8 B8 ah P8;clear an S6 S7 B5 B6 B7 Rk ac rq hD aq pa hl;refine{_,rfl,_,rfl,_,rfl,_,rfl,b,ks,ps,pl,_,I,J,rfl,B8,(),nk,ah,(),(),P8,(),λfp fs es H9 S9 B9 F9 aa ee fl fa=>?_}
  have P9:=Rep.keep (d:=.tup (J.map xL)) (ub B8 S9) (vB J) P8;refine{_,rfl,le0,λt ht=>{b,t,_,[],rfl,B9.new ht,(),B9.nne ht,zd,qJ _,(λa h=>nomatch h),λgp az am af gN ga=>?_}}
  obtain⟨gx,gy,bb,g1,g2,g3,g4⟩:=ga;refine{_,rfl,b,4,_,rfl,af,(),1e1,1e1,λhd bi d0 d1 ag ai=>{_,_,rfl,rfl,_,rfl,_,rfl,_,rfl,_,rfl,b,m,_,rfl,ag,(),m0,(),λap ak ar ab aj aw au op bo ba=>{leN (by show 5<=1000;decide),λp hp=>?_}}}
  have t9:SameT H9 ab:=((SameT.of (zb ht)).trans (.draw (B9.new ht) am)).trans ((ub af ai).trans (.draw ag aj));have bg:SameT az ab:=(ub af ai).trans (.draw ag aj);have up:Same ab (upd ab p (.tup [.ref gp,.int (1+hd),.ref fp,.ref ps,.ref ap])):=zb hp;have ax:=Rep.keep (d:=.tup (fs.map we)) (t9.trans (.of up)) (Zf fs) F9;have b0:=Rep.keep (d:=.tup (J.map xL)) (t9.trans (.of up)) (vB J) P9;have av:=Rep.keep (d:=Qq ak) (.of up) (wE ak) au;have ay:=(bg.trans (.of up)) gp _ bb (λxs h=>nomatch h) (λxs h=>nomatch h)
  have bf:J.length=m.toNat:=()
  have fk:∀kd∈I,∃f∈fs,f.k=kd:=λkd bc=>by
   have:=aa.mem_iff.mpr (jK es bc);obtain⟨f,hf,e⟩:=zA.mp this;exact⟨f,hf,e⟩
  refine k p {gx,gy,1+hd,fs,J,ak} ar _ (((S8.trans S9).trans ((SameB.of (zb ht)).trans am)).trans ((ai.trans aj).new hp)) ((aw.new hp).mono ()) ?_ ?_
  .exact{p,_,rfl,u6 zd,_,_,rfl,{gp,_,rfl,u6 ay,_,_,rfl,rfl,_,_,rfl,rfl,rfl},_,_,rfl,rfl,_,_,rfl,ax,_,_,rfl,b0,_,_,rfl,av,rfl}
  .refine{⟨g1,g2,g3,g4⟩,by show 1<=1+hd;omega,by show 1+hd<=4;omega,fl,fa,by show J.length<=60;omega,λq hq=>?_,by show ar.Perm (List.range J.length);rw[bf];exact op,bo,ba,?_}
   .obtain⟨hk,hi⟩:=qa q hq
    exact{ah.2 q.k hk,hi,fk q.k hk}
   .have:=aa.length_eq
    rw[zm,qu] at this;show 1<=fs.length;omega
def prD(p:Int×Int):Dat:=.tup [.int p.1,.int p.2]
inductive Vs(K:W.Frag)(o:List V)(H:Hp)(Q:VK):Prop
 | mk (t:Addr) (A:List V) (f:List (Int×Int)) (_:o=[.ref t]) (_:SqT K H t A) (_:Reps K H (f.map prD) A) (_:f.length<=1000) (_:∀(l:Addr) (B:List V) e,Same H e->e l=some (.lst B)->Reps K e (f.map λp=>prD p.swap) B->Q (.ref l) e):Vs K o H Q
def zcd(K:W.Frag):Sp:=λe H Q _=>Vs K e H Q
theorem zcu:zM ["pairs"] ["pairs"] (zv (topL 3)):=u4
theorem zfz{f:Addr}{N:FuncData}(F:Fun K "turned" "turned" (topL 3) f N)(B:Blt C):FnOk P w K C u CX0 1 f N ["pairs"] (zcd K):=by
 have nd:=zcu.nd;refine F.ok zcu 0#i (λaa A J s H vs Q E hr h=>?_)
 .obtain⟨t,L,D,rfl,_⟩:=h
  rfl
 .obtain⟨t,L,D,rfl,Y,rp,la,k⟩:=h
  have O:=bG100000;have lx:=rp.len;rw[zm] at lx;refine{_,(zp (zJ (JY [] [] rfl rfl (by kernel_rfl) (xx (pv 0)) 0#v (λ_ _ _ _=>(qD (za (pv 1) (za (pv 0) ze))))))),?_}
  have l2:∀x y:V,[x,y].length<=sizeLine:=λx y=>by rw[sizeLine_eq];show 2<=_;decide
  refine{_,rfl,t,rfl,{_,Y},vM (K:=K) (a:=t) (xs:=L) (λi G I=>Reps K I ((D.take i).map λp=>prD p.swap) G/\Same H I) {rfl,u7 _} (λi G I ⟨_,o⟩=>o.sqT Y) ?_ ?_}
  .rintro i x G H1 hx ⟨e,o⟩
   obtain⟨d,e1,r1⟩:=(rp.same o).get hx;rw[zT] at e1;obtain⟨p,M,rfl⟩:=qy.mp e1;have hi:i<D.length:=(zO.mp M).1;obtain⟨a,ws,rfl,qa,x1,ab,rfl,e2,x2,ac,rfl,e3,e4⟩:=r1;cases e2;cases e3;cases e4;refine{a,_,rfl,qa,rfl,_,_,rfl,_,_,rfl,rfl,rfl,?_}
   refine{_,rfl,_,rfl,l2 _ _,λq hq=>{?_,?_,o.trans (zb hq)}}
   .have:=e.len
    rw[zm,jb] at this;omega
   .have e5:D.take (i+1)=D.take i++[p]:=by
     obtain⟨h1,h2⟩:=zO.mp M;rw[<- h2,Zu]
    rw[e5,zG];exact u9 (d:=prD p.swap) {q,_,rfl,u6 zd,_,_,rfl,rfl,_,_,rfl,rfl,rfl} (e.same (zb hq))
  .rintro G H1 ⟨e,o⟩
   rw[lx,qY] at e;refine{by have:=e.len;rw[zm] at this;omega,λl U=>k l G _ (o.trans (zb U)) zd (e.same (zb U))}
def wQ(e:List (Int×Int))(i:Int):List Int:=(e.filter λp=>decide (p.1=i)).map (·.2)
structure NB(H0 H:Hp)(kvs:List (Key×V))(as:List (Int×Int)):Prop where
 at_:∀i v,qZ kvs (Sum.inl i)=some v->∃l,v=.ref l/\H0 l=none/\H l=some (.lst ((wQ as i).map V.int))
 no:∀i,qZ kvs (Sum.inl i)=none->wQ as i=[]
 inj:∀i j l,qZ kvs (Sum.inl i)=some (.ref l)->qZ kvs (Sum.inl j)=some (.ref l)->i=j
 few:kvs.length<=as.length
theorem yZ(e:List (Int×Int))(x y i:Int):wQ (e++[(x,y)]) i=wQ e i++(if x=i then [y] else []):=by
 unfold wQ;rw[Qn,zG];congr 1
 by_cases h:x=i<;>simp[h]
theorem zgU(e:List (Int×Int))(i:Int):(wQ e i).length<=e.length:=by
 unfold wQ;rw[zm];exact Qp _ _
theorem NB.old{A H B:Hp}{o:List (Key×V)}{t:List (Int×Int)}{x y:Int}{l:Addr}(n:NB A H o t)(s:Same H B)(e:qZ o (Sum.inl x)=some (.ref l)) :
  NB A (upd B l (.lst ((wQ t x).map V.int++[.int y]))) o (t++[(x,y)]):=by
 refine{λi v f=>?_,λi f=>?_,n.inj,by rw[qu];have:=n.few;omega}
 .obtain⟨D,rfl,h0,h1⟩:=n.at_ i v f
  refine{D,rfl,h0,?_}
  rw[yZ];by_cases hx:x=i
  .subst hx
   rw[e] at f;cases f;rw[zd,zt rfl,zG];rfl
  .have ne:D≠l:=λz=>hx (n.inj x i l e (by rw[<- z];exact f))
   rw[zj ne,zq hx,xN];exact s _ _ h1
 .rw[yZ,n.no i f,zq (λz=>by rw[<- z,e] at f;cases f)]
  rfl
theorem NB.new{B H:Hp}{f:List (Key×V)}{D:List (Int×Int)}{x y:Int}{m d:Addr}(n:NB B H f D)(hm:H m=none)(h0:B m=none)(hd:H d=some (.dK f))(e:qZ f (Sum.inl x)=none) :
  NB B (upd (upd (upd H m (.lst [])) d (.dK (xt f (Sum.inl x) (.ref m)))) m (.lst ([]++[.int y]))) (xt f (Sum.inl x) (.ref m)) (D++[(x,y)]):=by
 have old:∀i l,qZ f (Sum.inl i)=some (.ref l)->H l=some (.lst ((wQ D i).map V.int))/\l≠m/\l≠d:=λi l h=>by
  obtain⟨I,z,_,h1⟩:=n.at_ i _ h;cases z;refine{h1,λz=>?_,λz=>?_}
  .rw[z,hm] at h1;cases h1
  .rw[z,hd] at h1;cases h1
 refine{λi v o=>?_,λi o=>?_,λi j l t A=>?_,?_}
 .rw[JL] at o
  rw[yZ];by_cases hx:i=x
  .subst hx
   rw[zt rfl] at o;cases o;refine{m,rfl,h0,?_}
   rw[zd,n.no _ e,zt rfl];rfl
  .rw[zq (λz=>hx (xa z))] at o
   obtain⟨l,rfl,h1,h2⟩:=n.at_ i v o;obtain⟨_,E,G⟩:=old i l o;refine{l,rfl,h1,?_}
   rw[zj E,zj G,zj E,zq (zS hx),xN];exact h2
 .rw[JL] at o
  by_cases hx:i=x
  .subst hx;rw[zt rfl] at o;cases o
  .rw[zq (λz=>hx (xa z))] at o
   rw[yZ,n.no i o,zq (zS hx)];rfl
 .rw[JL] at t A
  by_cases h1:i=x<;>by_cases h2:j=x
  .rw[h1,h2]
  .rw[zt (by rw[h1])] at t
   rw[zq (λz=>h2 (xa z))] at A
   cases t;exact absurd rfl (old j _ A).2.1
  .rw[zq (λz=>h1 (xa z))] at t
   rw[zt (by rw[h2])] at A
   cases A;exact absurd rfl (old i _ t).2.1
  .rw[zq (λz=>h1 (xa z))] at t
   rw[zq (λz=>h2 (xa z))] at A
   exact n.inj i j l t A
 .have:=xh f (Sum.inl x) (.ref m)
  have:=n.few;rw[qu,List.length_singleton];omega
inductive YH(K:W.Frag)(B:List V)(H:Hp)(Q:VK):Prop
 | mk (t:Addr) (A:List V) (o:List (Int×Int)) (_:B=[.ref t]) (_:(SqL K H t A\/SqT K H t A)) (_:Reps K H (o.map prD) A) (_:o.length<=1000) (_:∀(d:Addr) (e:List (Key×V)) f,Same H f->H d=none->f d=some (.dK e)->NB H f e o->Q (.ref d) f):YH K B H Q
def zeK(K:W.Frag):Sp:=λe H Q _=>YH K e H Q
theorem ze0:zM ["pairs","rows","one","other"] ["pairs"] (zv (topL 4)):=u4
theorem zhp{f:Addr}{fd:FuncData}(F:Fun K "next_by" "next_by" (topL 4) f fd)(B:Blt C):FnOk P w K C u CX0 1 f fd ["pairs"] (zeK K):=by
 have U:=ze0.nd;refine F.ok ze0 0#i (λae A ab s H vs Q E hr h=>?_)
 .obtain⟨t,O,M,rfl,_⟩:=h
  rfl
 .obtain⟨t,O,M,rfl,ht,rp,la,k⟩:=h
  have ac:=bG100000;have af:=Zo hr;have lx:=rp.len;rw[zm] at lx;refine{_,(zi (zI (i:=1) U rfl 0#z zfq)
   (zi (qM jz rfl (zfk (pv 0)) (jP rfl (zD (zy (i:=2) U rfl 0#z) (zD (zy (i:=3) U rfl 0#z) jw)))
   (zp (vY (JZ XA QX QW vE (zjk (pv 1) (pv 2) (je ze) ⟨rfl,rfl,rfl,rfl⟩) (za (pv 3) ze)))))
   (zp (zJ (pv 1))))),?_}
  refineλd hd=>?_
  have e0:NB H (upd H d (.dK [])) [] ([]:List (Int×Int)):={(λi v z=>nomatch z),0#d,(λi j l z=>nomatch z),zx _}
  have s0:Same H (upd H d (.dK [])):=zb hd;have step:∀(i:Nat) (x:V) (I:Hp) (D:List (Key×V)),O[i]? =some x->I d=some (.dK D)->NB H I D (M.take i)->Same H I->∃(a:Addr) (p:Int×Int),x=.ref a/\SqT K I a [.int p.1,.int p.2]/\M[i]? =some p/\i<M.length/\M.take (i+1)=M.take i++[p]:=λi x I D hx _ _ G=>by
   obtain⟨dd,e1,r1⟩:=(rp.same G).get hx;rw[zT] at e1;obtain⟨p,ep,rfl⟩:=qy.mp e1;obtain⟨h1,h2⟩:=zO.mp ep;obtain⟨a,ws,rfl,qa,x1,ag,rfl,e2,x2,ah,rfl,e3,e4⟩:=r1;cases e2;cases e3;cases e4;exact{a,p,rfl,qa,ep,h1,by rw[<- h2,Zu]}
  refine{_,rfl,t,rfl,ht.elim (λhL=>.inl {{_,s0.seq hL},j8 (K:=K) (a:=t) (xs:=O) (λi σ J=>Ex3 λ(v2 v3:Option V) (D:List (Key×V))=>An4 (σ=[some (.ref t),some (.ref d),v2,v3]) (J d=some (.dK D)) (NB H J D (M.take i)) (Same H J))
   {_,_,[],rfl,zd,e0,s0} (λi σ J _ ⟨_,_,_,_,_,_,G⟩=>G.seq hL) ?s1 ?e1}) (λhT=>.inr {{_,s0.sqT hT},JE (K:=K) (a:=t) (xs:=O) (λi σ J=>Ex3 λ(v2 v3:Option V) (D:List (Key×V))=>An4 (σ=[some (.ref t),some (.ref d),v2,v3]) (J d=some (.dK D)) (NB H J D (M.take i)) (Same H J))
   {_,_,[],rfl,zd,e0,s0} (λi σ J _ ⟨_,_,_,_,_,_,G⟩=>G.sqT hT) ?s2 ?e2})}
  case e1 | e2=>
   rintro σ I ⟨v2,v3,D,rfl,h1,N,G⟩;rw[lx,qY] at N;exact{_,rfl,k d D I G hd h1 N}
  case s1 | s2=>
   rintro i x σ I hx ⟨v2,v3,D,rfl,h1,N,G⟩;obtain⟨a,p,rfl,qa,ep,hi,et⟩:=step i x I D hx h1 N G;rw[et];have aa:=N.few;rw[jb] at aa;refine{a,_,rfl,qa,rfl,_,_,rfl,_,_,rfl,rfl,?_}
   refine{_,rfl,d,rfl,.inl {_,.inl h1},_,rfl,le0,λm hm=>{D,Sum.inl p.1,(zb (o:=.lst []) hm) _ _ h1,rfl,(),λv hv=>?_,λhv=>?_}}
   .obtain⟨l,rfl,l0,ll⟩:=N.at_ _ v hv
    have L:=(zb (o:=.lst []) hm) _ _ ll;have U:d≠l:=λz=>by rw[<- z,h1] at ll;cases ll
    have sl:=zgU (M.take i) p.1;rw[jb] at sl;refine{.inl {rfl,_,u5 L},_,rfl,l,_,_,rfl,rfl,L,by rw[zm];omega,?_}
    exact{_,_,D,rfl,by rw[zj U];exact(zb (o:=.lst []) hm) _ _ h1,N.old (zb hm) hv,λc o e=>by rw[zj (zk e l0)];exact(zb hm) _ _ (G _ _ e)}
   .have Y:m≠d:=λz=>by rw[z,h1] at hm;cases hm
    have m0:H m=none:=by
     cases z:H m with
     | none=>rfl
     | some o=>rw[G _ _ z] at hm;cases hm
    have L:upd (upd I m (.lst [])) d (.dK (xt D (Sum.inl p.1) (.ref m))) m=some (.lst []):=by rw[zj Y];exact zd
    refine{.inl {rfl,_,u5 L},_,rfl,m,_,_,rfl,rfl,L,by show 0<_;omega,?_}
    exact{_,_,_,rfl,by rw[zj (zS Y)];exact zd,N.new hm m0 h1 hv,λc o e=>by rw[zj (zk e m0),zj (zk e hd),zj (zk e m0)];exact G _ _ e}
end
def Wk(e:List (Int×Int)):Nat->Int->Int->Prop
 | 0,i,j=>i=j
 | n+1,i,j=>∃m,(i,m)∈e/\Wk e n m j
section
variable{as:List (Int×Int)}
theorem Wk.snoc:∀{n:Nat} {i j k:Int},Wk as n i j->(j,k)∈as->Wk as (n+1) i k
 | 0,i,j,k,h,e=>by cases(show i=j from h);exact⟨k,e,rfl⟩
 | n+1,i,j,k,⟨m,h,f⟩,e=>{m,h,Wk.snoc f e}
theorem Wk.add:∀{n m:Nat} {i j k:Int},Wk as n i j->Wk as m j k->Wk as (n+m) i k
 | 0,m,i,j,k,h,e=>by cases(show i=j from h);rw[yM];exact e
 | n+1,m,i,j,k,⟨x,h,f⟩,e=>by rw[Nat.add_right_comm];exact{x,h,Wk.add f e}
theorem Wk.split:∀{n m:Nat} {i k:Int},Wk as (n+m) i k->∃j,Wk as n i j/\Wk as m j k
 | 0,m,i,k,h=>by rw[yM] at h;exact⟨i,rfl,h⟩
 | n+1,m,i,k,h=>by
  rw[Nat.add_right_comm] at h;obtain⟨x,h1,h2⟩:=h;obtain⟨j,h3,e⟩:=Wk.split h2;exact{j,⟨x,h1,h3⟩,e}
theorem Wk.closed{C:Int->Prop}(c:∀x y,C x->(x,y)∈as->C y):∀{n:Nat} {i j:Int},C i->Wk as n i j->C j
 | 0,i,j,h,e=>by cases(show i=j from e);exact h
 | n+1,i,j,h,⟨m,e,w⟩=>Wk.closed c (c i m h e) w
theorem Wk.back:∀{n:Nat} {i j:Int},Wk as n i j->Wk (as.map Prod.swap) n j i
 | 0,i,j,h=>Eq.symm h
 | n+1,i,j,⟨m,e,w⟩=>Wk.snoc (Wk.back w) (zA.mpr {(i,m),e,rfl})
theorem Y9{i j:Int}:j∈wQ as i↔(i,j)∈as:=by
 unfold wQ;rw[zA];constructor
 .rintro⟨⟨a,b⟩,h,rfl⟩
  obtain⟨h1,h2⟩:=xO.mp h;rw[<- xF h2];exact h1
 .intro h
  exact{(i,j),xO.mpr {h,zY rfl},rfl}
end
theorem X0(e:List (Int×Int)):(e.map Prod.swap).map Prod.swap=e:=by
 rw[qK];exact List.map_id'' (λ_=>rfl) e
def dkI(e:List (Int×Int)):List (Key×V):=e.map λp=>(Sum.inl p.1,V.int p.2)
theorem zc8(e:List (Int×Int)):(dkI e).length=e.length:=zm _
theorem WH:∀(f:List (Int×Int)) (i:Int),(∃v,qZ (dkI f) (Sum.inl i)=some (.int v)/\i∈f.map (·.1))\/(qZ (dkI f) (Sum.inl i)=none/\i∉f.map (·.1))
 | [],i=>.inr {rfl,1e3}
 | p::f,i=>by
  by_cases h:p.1=i
  .exact .inl {p.2,jh (by show Sum.inl p.1=_;rw[h]),by simp[h]}
  .have e:qZ (dkI (p::f)) (Sum.inl i)=qZ (dkI f) (Sum.inl i):=ji (λz=>h (xa z))
   rcases WH f i with ⟨v,h1,h2⟩ | ⟨h1,h2⟩
   .exact .inl {v,e.trans h1,by simp only[jR,zP];exact .inr h2}
   .exact .inr {e.trans h1,by simp only[jR,zP];rintro(z | z);exact h z.symm;exact h2 z}
theorem zhQ{e:List (Int×Int)}{i v:Int}(h:qZ (dkI e) (Sum.inl i)=none):xt (dkI e) (Sum.inl i) (.int v)=dkI (e++[(i,v)]):=by
 rw[Qe _ h];unfold dkI;rw[zG];rfl
theorem VL{α:Type}[DecidableEq α]:∀{l m:List α},l.Nodup->(∀x∈l,x∈m)->l.length<=m.length
 | [],_,_,_=>qJ _
 | x::l,m,h,s=>by
  have hx:=s x 1e3
  have f:=vh.mp h;have:=VL (l:=l) (m:=m.erase x) f.2 λy hy=>(List.mem_erase_of_ne (λe:y=x=>f.1 (e▸hy))).mpr (s y (jf _ hy))
  rw[List.length_erase_of_mem hx] at this;have:=zbS hx;rw[qH];omega
def InN(n:Nat)(i:Int):Prop:=0<=i/\i<n
theorem yy{n:Nat}{l:List Int}(h:l.Nodup)(s:∀x∈l,InN n x):l.length<=n:=by
 have:=VL (m:=(List.range n).map λk:Nat=>(k:Int)) h λx hx=>by
  obtain⟨h0,h1⟩:=s x hx;exact zA.mpr {x.toNat,xo.mpr (),()}
 rwa[zm,vk] at this
theorem ZG{α:Type}{l:List α}{x:α}(h:l.Nodup)(hx:x∉l):(l++[x]).Nodup:=by
 rw[ZV];exact{h,1e3,λa f b hb e=>hx (by rw[zR] at hb;rw[<- hb,<- e];exact f)}
structure zgD(H:Hp)(rk:List (Key×V))(as:List (Int×Int)):Prop where
 at_:∀i v,qZ rk (Sum.inl i)=some v->∃l,v=.ref l/\H l=some (.lst ((wQ as i).map V.int))
 no:∀i,qZ rk (Sum.inl i)=none->wQ as i=[]
def WSt(H:Hp)(u:List (Int×Int))(n:Nat)(s:Int)(r d:Addr)(m:Nat)(σ:St)(t:Hp):Prop:=
 ∃(e:Addr) (o:List Int) (f:List (Int×Int)) (w A B:Option V),σ=[some (.int s),some (.ref r),some (.ref d),some (.ref e),w,A,B]/\H e=none/\e≠d/\t e=some (.lst (o.map V.int))/\t d=some (.dK (dkI f))/\Same H t /\
  (f.map (·.1)).Nodup/\(∀j∈f.map (·.1),∃k,Wk u k s j)/\s∈f.map (·.1)/\(∀j∈o,j∈f.map (·.1))/\(∀x∈f.map (·.1),x∉o->∀y,(x,y)∈u->y∈f.map (·.1))/\o.length<=60/\m=2*(n-f.length)+(if o=[] then 0 else 1)
structure RSt(as:List (Int×Int))(s:Int)(d l:Addr)(ps:List (Int×Int))(H H':Hp)(qs:List (Int×Int))(rs:List Int):Prop where
 hd:H' d=some (.dK (dkI qs))
 hl:H' l=some (.lst (rs.map V.int))
 sm:Same H H'
 nd:(qs.map (·.1)).Nodup
 snd:∀j∈qs.map (·.1),∃k,Wk as k s j
 eq:qs.map (·.1)=ps.map (·.1)++rs
section
variable{P:Program}{w:World}{K:W.Frag}{N:Str->Option Value}{M:Heap}
inductive Vt(K:W.Frag)(u:List V)(H:Hp)(Q:VK):Prop
 | mk (s:Int) (r:Addr) (t:List (Key×V)) (e:List (Int×Int)) (n:Nat) (_:u=[.int s,.ref r]) (_:H r=some (.dK t)) (_:zgD H t e) (_:n<=60) (_:InN n s) (_:(∀p∈e,InN n p.2)) (_:e.length<=1000) (_:∀(d:Addr) (f:List (Int×Int)) o,Same H o->H d=none->o d=some (.dK (dkI f))->(f.map (·.1)).Nodup->f.length<=n->(∀j,j∈f.map (·.1)↔∃k,Wk e k s j)->Q (.ref d) o):Vt K u H Q
def zcg(K:W.Frag):Sp:=λe H Q _=>Vt K e H Q
theorem zcv:zM ["start","rows","steps","edge","reached","part","other"] ["start","rows"] (zv (topL 5)):=u4
theorem zfA{f:Addr}{fd:FuncData}(F:Fun K "steps_from" "steps_from" (topL 5) f fd)(B:Blt N):FnOk P w K N M CX0 1 f fd ["start","rows"] (zcg K):=by
 have nd:=zcv.nd;refine F.ok zcv 0#i (λbe A bc s H vs Q E hr h=>?_)
 .obtain⟨s,r,rk,L,n,rfl,_⟩:=h
  rfl
 .obtain⟨s,r,rk,L,n,rfl,hR,ro,bf,ins,ai,al,k⟩:=h
  have bd:=bG100000;have af:=Zo hr;refine{_,(zi (zI (i:=2) nd rfl 0#z (zhe (JV (pv 0) zf Wl) rfl rfl (by intro z;cases z) (by show 1<=15;decide)))
   (zi (zI (i:=3) nd rfl 0#z (je (za (pv 0) ze)))
   (zi (zff jz (zg5 (pv 3))
   (zi (zI (i:=4) nd rfl 0#z (je ze))
    (zi (qM jz rfl (qW (pv 3)) (zy (i:=5) nd rfl 0#z)
    (zp (qM jz rfl (qW (zft af (pv 1) (pv 5) (je ze) ⟨rfl,rfl,rfl,rfl⟩)) (zy (i:=6) nd rfl 0#z)
     (zp (xu (zjb (zdT af (pv 6) (pv 2)))
      (zi (zg6 af (pv 2) (pv 6) (zE qN (Wo af (pv 2) (pv 5) 0#d) zf) rfl)
       (zp (vY (JZ XA QX QW vE (pv 4) (za (pv 6) ze)))))
      jk)))))
    (zp (zI (i:=3) nd rfl 0#z (pv 4))))))
   (zp (zJ (pv 2)))))),?_}
  refineλd hd=>{_,rfl,zd,[(Sum.inl s,.int 0)],rfl,(by show 1<=15;decide),_,rfl,le1,λe he=>?_}
  have ed:e≠d:=λz=>by rw[z,zd] at he;cases he
  have e0:H e=none:=by rw[zj ed,zj ed] at he;exact he
  have s0:Same H (upd (upd (upd H d (.dK [])) d (.dK (jZ [] [(Sum.inl s,V.int 0)]))) e (.lst [.int s])):=λc o z=>by rw[zj (zk z e0),zj (zk z hd),zj (zk z hd)];exact z
  have ap:(upd (upd (upd H d (.dK [])) d (.dK (jZ [] [(Sum.inl s,V.int 0)]))) e (.lst [.int s])) d=some (.dK (dkI [(s,0)])):=by rw[zj (zS ed),zd];rfl
  have aq:(upd (upd (upd H d (.dK [])) d (.dK (jZ [] [(Sum.inl s,V.int 0)]))) e (.lst [.int s])) e=some (.lst ([s].map V.int)):=zd;generalize upd (upd (upd H d (.dK [])) d (.dK (jZ [] [(Sum.inl s,V.int 0)]))) e (.lst [.int s])=H1 at s0 ap aq;refine{WSt H L n s r d,{_,e,[s],[(s,0)],_,_,_,rfl,e0,ed,aq,ap,s0,1e3,λj hj=>{0,by simp at hj;exact hj.symm},1e3,1e3,λx hx hn=>absurd hx (by simpa using hn),1e3,rfl},?_}
  rintro m σ H2 ⟨e,es,Y,v4,v5,v6,rfl,en,bb,ac,ag,s2,ak,am,av,ax,ao,el,rfl⟩;have ba:∀j∈Y.map (·.1),InN n j:=λj hj=>by
   obtain⟨k,wk⟩:=am j hj;exact Wk.closed (C:=InN n) (λx y _ h=>ai _ h) ins wk
  have pl:Y.length<=n:=by have:=yy ak ba;rwa[zm] at this
  refine{_,rfl,e,_,rfl,u5 ac,?_}
  cases es with
  | nil=>
   refine ifF 1e2 ?_
   refine{_,rfl,k d Y H2 s2 hd ag ak pl λj=>{am j,λ⟨k,wk⟩=>Wk.closed (C:=λj=>j∈Y.map (·.1)) (λx y hx h=>ao x hx 1e3 y h) av wk}}
  | cons e1 er=>
   refine ifT 1e2 ?_
   refine{λσ' H'=>∃m',m'<2*(n-Y.length)+(if e1::er=[] then 0 else 1)/\WSt H L n s r d m' σ' H',λ_ _ h=>h,?_}
   refine{le0,λl hl=>?_}
   have lH:H l=none:=by
    cases z:H l with
    | none=>rfl
    | some o=>rw[s2 _ _ z] at hl;cases hl
   have ld:l≠d:=λz=>by rw[z,ag] at hl;cases hl
   have le:l≠e:=λz=>by rw[z,ac] at hl;cases hl
   refine{_,rfl,e,rfl,{_,u5 ((zb hl) _ _ ac)},j8 (K:=K) (a:=e) (xs:=(e1::er).map V.int) (λi σ H'=>Ex4 λ(v5 v6:Option V) (D:List (Int×Int)) (J:List Int)=>An4 (σ=[some (.int s),some (.ref r),some (.ref d),some (.ref e),some (.ref l),v5,v6]) (H' e=some (.lst ((e1::er).map V.int))) (RSt L s d l Y H H' D J) ((∀x∈(e1::er).take i,∀y,(x,y)∈L->y∈D.map (·.1))))
    {_,_,Y,[],rfl,(zb hl) _ _ ac,{(zb hl) _ _ ag,zd,s2.trans (zb hl),ak,am,1e3},1e3} (λi σ H' _ ⟨_,_,_,_,_,h,_,_⟩=>u5 h) ?_ ?_}
   .rintro i x σ H3 hx ⟨v5,v6,D,J,rfl,au,G,aa⟩
    rw[zT] at hx;obtain⟨x,ex,rfl⟩:=qy.mp hx;have et:(e1::er).take (i+1)=(e1::er).take i++[x]:=by
     obtain⟨h1,h2⟩:=zO.mp ex;rw[<- h2,Zu]
    have xk:x∈Y.map (·.1):=ax x (qw ex)
    have xq:x∈D.map (·.1):=by rw[G.eq];exact jK _ xk
    refine{_,rfl,r,rfl,.inl {_,.inl (G.sm _ _ hR)},_,rfl,le0,λq hq=>?_}
    have sq:=zb (H:=H3) (o:=.lst []) hq;have qd:q≠d:=λz=>by rw[z,G.hd] at hq;cases hq
    have ql:q≠l:=λz=>by rw[z,G.hl] at hq;cases hq
    refine{_,.inl {rk,Sum.inl x,.inl (sq _ _ (G.sm _ _ hR)),rfl,rfl},?_}
    have tt:∃t,(qZ rk (Sum.inl x)).getD (.ref q)=.ref t/\upd H3 q (.lst []) t=some (.lst ((wQ L x).map V.int))/\t≠d/\t≠l:=by
     cases z:qZ rk (Sum.inl x) with
     | none=>exact{q,rfl,by rw[ro.no x z];exact zd,qd,ql}
     | some v=>
      obtain⟨t,rfl,ht⟩:=ro.at_ x v z;exact{t,rfl,sq _ _ (G.sm _ _ ht),zk ht hd,zk ht lH}
    obtain⟨t,az,ht,td,tl⟩:=tt;rw[az];refine{t,rfl,{_,u5 ht},j8 (K:=K) (a:=t) (xs:=(wQ L x).map V.int) (λk σ H'=>Ex3 λ(v6:Option V) (D:List (Int×Int)) (J:List Int)=>An6 (σ=[some (.int s),some (.ref r),some (.ref d),some (.ref e),some (.ref l),some (.int x),v6]) (H' e=some (.lst ((e1::er).map V.int))) (H' t=some (.lst ((wQ L x).map V.int))) (RSt L s d l Y H H' D J) ((∀x∈(e1::er).take i,∀y,(x,y)∈L->y∈D.map (·.1))) (∀y∈(wQ L x).take k,y∈D.map (·.1)))
     {_,D,J,rfl,sq _ _ au,ht,{sq _ _ G.hd,sq _ _ G.hl,G.sm.trans sq,G.nd,G.snd,G.eq},aa,1e3} (λi σ H' _ ⟨_,_,_,_,_,h,_,_,_⟩=>u5 h) ?_ ?_}
    .rintro j y σ H4 hy ⟨v6,D,J,rfl,ae,ah,I,ab,U⟩
     rw[zT] at hy;obtain⟨y,ey,rfl⟩:=qy.mp hy;have ar:(wQ L x).take (j+1)=(wQ L x).take j++[y]:=by
      obtain⟨h1,h2⟩:=zO.mp ey;rw[<- h2,Zu]
     have xy:(x,y)∈L:=Y9.mp (qw ey);have ay:x∈D.map (·.1):=by rw[I.eq];exact jK _ xk
     refine{_,rfl,_,rfl,d,_,rfl,.inl {_,Sum.inl y,.inl I.hd,rfl,rfl},?_}
     rcases WH D y with ⟨v,hv,my⟩ | ⟨hv,my⟩
     .rw[hv]
      refine{_,rfl,ifF 1e2 ?_}
      refine{_,D,J,rfl,ae,ah,I,ab,λz O=>?_}
      rw[ar] at O;rcases qL.mp O with h | h
      .exact U z h
      .rw[zR.mp h];exact my
     .rw[hv]
      refine{_,rfl,ifT 1e2 ?_}
      rcases WH D x with ⟨vx,b0,_⟩ | ⟨_,z⟩
      .have aj:∀j∈D.map (·.1),InN n j:=λj hj=>by
        obtain⟨k,wk⟩:=I.snd j hj;exact Wk.closed (C:=InN n) (λx y _ h=>ai _ h) ins wk
       have ql:D.length<=n:=by have:=yy I.nd aj;rwa[zm] at this
       have lq:D.length=Y.length+J.length:=by
        have:=congrArg List.length I.eq;rwa[qu,zm,zm] at this
       refine{_,rfl,_,rfl,d,_,rfl,.inl {_,Sum.inl x,.inl I.hd,rfl,b0.symm},_,_,rfl,rfl,_,rfl,_,rfl,d,_,rfl,.inl {_,Sum.inl y,I.hd,rfl,by rw[zc8];omega,rfl},?_}
       rw[zhQ hv];have an:upd H4 d (.dK (dkI (D++[(y,vx+1)]))) l=some (.lst (J.map V.int)):=by rw[zj ld];exact I.hl
       refine{_,rfl,.inl {rfl,_,u5 an},_,rfl,l,_,_,rfl,rfl,an,by rw[zm];omega,?_}
       refine{_,D++[(y,vx+1)],J++[y],rfl,by rw[zj (zS le),zj bb];exact ae,by rw[zj tl,zj td];exact ah,{by rw[zj (zS ld)];exact zd,by rw[zd,zG];rfl,λc o z=>by rw[zj (zk z lH),zj (zk z hd)];exact I.sm _ _ z,?_,?_,by rw[zG,I.eq,xE];rfl},λz O u hu=>?_,λz O=>?_}
       .rw[zG]
        exact ZG I.nd my
       .intro z O
        rw[zG] at O;rcases qL.mp O with h | h
        .exact I.snd z h
        .obtain⟨k,wk⟩:=I.snd x ay
         rw[zR.mp h];exact{k+1,wk.snoc xy}
       .rw[zG]
        exact jK _ (ab z O u hu)
       .rw[ar] at O
        rw[zG];rcases qL.mp O with h | h
        .exact jK _ (U z h)
        .exact zZ _ h
      .exact absurd ay z
    .rintro σ H4 ⟨v6,D,J,rfl,ae,ah,I,ab,U⟩
     rw[zm,qY] at U;refine{_,_,D,J,rfl,ae,I,λz O y hy=>?_}
     rw[et] at O;rcases qL.mp O with h | h
     .exact ab z h y hy
     .rw[zR.mp h] at hy
      exact U y (Y9.mpr hy)
   .rintro σ H3 ⟨v5,v6,D,J,rfl,au,G,aa⟩
    rw[zm,qY] at aa;have aj:∀j∈D.map (·.1),InN n j:=λj hj=>by
     obtain⟨k,wk⟩:=G.snd j hj;exact Wk.closed (C:=InN n) (λx y _ h=>ai _ h) ins wk
    have ql:D.length<=n:=by have:=yy G.nd aj;rwa[zm] at this
    have lq:D.length=Y.length+J.length:=by
     have:=congrArg List.length G.eq;rwa[qu,zm,zm] at this
    refine{_,rfl,2*(n-D.length)+(if J=[] then 0 else 1),?_,l,J,D,_,_,_,rfl,lH,ld,G.hl,G.hd,G.sm,G.nd,G.snd,by rw[G.eq];exact jK _ av,λj hj=>by rw[G.eq];exact zZ _ hj,λx hx hn y hy=>?_,(),rfl}
    .rw[zq (by simp:¬e1::er=[])]
     split
     .omega
     .rename_i h
      have:=W8.mpr h;omega
    .rw[G.eq] at hx
     rcases qL.mp hx with h | h
     .by_cases aw:x∈e1::er
      .exact aa x aw y hy
      .rw[G.eq];exact jK _ (ao x h aw y hy)
     .exact absurd h hn
theorem zeC{e f:List Int}(p:e.Perm f)(t:f.Nodup)(h:e.Pairwise (·<= ·)):e.Pairwise (·< ·):=by
 have o:e.Pairwise (·≠ ·):=p.nodup_iff.mpr t
 exact(h.and o).imp λ⟨a,b⟩=>()
theorem zh8:∀{o t:List Int},o.Pairwise (·< ·)->t.Pairwise (·< ·)->(∀j,j∈o↔j∈t)->o=t
 | [],[],_,_,_=>rfl
 | [],y::t,_,_,h=>absurd ((h y).mpr 1e3) 1e3
 | x::o,[],_,_,h=>absurd ((h x).mp 1e3) 1e3
 | x::o,y::t,hx,hy,h=>by
  obtain⟨u,B⟩:=zbL.mp hx;obtain⟨A,C⟩:=zbL.mp hy;have e:x=y:=by
   rcases zP.mp ((h x).mp 1e3) with a | a
   .exact a
   .rcases zP.mp ((h y).mpr 1e3) with b | b
    .exact b.symm
    .have:=u y b
     have:=A x a;omega
  subst e;rw[zh8 B C λj=>?_]
  constructor
  .intro f
   rcases zP.mp ((h j).mp (jf _ f)) with a | a
   .have:=u j f;omega
   .exact a
  .intro f
   rcases zP.mp ((h j).mpr (jf _ f)) with a | a
   .have:=A j f;omega
   .exact a
inductive zcs(K:W.Frag)(u:List V)(H:Hp)(Q:VK):Prop
 | mk (s:Int) (r:Addr) (t:List (Key×V)) (e:List (Int×Int)) (n:Nat) (_:u=[.int s,.ref r]) (_:H r=some (.dK t)) (_:zgD H t e) (_:n<=60) (_:InN n s) (_:(∀p∈e,InN n p.2)) (_:e.length<=1000) (_:∀(l:Addr) (f:List Int) o,Same H o->H l=none->o l=some (.lst (f.map V.int))->f.length<=60->f.Pairwise (·< ·)->(∀j,j∈f↔j≠s/\∃k,Wk e k s j)->Q (.ref l) o):zcs K u H Q
def zih(K:W.Frag):Sp:=λe H Q _=>zcs K e H Q
theorem zit:zM ["part","rows"] ["part","rows"] (zv (topL 6)):=u4
theorem zjy{f:Addr}{fd:FuncData}(F:Fun K "all_from" "all_from" (topL 6) f fd)(B:Blt N)(e:Dfn P w K N M "steps_from" 1 ["start","rows"] (zcg K)):FnOk P w K N M CX0 2 f fd ["part","rows"] (zih K):=by
 have nd:=zit.nd;refine F.ok zit 0#i (λac A aa s H vs Q E hr h=>?_)
 .obtain⟨s,r,rk,as,n,rfl,_⟩:=h
  rfl
 .obtain⟨s,r,rk,as,n,rfl,hR,ro,U,ins,L,al,k⟩:=h
  have ab:=bG100000;refine{_,(zp (zJ (zr w4 rfl B.sorted jF (za (jT ["part"] [0] rfl rfl (by kernel_rfl) (zfl (zn e hr.m rfl (za (pv 0) 0#K))) (λ_ _ _ _=>(ZC (qG Zl (pv 0) (pv 1) (qO _)))) (λ_ _ _ _=>(pv 0))) ze)))),?_}
  refine{_,rfl,_,rfl,s,r,rk,as,n,rfl,hR,ro,U,ins,L,al,λd t G s1 hd J Y lp mem=>{d,_,rfl,J,λo=>zfW (d:=d) (o:=o) (kvs:=dkI t) (λi D H'=>D=(((t.take i).map (·.1)).filter λj=>decide (j≠s)).map V.int/\H'=upd G d (.frz o (.dK (dkI t)))) ⟨rfl,rfl⟩ (λi D H' ⟨_,h⟩=>by rw[h];exact zd) ?_ ?_}}
  .rintro i kk v D H2 hx ⟨rfl,rfl⟩
   unfold dkI at hx;rw[zT] at hx;obtain⟨p,ep,e1⟩:=qy.mp hx;cases e1;have et:t.take (i+1)=t.take i++[p]:=by
    obtain⟨h1,h2⟩:=zO.mp ep;rw[<- h2,Zu]
   have hi:=(zO.mp ep).1;rw[et,zG,Qn,zG];have O:=Qp (λj=>decide (j≠s)) ((t.take i).map (·.1))
   rw[zm,jb] at O;refine{rfl,_,rfl,_,rfl,rfl,_,rfl,?_}
   by_cases c:p.1=s
   .refine ifF (by show(!decide (V.int p.1=V.int s))=false;rw[c];simp) {?_,rfl}
    simp[c]
   .refine ifT (by show(!decide (V.int p.1=V.int s))=true;rw[jA (λz=>c (V.int.inj z))];rfl) {_,rfl,by rw[zm];omega,?_,rfl}
    simp[c,kV]
  .rintro D H2 ⟨rfl,rfl⟩
   rw[zc8,qY];have O:=Qp (λj=>decide (j≠s)) (t.map (·.1))
   rw[zm] at O;refine{by rw[zm];omega,λl C=>{l,(t.map (·.1)).filter λj=>decide (j≠s),rfl,u5 zd,(),λl2 ms u pm pw=>?_}}
   have ld:l≠d:=λz=>by rw[z,zd] at C;cases C
   have I:G l=none:=by rw[zj ld] at C;exact C
   have s3:Same H (upd (upd G d (.frz o (.dK (dkI t)))) l (.lst (((t.map (·.1)).filter λj=>decide (j≠s)).map V.int))):=λc o z=>by
    rw[zj (zk (s1 _ _ z) I),zj (zk z hd)];exact s1 _ _ z
   refine k l2 ms _ (s3.trans (zb u)) ?_ zd (by rw[pm.length_eq];omega) (zeC pm (Y.filter _) pw) λj=>?_
   .cases z:H l2 with
    | none=>rfl
    | some o=>rw[s3 _ _ z] at u;cases u
   .rw[pm.mem_iff,xO,mem j]
    constructor
    .rintro⟨a,b⟩;exact{xF b,a}
    .rintro⟨a,b⟩;exact{b,zY a}
def asI(J:Job):List (Int×Int):=J.as.map λp=>((p.1:Int),(p.2:Int))
theorem zdh(J:Job):(asI J).map prD=J.as.map yb:=by
 unfold asI;rw[qK];rfl
theorem JJ(J:Job):(asI J).length=J.as.length:=zm _
inductive VA(K:W.Frag)(o:List V)(H:Hp)(Q:VK):Prop
 | mk (s:Int) (p:Addr) (J:Job) (_:o=[.ref p,.int s]) (_:Rep K H (xJ J) (.ref p)) (_:J.ps.length<=60) (_:InN J.ps.length s) (_:(∀q∈asI J,InN J.ps.length q.1/\InN J.ps.length q.2)) (_:J.as.length<=300) (_:∀(l:Addr) (e:List Int) f,Same H f->H l=none->f l=some (.lst (e.map V.int))->e.length<=60->e.Pairwise (·< ·)->(∀j,j∈e↔j≠s/\∃k,Wk (asI J) k j s)->Q (.ref l) f):VA K o H Q
def zct(K:W.Frag):Sp:=λe H Q _=>VA K e H Q
theorem zbg{J:Job}{H:Hp}{p:Addr}(h:Rep K H (xJ J) (.ref p)):∃(t:Addr) (o u A B:V) (f:List V),SqT K H p [o,u,A,B,.ref t]/\SqT K H t f/\Reps K H ((asI J).map prD) f:=by
 obtain⟨a,f,e,D,o,_,rfl,_,u,_,rfl,_,A,_,rfl,_,B,_,rfl,_,O,L,rfl,C,rfl⟩:=h;cases e;obtain⟨t,I,rfl,E,G⟩:=C;exact{t,_,_,_,_,I,D,E,by rw[zdh];exact G}
theorem zcC:zM ["job","part"] ["job","part"] (zv (topL 7)):=u4
theorem zfH{f:Addr}{fd:FuncData}(F:Fun K "ahead_of" "ahead_of" (topL 7) f fd)(B:Blt N)(C:Dfn P w K N M "turned" 1 ["pairs"] (zcd K))(u:Dfn P w K N M "next_by" 1 ["pairs"] (zeK K))(e:Dfn P w K N M "all_from" 2 ["part","rows"] (zih K)):FnOk P w K N M CX0 3 f fd ["job","part"] (zct K):=by
 have nd:=zcC.nd;refine F.ok zcC 0#i (λaf A ac s H vs Q E U h=>?_)
 .obtain⟨s,p,J,rfl,_⟩:=h
  rfl
 .obtain⟨s,p,J,rfl,rp,ab,ins,Y,al,k⟩:=h
  have ae:=bG100000;refine{_,(zp (zJ (zn e U.m rfl (za (pv 1) (za (zn u U.m rfl (za (zn C U.m rfl (za 0#B ze)) ze)) ze))))),?_}
  obtain⟨t,x0,x1,x2,x3,xs,qa,qt,rx⟩:=zbg rp;refine{_,rfl,_,rfl,p,_,_,_,rfl,rfl,qa,rfl,t,xs,asI J,rfl,qt,rx,by rw[JJ];omega,λl0 ys H0 s0 I ry=>?_}
  have em:((asI J).map Prod.swap).map prD=(asI J).map λp=>prD p.swap:=by rw[qK];rfl
  refine{l0,ys,(asI J).map Prod.swap,rfl,.inl (u5 I),by rw[em];exact ry,by rw[zm,JJ];omega,λd aa H1 s1 hd G nb=>?_}
  refine{s,d,aa,(asI J).map Prod.swap,J.ps.length,rfl,G,{λi v hv=>let ⟨l,a,_,b⟩:=nb.at_ i v hv;⟨l,a,b⟩,nb.no},ab,ins,λq hq=>?_,by rw[zm,JJ];omega,λl ms H2 s2 hl L D pw mem=>?_}
  .obtain⟨q',O,rfl⟩:=zA.mp hq
   exact(Y q' O).1
  refine k l ms H2 (s0.trans (s1.trans s2)) ?_ L D pw λj=>?_
  .cases z:H l with
   | none=>rfl
   | some o=>rw[s1 _ _ (s0 _ _ z)] at hl;cases hl
  .rw[mem j]
   refine{λ⟨a,k,b⟩=>{a,k,?_},λ⟨a,k,b⟩=>⟨a,k,b.back⟩}
   have:=b.back;rwa[X0] at this
theorem qF{α:Type}{l:List α}{i:Nat}{x:α}(h:l[i]? =some x):l.take (i+1)=l.take i++[x]:=by
 obtain⟨h1,h2⟩:=zO.mp h;rw[<- h2,Zu]
def qm(os:List Nat):List V:=os.map λi:Nat=>V.int (i:Int)
theorem zU(os:List Nat):(qm os).length=os.length:=zm ..
theorem j5{os:List Nat}{i:Nat}{x:V}(h:(qm os)[i]? =some x):∃k,os[i]? =some k/\x=.int (k:Int):=by
 unfold qm at h;rw[zT] at h;obtain⟨k,hk,rfl⟩:=qy.mp h;exact⟨k,hk,rfl⟩
theorem Same.none{H e:Hp}{t:Addr}(s:Same H e)(h:e t=Option.none):H t=Option.none:=s.free h
def atK(e:List yY)(f:Str)(n:Nat):List Nat:=(List.range n).filter λi=>decide (e[i]?.map yY.k=some f)
theorem WN(e:List yY)(f:Str)(n:Nat):(atK e f n).length<=n:=jx (Qp _ _) (by rw[vk];exact zx _)
theorem zhY{o:List yY}{t:Str}{n:Nat}{f:yY}(h:o[n]? =some f)(e:f.k=t):atK o t (n+1)=atK o t n++[n]:=by
 unfold atK;rw[zbw,Qn,Xz (by rw[h];exact zY (by show some f.k=_;rw[e]))]
 rfl
theorem zhZ{o:List yY}{t:Str}{n:Nat}{f:yY}(h:o[n]? =some f)(e:f.k≠t):atK o t (n+1)=atK o t n:=by
 unfold atK;rw[zbw,Qn,Z3 (by rw[h];simpa using e),List.filter_nil,xN]
theorem zd2(os:List Nat)(n:Nat):qm (os++[n])=qm os++[.int (n:Int)]:=by
 unfold qm;rw[zG];rfl
theorem vF{H:Hp}{p:yY}{x:V}(h:Rep K H (we p) x):∃a c,x=.ref a/\SqT K H a [.str p.k,.ref c,.int p.m]/\SqT K H c [.int p.x,.int p.y]:=by
 obtain⟨a,xs,rfl,q,J,U,f,A,y1,Y,o,B,L,I,t,C,u⟩:=h;subst f o t;cases(show I=[] from u)
 cases(show J=_ from A)
 cases(show L=_ from C)
 obtain⟨c,ys,rfl,G,O,s0,e,D,Q,s1,e1,E,e2⟩:=B;subst e e1;cases(show s1=[] from e2)
 cases(show O=_ from D)
 cases(show Q=_ from E)
 exact⟨a,c,rfl,q,G⟩
theorem jg{H:Hp}{J:Job}{C:Addr}(h:Rep K H (xJ J) (.ref C)):∃(g o t f:Addr) (B pv:List V),SqT K H C [.ref g,.int J.hd,.ref o,.ref t,.ref f]/\Rep K H (.tup [.int J.gx,.int J.gy]) (.ref g)/\SqT K H o B/\Reps K H (J.fs.map we) B/\SqT K H t pv/\Reps K H (J.ps.map xL) pv/\Rep K H (Qq J.as) (.ref f):=by
 obtain⟨a,xs,e,q,x0,r0,G,h0,x1,r1,e1,h1,x2,r2,e2,h2,x3,r3,I,h3,x4,r4,L,h4,O⟩:=h;cases e;subst G e1 e2 I L;have u:r4=[]:=O;subst u;have A:x1=.int J.hd:=h1;subst A;obtain⟨g,gx,rfl,gq⟩:=h0;obtain⟨o,Y,rfl,Q,U⟩:=h2;obtain⟨t,px,rfl,pq,pr⟩:=h3;obtain⟨f,E,rfl,D⟩:=h4;exact{g,o,t,f,Y,px,q,⟨g,gx,rfl,gq⟩,Q,U,pq,pr,⟨f,E,rfl,D⟩}
inductive zco(K:W.Frag)(t:List V)(H:Hp)(Q:VK):Prop
 | mk (f:Addr) (J:Job) (o:Str) (_:t=[.ref f,.str o]) (_:Rep K H (xJ J) (.ref f)) (_:J.fs.length<=100) (_:∀(l:Addr) e,H l=none->Same H e->e l=some (.lst (qm (atK J.fs o J.fs.length)))->Q (.ref l) e):zco K t H Q
def zif(K:W.Frag):Sp:=λe H Q _=>zco K e H Q
theorem zio:zM ["job","kind"] ["job","kind"] (zv (topL 8)):=u4
theorem zju{f:Addr}{L:FuncData}(F:Fun K "feeders_for" "feeders_for" (topL 8) f L)(B:Blt N):FnOk P w K N M CX0 1 f L ["job","kind"] (zif K):=by
 have nd:=zio.nd;refine F.ok zio 0#i (λaa A G s H vs Q E hr h=>?_)
 .obtain⟨jp,J,C,rfl,_⟩:=h
  rfl
 .obtain⟨jp,J,C,rfl,rj,fl,k⟩:=h
  have Y:=bG100000;obtain⟨g,O,ps,as,fv,ab,qj,_,qf,rf,qp,rp,_⟩:=jg rj;have lf:=rf.len;rw[zm] at lf;refine{_,(zp (zJ (JY ["kind"] [1] rfl rfl (by kernel_rfl) (YZ rfl B.enumerate (za 0#B ze)) (λ_ _ _ _=>(ZC (qG Zm (zu 0#u (pv 1) zf 0#d) (pv 2) (qO _)))) (λ_ _ _ _=>(pv 0))))),?_}
  refine{_,rfl,jp,_,_,_,rfl,rfl,qj,rfl,O,rfl,{_,qf},zfV (K:=K) (a:=O) (xs:=fv) (λi D u=>D=qm (atK J.fs C i)/\Same H u) {rfl,u7 _} (λi D u ⟨_,t⟩=>t.sqT qf) ?_ ?_}
  .rintro i x D u T hx ⟨rfl,t⟩ U
   obtain⟨d,e1,r1⟩:=(rf.same t).get hx;rw[zT] at e1;obtain⟨fe,e,rfl⟩:=qy.mp e1;have hi:=(zO.mp e).1;have sT:=t.trans (zb (o:=.tup [.int (i:Int),x]) U);obtain⟨fa,fc,rfl,I,_⟩:=vF (r1.same (zb (o:=.tup [.int (i:Int),x]) U));have le:=WN J.fs C i;refine{T,_,rfl,u6 zd,rfl,_,_,rfl,_,_,rfl,rfl,rfl,?_}
   refine{_,rfl,fa,_,_,_,rfl,rfl,I,rfl,_,rfl,rfl,_,rfl,wo (λc=>{_,rfl,?_,?_,sT}) (λc=>{?_,sT})}
   .rw[zU];omega
   .rw[zhY e (V.str.inj (xF c)),zd2]
   .rw[zhZ e λz=>c (zY (by rw[z]))]
  .rintro D u ⟨rfl,t⟩
   rw[lf];have le:=WN J.fs C J.fs.length;exact{by rw[zU];omega,λl hl=>k l _ (t.none hl) (t.trans (zb hl)) zd}
def zgM(e o f t:Int):Int:=if Zk (o-t)>Zk (e-f) then Zk (o-t) else Zk (e-f)
def zQ(p q:Int×Int):Int:=zgM p.1 p.2 q.1 q.2
def plD(p:Int×Int):Dat:=.tup [.int p.1,.int p.2]
theorem vt{H:Hp}{p:Int×Int}{x:V}(h:Rep K H (plD p) x):∃a,x=.ref a/\SqT K H a [.int p.1,.int p.2]:=by
 obtain⟨C,I,rfl,e,D,G,o,A,E,f,t,B,u⟩:=h;subst o t;cases(show f=[] from u)
 cases(show D=_ from A)
 cases(show E=_ from B)
 exact⟨C,rfl,e⟩
theorem va{H:Hp}{a:Addr}{x y:Int}(h:SqT K H a [.int x,.int y]):Rep K H (plD (x,y)) (.ref a):={a,_,rfl,h,_,_,rfl,rfl,_,_,rfl,rfl,rfl}
inductive zcc(K:W.Frag)(e:List V)(H:Hp)(Q:VK):Prop
 | mk (u v:V) (p q:Int×Int) (_:e=[u,v]) (_:Rep K H (plD p) u) (_:Rep K H (plD q) v) (_:Q (.int (zQ p q)) H):zcc K e H Q
def Vr(K:W.Frag):Sp:=λe H Q _=>zcc K e H Q
theorem zkm:zM ["one","other"] ["one","other"] (zv (topL 1)):=u4
theorem zjn{f:Addr}{C:FuncData}(F:Fun K "way_between" "way_between" (topL 1) f C)(B:Blt N):FnOk P w K N M CX0 1 f C ["one","other"] (Vr K):=by
 refine F.ok zkm (λI H Q E h=>?_) (λG A t s H I Q E J h=>?_)
 .obtain⟨u,v,p,q,rfl,_⟩:=h
  rfl
 .obtain⟨u,v,p,q,rfl,e,o,k⟩:=h
  fail"c"
  refine{_,rfl,a,_,_,_,rfl,rfl,D,rfl,_,rfl,b,_,_,_,rfl,rfl,hb,rfl,_,_,rfl,rfl,_,rfl,_,rfl,a,_,_,_,rfl,rfl,D,rfl,_,rfl,b,_,_,_,rfl,rfl,hb,rfl,_,_,rfl,rfl,_,rfl,_,_,rfl,k}
theorem zi3:zM ["_law_one","_law_other"] ["_law_one","_law_other"] (zv (topL 29)):=u4
theorem zhq{f:Addr}{C:FuncData}(F:Fun K "_law_way" "_law_way" (topL 29) f C)(B:Blt N):FnOk P w K N M CX0 1 f C ["_law_one","_law_other"] (Vr K):=by
 refine F.ok zi3 (λI H Q E h=>?_) (λG A t s H I Q E J h=>?_)
 .obtain⟨u,v,p,q,rfl,_⟩:=h
  rfl
 .obtain⟨u,v,p,q,rfl,e,o,k⟩:=h
  fail"c"
  refine{_,rfl,a,_,_,_,rfl,rfl,D,rfl,_,rfl,b,_,_,_,rfl,rfl,hb,rfl,_,_,rfl,rfl,_,rfl,_,rfl,a,_,_,_,rfl,rfl,D,rfl,_,rfl,b,_,_,_,rfl,rfl,hb,rfl,_,_,rfl,rfl,_,rfl,_,_,rfl,k}
theorem wD{H:Hp}{p:zaE}{x:V}(h:Rep K H (xL p) x):∃a c,x=.ref a/\SqT K H a [.str p.k,.ref c]/\SqT K H c [.int p.x,.int p.y]:=by
 obtain⟨a,Q,rfl,q,G,L,f,u,U,E,o,A,t⟩:=h;subst f o;cases(show E=[] from t)
 cases(show G=_ from u)
 obtain⟨c,Y,rfl,D,I,O,e,B,J,s1,e1,C,e2⟩:=A;subst e e1;cases(show s1=[] from e2)
 cases(show I=_ from B)
 cases(show J=_ from C)
 exact⟨a,c,rfl,q,D⟩
theorem w6{H:Hp}{α:Type}{f:α->Dat}{u:List α}{t:List V}(h:Reps K H (u.map f) t){i:Nat}{a:α}(A:u[i]? =some a):∃v,t[i]? =some v/\Rep K H (f a) v:=by
 have B:=h.len;rw[zm] at B;have o:i<t.length:=by have:=(zO.mp A).1;omega
 obtain⟨d,e,r⟩:=h.get (i:=i) (x:=t[i]) (by simp[o])
 rw[zT,A] at e;cases e;exact{t[i],by simp[o],r}
inductive zeN(K:W.Frag)(f:List V)(H:Hp)(Q:VK):Prop
 | mk (e:Addr) (J:Job) (i:Nat) (p:zaE) (_:f=[.ref e,.int (i:Int)]) (_:Rep K H (xJ J) (.ref e)) (_:J.ps[i]? =some p) (_:Q (.str p.k) H):zeN K f H Q
def zi0(K:W.Frag):Sp:=λe H Q _=>zeN K e H Q
theorem zko:zM ["job","part"] ["job","part"] (zv (topL 10)):=u4
theorem zkJ{f:Addr}{t:FuncData}(F:Fun K "kind_of" "kind_of" (topL 10) f t)(B:Blt N):FnOk P w K N M CX0 1 f t ["job","part"] (zi0 K):=by
 have nd:=zko.nd;refine F.ok zko 0#i (λC A e s H vs Q E hr h=>?_)
 .obtain⟨u,J,i,p,rfl,_⟩:=h
  rfl
 .obtain⟨u,J,i,p,rfl,Y,hp,k⟩:=h
  obtain⟨g,fs,I,as,fv,L,O,_,qf,rf,U,rp,_⟩:=jg Y;obtain⟨v,D,rv⟩:=w6 rp hp;obtain⟨G,pc,rfl,o,_⟩:=wD rv;refine{_,(zp (zJ (zu zF (zu zF 0#B (pv 1) 0#d) zf 0#d))),?_}
  exact{_,rfl,u,_,_,_,rfl,rfl,O,rfl,_,rfl,I,_,_,_,rfl,rfl,U,jI D,G,_,_,_,rfl,rfl,o,rfl,k}
abbrev Pl:=Int×Int
def plK(p:Pl):List Key:=[.inl p.1,.inl p.2]
theorem zcI{p q:Pl}(h:plK p=plK q):p=q:=by
 obtain⟨a,b⟩:=p;obtain⟨c,d⟩:=q;injection h with h1 h2;injection h2 with h2 _;exact ZJ (xa h1) (xa h2)
abbrev Kp:=List Key×Pl
abbrev En:=Kp×(Int×List Int)
def j4(k:Kp):PKy:=(k.1,plK k.2)
theorem zai{p q:Kp}(h:j4 p=j4 q):p=q:=ZJ (yJ h).1 (zcI (yJ h).2)
def qQ(l:List Key)(t:Key):List Key:=l.filter λx=>decide (x≠t)
def ZI(e:En)(t:Key)(g:Int×Pl):En:=((qQ e.1.1 t,g.2),(e.2.1+zQ e.1.2 g.2,e.2.2++[g.1]))
def Bst(f o:List En):Prop:=(∀e∈o,e∈f)/\(∀c∈f,∃e∈o,e.1=c.1/\e.2.1<=c.2.1)/\o.length<=f.length
theorem Bst.nil:Bst [] []:={(λ_ h=>nomatch h),(λ_ h=>nomatch h),zx _}
theorem Bst.snoc{f o:List En}{c:En}(h:Bst f o):Bst (f++[c]) (o++[c]):=by
 refine{λe t=>?_,λd hd=>?_,by rw[qu,qu];exact Nat.add_le_add_right h.2.2 _}
 .rcases qL.mp t with a | a
  .exact jK _ (h.1 e a)
  .exact zZ _ a
 .rcases qL.mp hd with a | a
  .obtain⟨e,x,y⟩:=h.2.1 d a
   exact{e,jK _ x,y}
  .cases zR.mp a
   exact{c,zZ _ (zR.mpr rfl),rfl,vd _}
theorem ziF{f:List En}(A:(f.map Prod.fst).Nodup){a b:En}(t:a∈f)(hb:b∈f)(e:a.1=b.1):a=b:=by
 obtain⟨i,o,rfl⟩:=XO t;obtain⟨j,u,rfl⟩:=XO hb;have e1:(f.map Prod.fst)[i]? =some f[i].1:=by simp[o]
 have e2:(f.map Prod.fst)[j]? =some f[i].1:=by rw[e];simp[u]
 have:=(XL (by rw[zm];exact o) A).mp (e1.trans e2.symm)
 subst this;rfl
def reE(f:List En)(c:En)(v:Int×List Int):List En:=f.map λe=>if e.1=c.1 then(e.1,v) else e
theorem ze7(f:List En)(c:En)(v:Int×List Int):(reE f c v).map Prod.fst=f.map Prod.fst:=by
 unfold reE;rw[qK];refine QR λe _=>?_
 show(if e.1=c.1 then(e.1,v) else e).1=e.1
 split<;>rfl
theorem Bst.re{t o:List En}{c f:En}(h:Bst t o)(A:(o.map Prod.fst).Nodup)(h0:f∈o)(e:f.1=c.1):Bst (t++[c]) (reE o c (if ltW f.2 c.2=true then f.2 else c.2)):=by
 have D:(if ltW f.2 c.2=true then f.2 else c.2).1<=f.2.1:=by
  split
  .exact vd _
  .rename_i z;exact zfP (by simpa using z)
 have E:(if ltW f.2 c.2=true then f.2 else c.2).1<=c.2.1:=by
  split
  .rename_i z;exact zfO z
  .exact vd _
 have u:(c.1,if ltW f.2 c.2=true then f.2 else c.2)∈reE o c (if ltW f.2 c.2=true then f.2 else c.2):=zA.mpr {f,h0,by rw[zt e,e]}
 refine{λd hd=>?_,λd hd=>?_,by unfold reE;rw[qu,zm];exact Nat.le_succ_of_le h.2.2}
 .obtain⟨x,hx,rfl⟩:=zA.mp hd
  by_cases z:x.1=c.1
  .rw[zt z]
   cases ziF A hx h0 (z.trans e.symm);split
   .exact jK _ (h.1 _ h0)
   .rw[z];exact zZ _ (zR.mpr rfl)
  .rw[zq z];exact jK _ (h.1 _ hx)
 .rcases qL.mp hd with a | a
  .obtain⟨x,hx,B,C⟩:=h.2.1 d a
   by_cases z:x.1=c.1
   .cases ziF A hx h0 (z.trans e.symm)
    exact{_,u,z.symm.trans B,yL D C}
   .exact{x,zA.mpr {x,hx,zq z},B,C}
  .cases zR.mp a
   exact{_,u,rfl,E}
theorem SqT.updX{H:Hp}{D a:Addr}{φ:Heap->Prop}{o:HO}{e:List V}(q:SqT K H a e)(h:H D=some (.ext φ)):SqT K (upd H D o) a e:=by
 rcases q with(q | ⟨u,q⟩) | q
 .exact .inl (.inl (by rw[zj (λz=>by rw[z,h] at q;cases q)];exact q))
 .exact .inl (.inr {u,by rw[zj (λz=>by rw[z,h] at q;cases q)];exact q})
 .exact .inr q
inductive ziC(K:W.Frag)(x y:V)(H:Hp)(Q:VK):Prop
 | mk (a b:Addr) (f o:List V) (_:x=.ref a) (_:y=.ref b) (_:SqT K H a f) (_:SqT K H b o) (_:f.length+o.length<=sizeLine) (_:∀p e,Same H e->SqT K e p (f++o)->Q (.ref p) e):ziC K x y H Q
theorem Wq{X:Cx}:OpR X (binaryOp .Add) (ziC X.K):=by
 intro f s σ H x y v u Q I t A h;obtain⟨a,b,B,C,rfl,rfl,o,hb,D,q⟩:=h;by_cases e:B=[]
 .subst e
  exact zfx f s σ H v u Q I t A {a,b,C,rfl,rfl,o,hb,q b H (u7 _) hb}
 .refine zhj f s σ H _ _ v u Q I t A {a,b,B,C,rfl,rfl,o,hb,e,D,λz=>?_,λz p hp=>q p _ (zb hp) (u6 zd)}
  exact q a H (u7 _) (by rw[z,xN];exact o)
structure EnAt(K:W.Frag)(H:Hp)(xs:PEs)(es:List En):Prop where
 len:xs.length=es.length
 nd:(es.map Prod.fst).Nodup
 at_:∀(i:Nat) x e,xs[i]? =some x->es[i]? =some e->x.1=j4 e.1/\WkAt K H x.2.2 e.2/\KyAt K H x.1 x.2.1
theorem EnAt.nil{H:Hp}:EnAt K H [] []:={rfl,vU,λi x e h=>by simp at h}
theorem KyAt.same{H e:Hp}{k:PKy}{a:Addr}(h:KyAt K H k a)(s:Same H e):KyAt K e k a:=let ⟨B,C,a,b,c⟩:=h;{B,C,s.sqT a,s.sqT b,s.sqT c}
theorem KyAt.updX{H:Hp}{k:PKy}{a D:Addr}{φ:Heap->Prop}{o:HO}(h:KyAt K H k a)(z:H D=some (.ext φ)):KyAt K (upd H D o) k a:=let ⟨B,C,a,b,c⟩:=h;{B,C,a.updX z,b.updX z,c.updX z}
theorem WkAt.same{H e:Hp}{a:Addr}{p:Int×List Int}(h:WkAt K H a p)(s:Same H e):WkAt K e a p:=let ⟨U,a,b⟩:=h;{U,s.sqT a,s.sqT b}
theorem WkAt.updX{H:Hp}{a D:Addr}{p:Int×List Int}{φ:Heap->Prop}{o:HO}(h:WkAt K H a p)(z:H D=some (.ext φ)):WkAt K (upd H D o) a p:=let ⟨U,a,b⟩:=h;{U,a.updX z,b.updX z}
theorem EnAt.same{H o:Hp}{u:PEs}{t:List En}(h:EnAt K H u t)(s:Same H o):EnAt K o u t:={h.len,h.nd,λi x e a b=>let ⟨c,d,f⟩:=h.at_ i x e a b;{c,d.same s,f.same s}}
theorem EnAt.updX{H:Hp}{D:Addr}{u:PEs}{t:List En}{φ:Heap->Prop}{o:HO}(h:EnAt K H u t)(z:H D=some (.ext φ)):EnAt K (upd H D o) u t:={h.len,h.nd,λi x e a b=>let ⟨c,d,f⟩:=h.at_ i x e a b;{c,d.updX z,f.updX z}}
theorem EnAt.get{H:Hp}{t:PEs}{f:List En}(h:EnAt K H t f){i:Nat}{x:PKy×Addr×Addr}(hx:t[i]? =some x):∃e,f[i]? =some e/\x.1=j4 e.1/\WkAt K H x.2.2 e.2/\KyAt K H x.1 x.2.1:=by
 have o:=(zO.mp hx).1;rw[h.len] at o;exact{f[i],by simp[o],h.at_ i x _ hx (by simp[o])}
theorem EnAt.kys{H:Hp}{f:PEs}{o:List En}(h:EnAt K H f o):zaF K H f:=λx hx=>by
 obtain⟨i,t⟩:=vQ.mp hx;obtain⟨e,_,_,_,k⟩:=h.get t;exact k
theorem EnAt.look{H:Hp}{f:PEs}{t:List En}(h:EnAt K H f t)(p:Kp):(lkP f (j4 p)=none/\∀e∈t,e.1≠p)\/∃a v e,lkP f (j4 p)=some (a,v)/\e∈t/\e.1=p/\WkAt K H v e.2:=by
 unfold lkP;cases z:f.find? λx=>decide (x.1=j4 p) with
 | none=>
  refine .inl {rfl,λe u q=>?_}
  obtain⟨i,o⟩:=vQ.mp u;have A:=(zO.mp o).1;rw[<- h.len] at A;have:=zbK.mp z f[i] (xP A);exact this (zY (by rw[<- q];exact(h.at_ i _ _ (by simp[A]) o).1))
 | some x=>
  have e1:=zbx z;obtain⟨i,o⟩:=vQ.mp (zbX z);obtain⟨e,u,a,b,_⟩:=h.get o;refine .inr {x.2.1,x.2.2,e,rfl,qw u,?_,b}
  have e2:=xF e1;rw[a] at e2;exact zai e2
theorem EnAt.new{H:Hp}{t:PEs}{u:List En}{c:En}{b v:Addr}(h:EnAt K H t u)(D:KyAt K H (j4 c.1) b)(G:WkAt K H v c.2)(E:lkP t (j4 c.1)=none)(ne:∀e∈u,e.1≠c.1):EnAt K H (stP t (j4 c.1) b v) (u++[c]):=by
 unfold stP;rw[E];refine{?_,?_,λi x e hx o=>?_}
 .show(t++[_]).length=_
  rw[qu,qu,h.len];rfl
 .rw[zG]
  refine ZV.mpr {h.nd,1e3,λa B d hd=>?_}
  obtain⟨e,o,rfl⟩:=zA.mp B;cases zR.mp hd;exact ne e o
 .have f:(t++[((j4 c.1),b,v)])[i]? =some x:=hx
  by_cases A:i<t.length
  .rw[x6 A] at f
   rw[x6 (by rw[<- h.len];exact A)] at o
   exact h.at_ i x e f o
  .rw[xr ()] at f
   rw[xr (by rw[<- h.len];omega),<- h.len] at o
   have C:i-t.length=0:=by
    have:=(zO.mp f).1;simp at this;omega
   rw[C] at f o;cases f;cases o;exact⟨rfl,G,D⟩
theorem EnAt.old{H:Hp}{f:PEs}{C:List En}{c:En}{b v:Addr}{q:Int×List Int}{p:Addr×Addr}(h:EnAt K H f C)(D:WkAt K H v q)(A:lkP f (j4 c.1)=some p):EnAt K H (stP f (j4 c.1) b v) (reE C c q):=by
 unfold stP;rw[A];show EnAt K H (f.map _) _;refine{by unfold reE;rw[zm,zm,h.len],by rw[ze7];exact h.nd,λi x e hx o=>?_}
 rw[zT] at hx;obtain⟨E,u,rfl⟩:=qy.mp hx;unfold reE at o;rw[zT] at o;obtain⟨B,t,rfl⟩:=qy.mp o;obtain⟨a1,a2,a3⟩:=h.at_ i E B u t;by_cases z:B.1=c.1
 .rw[zt z,zt (by rw[a1,z])]
  exact⟨a1,D,a3⟩
 .rw[zq z,zq (λy=>z (by rw[a1] at y;exact zai y))]
  exact⟨a1,a2,a3⟩
def goD(g:Int×Pl):Dat:=.tup [.int g.1,plD g.2]
def Jt(l:List Key)(x:Key):Bool:=l.any λy=>decide (y=x)
theorem zal{l:List Key}{x:Key}:Jt l x=true↔x∈l:=by
 unfold Jt;rw[ZR];exact{λ⟨y,h,e⟩=>by rw[<- xF e];exact h,λh=>{x,h,zY rfl}}
def blk(e:Key->List Key)(l:List Key)(t:Key):Bool:=(e t).any (Jt l)
def cdT(o:Key->List (Int×Pl))(f:Key->List Key)(e:En)(t:Key):List En:=if blk f e.1.1 t=true then [] else(o t).map (ZI e t)
def wg(t:Key->List (Int×Pl))(f:Key->List Key)(o:List En):List En:=o.flatMap λe=>e.1.1.flatMap (cdT t f e)
theorem Ze{α β:Type}(f:α->List β)(l:List α)(a:α):(l++[a]).flatMap f=l.flatMap f++f a:=by rw[List.flatMap_append,W1,zbz,xN]
theorem Zn{α:Type}[DecidableEq α]:∀(l U:List α),l.Nodup->(∀x∈l,x∈U)->l.length<=U.length
 | [],U,_,_=>qJ _
 | a::l,U,o,h=>by
  have f:=h a 1e3
  have e:=vh.mp o;have:=Zn l (U.erase a) e.2 λx hx=>(List.mem_erase_of_ne (λz=>e.1 (by rw[<- z];exact hx))).mpr (h x (jf _ hx))
  rw[List.length_erase_of_mem f] at this;have:=zbS f;rw[qH];omega
theorem zhM{H:Hp}{p:Int×Pl}{x:V}(h:Rep K H (goD p) x):∃a c,x=.ref a/\SqT K H a [.int p.1,.ref c]/\SqT K H c [.int p.2.1,.int p.2.2]:=by
 obtain⟨a,E,rfl,q,C,D,e,t,G,B,f,u,o⟩:=h;subst e f;cases(show B=[] from o)
 cases(show C=_ from t)
 obtain⟨c,rfl,A⟩:=vt u;exact⟨a,c,rfl,q,A⟩
def GoD(K:W.Frag)(H:Hp)(g:Addr)(A:List Key)(u:Key->List (Int×Pl)):Prop:=∃e,H g=some (.dK e)/\∀t∈A,∃f o,qZ e t=some (.ref f)/\H f=some (.lst o)/\Reps K H ((u t).map goD) o
def AhD(H:Hp)(a:Addr)(u:List Key)(o:Key->List Key):Prop:=∃e,H a=some (.dK e)/\∀t∈u,∃f,qZ e t=some (.ref f)/\H f=some (.lst ((o t).map kV))
theorem GoD.same{H f:Hp}{g:Addr}{u:List Key}{o:Key->List (Int×Pl)}(h:GoD K H g u o)(s:Same H f):GoD K f g u o:=let ⟨A,a,b⟩:=h;{A,s _ _ a,λt D=>let ⟨B,C,c,d,e⟩:=b t D;{B,C,c,s _ _ d,e.same s}}
theorem AhD.same{H e:Hp}{a:Addr}{o:List Key}{f:Key->List Key}(h:AhD H a o f)(s:Same H e):AhD e a o f:=let ⟨u,a,b⟩:=h;{u,s _ _ a,λt B=>let ⟨A,c,d⟩:=b t B;{A,c,s _ _ d}}
theorem zcW(k:Key):xB (kV k)=true:=by cases k<;>rfl
theorem zbf{l:List Key}{j:Nat}{x:V}(h:(l.map kV)[j]? =some x):∃t,l[j]? =some t/\x=kV t:=by
 rw[zT] at h;obtain⟨t,a,b⟩:=qy.mp h;exact⟨t,a,b.symm⟩
theorem zjP(s t:Key):eqV (kV s) (kV t)=decide (s=t):=by
 rcases s with a | a<;>rcases t with b | b
 .show(a==b)=_
  by_cases h:a=b
  .subst h;simp
  .rw[jA (λz=>h (xa z))];simpa using h
 .rw[jA (λz=>nomatch z)];rfl
 .rw[jA (λz=>nomatch z)];rfl
 .show(a==b)=_
  by_cases h:a=b
  .subst h;simp
  .rw[jA (λz=>h (WS z))];simpa using h
theorem zf6(x:Key):∀l:List Key,inV (kV x) (l.map kV)=Jt l x
 | []=>rfl
 | y::l=>by
  show(eqV (kV y) (kV x)||inV (kV x) (l.map kV))=(decide (y=x)||Jt l x)
  rw[zjP,zf6 x l]
theorem zf3(l:List Key):(l.map kV).all xB=true:=by
 rw[List.all_map];exact xD.mpr λx _=>zcW x
inductive zcq(P:Program)(w:World)(K:W.Frag)(G:List V)(H:Hp)(Q:VK):Prop
 | mk (d g a:Addr) (o:Obj) (I:PEs) (A:List En) (B:List Key) (C:Key->List (Int×Pl)) (u:Key->List Key) (U:List Kp) (_:G=[.ref d,.ref g,.ref a]) (_:H d=some (dP P w d o I)) (_:EnAt K H I A) (_:GoD K H g B C) (_:AhD H a B u) (_:(∀e∈A,(∀t∈e.1.1,t∈B)/\e.1.1.length<=100/\e.2.2.length<=100)) (_:(∀t∈B,(u t).length<=100)) (_:(∀c∈wg C u A,c.1∈U)) (_:U.length<=10000) (_:∀(D:Addr) (L:Obj) (J:PEs) (E:List En) f,H D=none->Same H f->f D=some (dP P w D L J)->EnAt K f J E->Bst (wg C u A) E->Q (.ref D) f):zcq P w K G H Q
def zeS(P:Program)(w:World)(K:W.Frag):Sp:=λe H Q _=>zcq P w K e H Q
theorem zir:zM ["walks","goals","aheads","found","left","place","way","numbers","thing","rest","number","goal","walk"] ["walks","goals","aheads"] (zv (topL 11)):=u4
theorem zjw{f:Addr}{fd:FuncData}(F:Fun K "farther" "farther" (topL 11) f fd)(B:Blt N)(Y:Dfn P w K N M "way_between" 1 ["one","other"] (Vr K)):FnOk P w K N M CX0 2 f fd ["walks","goals","aheads"] (zeS P w K):=by
 have nd:=zir.nd;refine F.ok zir 0#i (λcz A cv s H vs Q E hr h=>?_)
 .obtain⟨d,g,a,o,xs,es,ts,gs,ah,U,rfl,_⟩:=h
  rfl
 .obtain⟨d,g,a,o,xs,es,ts,gs,ah,UU,rfl,hd,en,hg,ha,ci,ce,hU,lU,k⟩:=h
  have bv:=Zo hr;have bf:=hr.units;have bw:=Qo (yV (by decide:2<=64) _) bf
  have sz:sizeLine=16777216:=sizeLine_eq;refine{_,(zi (zI (i:=3) nd rfl 0#z zfp)
   (zi (qM jz rfl (JX (Qz (pv 0))) (jP rfl (zD (jP rfl (zD (zy (i:=4) nd rfl (Or.inr rfl)) (zD (zy (i:=5) nd rfl 0#z) jw))) (zD (jP rfl (zD (zy (i:=6) nd rfl 0#z) (zD (zy (i:=7) nd rfl 0#z) jw))) jw)))
   (zp (qM jz rfl (xx (pv 4)) (zy (i:=8) nd rfl (Or.inr rfl))
    (zi (xu (xQ (zr (QF rfl) rfl B.any Xu (za (jT ["left"] [4] rfl rfl (by kernel_rfl) (qW (Wo bv (pv 2) (pv 8) 0#d)) 0#v (λ_ _ _ _=>(xz (ZE (K:=K) rfl) (pv 0) (pv 1) (by with_unfolding_all rfl)))) ze)))
     (zp (YW))
     jk)
     (zi (zI (i:=9) nd rfl 0#z (qh jc rfl B.tuple ja (za (jT ["thing"] [8] rfl rfl (by kernel_rfl) (xx (pv 4)) (λ_ _ _ _=>(ZC (qG Zl (pv 0) (pv 1) (qO _)))) (λ_ _ _ _=>(pv 0))) ze)))
     (zp (qM jz rfl (qW (Wo bv (pv 1) (pv 8) 0#d)) (jP rfl (zD (zy (i:=10) nd rfl 0#z) (zD (zy (i:=11) nd rfl 0#z) jw)))
     (zi (zI (i:=12) nd rfl 0#z (qD (za (zE qN (pv 6) (zn Y hr.m rfl (za (pv 5) (za (pv 11) ze)))) (za (zE Wq (pv 7) (qD (za (pv 10) ze))) ze))))
      (zp (zfg bw (pv 3) (qD (za (pv 9) (za (pv 11) ze))) (zr (zbr rfl bf) rfl B.min yE (za (pv 12) (za (zfs bw (pv 3) (qD (za (pv 9) (za (pv 11) ze))) (pv 12) ⟨rfl,rfl,rfl,rfl⟩) ze))) rfl))))))))))
   (zp (zJ (pv 3))))),?_}
  refineλD oD hD=>?_
  have nd:D≠d:=λz=>by rw[z,hd] at hD;cases hD
  refine{_,rfl,d,o,xs,rfl,by rw[zj nd.symm];exact hd,λq hq=>{q,d,o,xs,rfl,zd,?_,?_}}
  .rw[zj (zk (by rw[zj nd.symm];exact hd) hq),zj nd.symm];exact hd
  have cu:D≠q:=zk zd hq;have cx:Same H (upd (upd H D (dP P w D oD [])) q (Q0 q d)):=(zb hD).trans (zb hq);have c9:upd (upd H D (dP P w D oD [])) q (Q0 q d) D=some (dP P w D oD []):=by rw[zj cu];exact zd
  refine zed (d:=d) (o:=o) (xs:=xs) (λi σ H3=>∃(oD:Obj) (ys:PEs) (fs:List En) (v4 v5 v6 v7 v8 v9 I J O:Option V),σ=[some (.ref d),some (.ref g),some (.ref a),some (.ref D),v4,v5,v6,v7,v8,v9,I,J,O]/\Same H H3/\H3 D=some (dP P w D oD ys)/\EnAt K H3 ys fs/\Bst (wg gs ah (es.take i)) fs)
   {oD,[],[],_,_,_,_,_,_,_,_,_,rfl,cx,c9,EnAt.nil,Bst.nil} (λi σ H3 _ ⟨_,_,_,_,_,_,_,_,_,_,_,_,_,s3,_,_,_⟩=>s3 _ _ hd) ?_ ?_
  rotate_left
  .rintro σ H3 ⟨oD,ys,fs,v4,v5,v6,v7,v8,v9,I,J,O,rfl,s3,bc,bh,ay⟩
   rw[en.len,qY] at ay;exact{_,rfl,k D oD ys fs H3 hD s3 bc bh ay}
  rintro i kx ax vx σ H3 T hx ⟨oD,ys,fs,v4,v5,v6,v7,v8,v9,I,J,O,rfl,s3,bc,bh,ay⟩ hT;obtain⟨e,he,ek,⟨U,qv,qU⟩,Bl,C,qa,qB,qC⟩:=en.get hx;obtain⟨⟨l,pl⟩,G,ns⟩:=e;cases(show kx=(l,plK pl) from ek)
  have hm:=qw he;obtain⟨hl,ll,nl⟩:=ci _ hm;have il:i<es.length:=(zO.mp he).1;have sT:=s3.trans (zb (o:=.tup [.ref ax,.ref vx]) hT);have cm:∀c,c∈l.flatMap (cdT gs ah ((l,pl),(G,ns)))->c.1∈UU:=λc hc=>hU c (vO.mpr {_,hm,hc})
  have c5:∀c,c∈wg gs ah (es.take i)->c.1∈UU:=λc hc=>by
   obtain⟨e',h1,h2⟩:=vO.mp hc;exact hU c (vO.mpr {e',QS h1,h2})
  refine{T,_,rfl,u6 zd,rfl,_,_,rfl,ax,_,rfl,sT.sqT qa,rfl,_,_,rfl,_,_,rfl,rfl,_,_,rfl,vx,_,rfl,sT.sqT qv,rfl,_,_,rfl,_,_,rfl,rfl,rfl,?_}
  refine{_,rfl,Bl,rfl,{_,sT.sqT qB},JE (K:=K) (a:=Bl) (xs:=l.map kV) (λj σ H5=>Ex8 λ(oD:Obj) (ys:PEs) (fs:List En) (v8 v9 I J O:Option V)=>An5 (σ=[some (.ref d),some (.ref g),some (.ref a),some (.ref D),some (.ref Bl),some (.ref C),some (.int G),some (.ref U),v8,v9,I,J,O]) (Same H H5) (H5 D=some (dP P w D oD ys)) (EnAt K H5 ys fs) (Bst (wg gs ah (es.take i)++(l.take j).flatMap (cdT gs ah ((l,pl),(G,ns)))) fs))
   {oD,ys,fs,_,_,_,_,_,rfl,sT,by rw[zj (zk bc hT)];exact bc,bh.same (zb hT),by rw[WT,zbz,xN];exact ay} (λj σ H5 _ ⟨_,_,_,_,_,_,_,_,_,s5,_,_,_⟩=>s5.sqT qB) ?_ ?_}
  rotate_left
  .rintro σ H5 ⟨af,ag,ai,v8,v9,I,J,O,rfl,s5,aj,ao,aa⟩
   refine{af,ag,ai,_,_,_,_,_,_,_,_,_,rfl,s5,aj,ao,?_}
   rw[qF he];unfold wg;rw[Ze];rw[zm,qY] at aa;exact aa
  rintro j x σ H5 hj ⟨af,ag,ai,v8,v9,I,J,O,rfl,s5,aj,ao,aa⟩;obtain⟨t,ht,rfl⟩:=zbf hj;have tm:=hl t (qw ht);obtain⟨ak,cf,cg⟩:=ha;obtain⟨al,c4,bp⟩:=cg t tm;obtain⟨gk,ck,cl⟩:=hg;obtain⟨gl,gv,gt,bs,rg⟩:=cl t tm;have cy:=ce t tm;have gA:∀{H':Hp},Same H H'->DGet H' a (kV t) (some (.ref al)):=λs'=>by have:=DGet.k (k:=t) (s' _ _ cf);rw[c4] at this;exact this
  have gG:∀{H':Hp},Same H H'->DGet H' g (kV t) (some (.ref gl)):=λs'=>by have:=DGet.k (k:=t) (s' _ _ ck);rw[gt] at this;exact this
  refine{_,rfl,_,rfl,a,.ref al,rfl,gA s5,al,rfl,{_,u5 (s5 _ _ bp)},vy (K:=K) (a:=al) (xs:=(ah t).map kV) (λj zs H6=>zs=(((ah t).take j).map λx=>V.bl (Jt l x))/\H6=H5) ⟨rfl,rfl⟩ (λj zs H6 ⟨_,h6⟩=>by rw[h6];exact u5 (s5 _ _ bp)) ?_ ?_}
  .rintro j x zs H6 cs ⟨rfl,rfl⟩
   obtain⟨y,hy,rfl⟩:=zbf cs;have jl:=(zO.mp hy).1;refine{rfl,_,rfl,_,rfl,Bl,l.map kV,rfl,.inr (s5.sqT qB),zcW y,?_,?_,?_}
   .exact zf3 l
   .rw[zm,jb];omega
   .show _++[V.bl (inV (kV y) (l.map kV))]=_/\_
    rw[zf6,qF hy,zG];exact⟨rfl,rfl⟩
  rintro zs H6 ⟨hz,rfl⟩;rw[zm,qY] at hz;subst hz;refine{by rw[zm];omega,λL hL=>{L,(ah t).map (Jt l),rfl,u5 (by rw[qK];exact zd),_,rfl,?_}}
  have eb:((ah t).map (Jt l)).any id=blk ah l t:=by unfold blk;rw[List.any_map];rfl
  rw[eb];have s6:=s5.trans (zb (o:=.lst ((ah t).map λx=>V.bl (Jt l x))) hL)
  have bd:upd H6 L (.lst ((ah t).map λx=>V.bl (Jt l x))) D=some (dP P w D af ag):=by rw[zj (zk aj hL)];exact aj
  have az:=ao.same (zb (o:=.lst ((ah t).map λx=>V.bl (Jt l x))) hL)
  generalize upd H6 L (.lst ((ah t).map λx=>V.bl (Jt l x)))=H7 at s6 bd az
  refine wo (λc=>?_) (λc=>?_)
  .refine{af,ag,ai,_,_,_,_,_,rfl,s6,bd,az,?_}
   rw[qF ht,Ze,show cdT gs ah ((l,pl),(G,ns)) t=[] by unfold cdT;rw[zt c],xN]
   exact aa
  have cT:cdT gs ah ((l,pl),(G,ns)) t=(gs t).map (ZI ((l,pl),(G,ns)) t):=by unfold cdT;rw[zq (λz=>c z)]
  refine{_,rfl,Bl,rfl,{_,s6.sqT qB},vM (K:=K) (a:=Bl) (xs:=l.map kV) (λj zs H8=>zs=(qQ (l.take j) t).map kV/\H8=H7) ⟨rfl,rfl⟩ (λj zs H8 ⟨_,h8⟩=>by rw[h8];exact s6.sqT qB) ?_ ?_}
  .rintro j x zs H8 cn ⟨rfl,rfl⟩
   obtain⟨y,hy,rfl⟩:=zbf cn;have jl:=(zO.mp hy).1;have ll:l.length<=100:=ll;have hz:(qQ (l.take j) t).length<=j:=jx (Qp _ _) (by rw[jb];omega)
   have ex:(!decide (kV y=kV t))=decide (y≠t):=by
    by_cases z:y=t
    .rw[z];simp
    .rw[zY z,jA (λq=>z (zjG q))];rfl
   refine{rfl,_,rfl,_,rfl,by cases y<;>cases t<;>rfl,_,rfl,?_}
   rw[ex];refine wo (λc=>{_,rfl,by rw[zm];omega,?_,rfl}) (λc=>{?_,rfl})
   .rw[qF hy]
    unfold qQ;rw[Qn,zG,Xz (by exact c)]
    rfl
   .rw[qF hy]
    unfold qQ;rw[Qn,Z3 (by exactλz=>c z)]
    rw[List.filter_nil,xN]
  rintro zs H8 ⟨hz,rfl⟩;rw[zm,qY] at hz;subst hz;have ll:l.length<=100:=ll;have hz:(qQ l t).length<=l.length:=Qp _ _;refine{by rw[zm];omega,λl2 cp=>{l2,(qQ l t).map kV,rfl,.inl {u5 zd,λR hR=>?_}}}
  have av:Same H8 (upd (upd H8 l2 (.lst ((qQ l t).map kV))) R (.tup ((qQ l t).map kV))):=(zb cp).trans (zb hR);have bi:upd (upd H8 l2 (.lst ((qQ l t).map kV))) R (.tup ((qQ l t).map kV)) R=some (.tup ((qQ l t).map kV)):=zd;generalize upd (upd H8 l2 (.lst ((qQ l t).map kV))) R (.tup ((qQ l t).map kV))=H9 at av bi;have s9:=s6.trans av;have lg:=rg.len;rw[zm] at lg;refine{_,rfl,_,rfl,g,.ref gl,rfl,gG s9,gl,rfl,{_,u5 (s9 _ _ bs)},j8 (K:=K) (a:=gl) (xs:=gv) (λm σ H8=>Ex6 λ(oD:Obj) (ys:PEs) (fs:List En) (I J O:Option V)=>An6 (σ=[some (.ref d),some (.ref g),some (.ref a),some (.ref D),some (.ref Bl),some (.ref C),some (.int G),some (.ref U),some (kV t),some (.ref R),I,J,O]) (Same H H8) (H8 R=some (.tup ((qQ l t).map kV))) (H8 D=some (dP P w D oD ys)) (EnAt K H8 ys fs) (Bst (wg gs ah (es.take i)++(l.take j).flatMap (cdT gs ah ((l,pl),(G,ns)))++((gs t).take m).map (ZI ((l,pl),(G,ns)) t)) fs))
   {af,ag,ai,_,_,_,rfl,s9,bi,av _ _ bd,az.same av,by rw[WT,ZM,xN];exact aa} (λj σ H8 _ ⟨_,_,_,_,_,_,_,s8,_,_,_,_⟩=>u5 (s8 _ _ bs)) ?_ ?_}
  rotate_left
  .rintro σ H5 ⟨af,ag,ai,I,J,O,rfl,s5,_,aj,ao,aa⟩
   refine{af,ag,ai,_,_,_,_,_,rfl,s5,aj,ao,?_}
   rw[lg,qY] at aa;rw[qF ht,Ze,cT,<- xE];exact aa
  clear av bi bd az s9;rintro m x σ H8 cq ⟨bj,aw,bb,I,J,O,rfl,s8,cb,ca,b0,bg⟩;obtain⟨dd,br,rx⟩:=(rg.same s8).get cq;rw[zT] at br;obtain⟨gg,cj,rfl⟩:=qy.mp br;obtain⟨ga,gc,rfl,cw,bx⟩:=zhM rx;have fl:bb.length<=10000:=by
   rw[<- zm (f:=Prod.fst) (as:=bb)];refine jx (Zn _ UU b0.nd λz hz=>?_) lU
   obtain⟨e',ch,rfl⟩:=zA.mp hz;rcases qL.mp (bg.1 e' ch) with q | q
   .rcases qL.mp q with q | q
    .exact c5 _ q
    .obtain⟨t',h1,h2⟩:=vO.mp q
     exact cm _ (vO.mpr {t',QS h1,h2})
   .refine cm _ (vO.mpr {t,qw ht,?_})
    rw[cT];obtain⟨g',h1,rfl⟩:=zA.mp q;exact zA.mpr {g',QS h1,rfl}
  have nl:ns.length<=100:=nl;refine{ga,_,rfl,cw,rfl,_,_,rfl,_,_,rfl,rfl,?_}
  refine{_,rfl,_,rfl,_,rfl,.ref C,.ref gc,pl,gg.2,rfl,va (s8.sqT qC),va bx,_,_,rfl,rfl,_,rfl,_,rfl,(by show 1<=_;omega),λq1 bt=>{U,q1,_,_,rfl,rfl,(s8.trans (zb bt)).sqT qU,u6 zd,(by rw[zm];show ns.length+1<=_;omega),λq2 H9 s9 cr=>{(by show 2<=_;omega),λq3 bu=>?_}}}
  have an:Same H8 (upd H9 q3 (.tup [.int (G+zQ pl gg.2),.ref q2])):=(zb bt).trans (s9.trans (zb bu));have w3:WkAt K (upd H9 q3 (.tup [.int (G+zQ pl gg.2),.ref q2])) q3 (ZI ((l,pl),(G,ns)) t gg).2:={q2,u6 zd,by rw[show((ZI ((l,pl),(G,ns)) t gg).2.2.map V.int)=ns.map V.int++[.int gg.1] by unfold ZI;rw[zG];rfl];exact(zb bu).sqT cr}
  generalize upd H9 q3 (.tup [.int (G+zQ pl gg.2),.ref q2])=ae at an w3;generalize bq:ZI ((l,pl),(G,ns)) t gg=cd at w3;have c7:j4 cd.1=(qQ l t,plK gg.2):=by rw[<- bq];rfl
  have ab:=b0.same an;have ap:=an _ _ ca;have be:=an _ _ cb;have bm:=an.sqT bx;have bz:=s8.trans an;have ky:∀{k1:Addr} {H':Hp},Same ae H'->H' k1=some (.tup [.ref R,.ref gc])->KyAt K H' (j4 cd.1) k1:=λs' hk=>by rw[c7];exact{R,gc,u6 hk,u6 (s' _ _ be),s'.sqT bm}
  obtain⟨v,q0,ba,ev,wv,c8⟩:∃(v:Addr) (q0:Int×List Int) (ba:List En),((lkP aw (j4 cd.1)).map λp=>V.ref p.2).getD (.ref q3)=.ref v/\WkAt K ae v q0/\∀k2 H',Same ae H'->KyAt K H' (j4 cd.1) k2 ->
    EnAt K H' (stP aw (j4 cd.1) k2 (if ltW q0 cd.2=true then v else q3)) ba/\Bst (wg gs ah (es.take i)++(l.take j).flatMap (cdT gs ah ((l,pl),(G,ns)))++((gs t).take m).map (ZI ((l,pl),(G,ns)) t)++[cd]) ba:=by
   rcases ab.look cd.1 with ⟨no,ne⟩ | ⟨a0,v0,e0,c0,m0,c6,w0⟩
   .refine{q3,cd.2,bb++[cd],by rw[no];rfl,w3,λk2 H' s' hk=>{?_,bg.snoc}}
    rw[ite_self];exact(ab.same s').new hk (w3.same s') no ne
   .refine{v0,e0.2,reE bb cd (if ltW e0.2 cd.2=true then e0.2 else cd.2),by rw[c0];rfl,w0,λk2 H' s' hk=>{?_,bg.re b0.nd m0 c6}}
    refine(ab.same s').old (WkAt.same ?_ s') c0
    split
    .exact w0
    .exact w3
  refine{_,rfl,_,rfl,D,bj,aw,rfl,ap,_,rfl,_,rfl,(by show 2<=_;omega),λk1 am=>{_,rfl,k1,bj,aw,j4 cd.1,rfl,zb am _ _ ap,(ab.same (zb am)).kys,ky (zb am) zd,?_}}
  rw[ev];refine{q3,v,cd.2,q0,rfl,w3.same (zb am),wv.same (zb am),?_}
  refine{_,rfl,_,rfl,_,rfl,(by show 2<=_;omega),λk2 co=>?_}
  have ac:Same ae (upd (upd ae k1 (.tup [.ref R,.ref gc])) k2 (.tup [.ref R,.ref gc])):=(zb am).trans (zb co);have au:upd (upd ae k1 (.tup [.ref R,.ref gc])) k2 (.tup [.ref R,.ref gc]) k2=some (.tup [.ref R,.ref gc]):=zd;generalize upd (upd ae k1 (.tup [.ref R,.ref gc])) k2 (.tup [.ref R,.ref gc])=c3 at ac au;obtain⟨bo,bn⟩:=c8 k2 c3 ac (ky ac au);have aq:=ac _ _ ap;refine{D,k2,_,bj,aw,j4 cd.1,rfl,rfl,rfl,aq,(ab.same ac).kys,ky ac au,by rw[b0.len];omega,λo'=>?_}
  refine{o',_,ba,_,_,_,rfl,λc u hc=>?_,?_,zd,bo.updX aq,by rw[qF cj,zG,<- xE];show Bst (_++[ZI ((l,pl),(G,ns)) t gg]) _;rw[bq];exact bn}
  .rw[zj (zk hc hD)];exact ac _ _ (bz _ _ hc)
  .have ar:=ac _ _ be
   rw[zj (λz=>by rw[z,aq] at ar;cases ar)];exact ar
inductive Rn(o:Key->List (Int×Pl))(f:Key->List Key)(S:En->Prop):Nat->En->Prop
 | zero (e:En) (_:S e):Rn o f S 0 e
 | succ (n:Nat) (e:En) (t:Key) (g:Int×Pl) (_:Rn o f S n e) (_:t∈e.1.1) (_:blk f e.1.1 t=false) (_:g∈o t):Rn o f S (n+1) (ZI e t g)
def Bn(t:Key->List (Int×Pl))(f:Key->List Key)(S:En->Prop)(n:Nat)(o:List En):Prop:=(∀e∈o,Rn t f S n e)/\∀c,Rn t f S n c->∃e∈o,e.1=c.1/\e.2.1<=c.2.1
theorem Wu{u:Key->List (Int×Pl)}{f:Key->List Key}{o:List En}{c:En}:c∈wg u f o↔∃e∈o,∃t∈e.1.1,blk f e.1.1 t=false/\∃g∈u t,ZI e t g=c:=by
 unfold wg;rw[vO];refine exists_congr λe=>and_congr_right λ_=>?_
 rw[vO];refine exists_congr λt=>and_congr_right λ_=>?_
 unfold cdT;split
 .rename_i h
  exact{λz=>(nomatch z),λz=>by rw[h] at z;exact absurd z.1 1e1}
 .rename_i h
  rw[zA];exact{λz=>{by simpa using h,z},λz=>z.2}
theorem Bn.step{A:Key->List (Int×Pl)}{u:Key->List Key}{S:En->Prop}{n:Nat}{G H:List En}(h:Bn A u S n G)(b:Bst (wg A u G) H):Bn A u S (n+1) H:=by
 refine{λe B=>?_,λc hc=>?_}
 .obtain⟨E,h0,t,D,hb,g,C,rfl⟩:=Wu.mp (b.1 e B)
  exact .succ n E t g (h.1 E h0) D hb C
 .cases hc with
  | succ _ e t g B D hb C=>
   obtain⟨e1,h1,o,L⟩:=h.2 e B;obtain⟨f,I,J,O⟩:=b.2.1 (ZI e1 t g) (Wu.mpr {e1,h1,t,by rw[o];exact D,by rw[o];exact hb,g,C,rfl})
   refine{f,I,J.trans ?_,yL O ?_}
   .show(qQ e1.1.1 t,g.2)=(qQ e.1.1 t,g.2)
    rw[o]
   .show e1.2.1+zQ e1.1.2 g.2<=e.2.1+zQ e.1.2 g.2
    rw[o];exact zbO L _
theorem xS(l:List Key)(t:Key):List.Sublist (qQ l t) l:=W7
theorem y9{l:List Key}{t x:Key}:x∈qQ l t↔x∈l/\x≠t:=by
 unfold qQ;rw[xO];exact and_congr_right λ_=>{λh=>xF h,λh=>zY h}
theorem wH:∀{l:List Key} {t:Key},l.Nodup->t∈l->(qQ l t).length+1=l.length
 | a::l,t,o,h=>by
  have e:=vh.mp o;by_cases c:a=t
  .subst c
   have:qQ l a=l:=List.filter_eq_self.mpr λx hx=>zY λz=>e.1 (by rw[<- z];exact hx)
   unfold qQ at this ⊢;rw[Z3 1e3,this]
   rfl
  .have f:t∈l:=by
    rcases zP.mp h with z | z
    .exact absurd z.symm c
    .exact z
   have:=wH e.2 f;unfold qQ at this ⊢;rw[Xz (by exact zY c),qH,qH,this]
theorem Rn.shape{A:Key->List (Int×Pl)}{u:Key->List Key}{S:En->Prop}{f:List Key}{n0:Nat}(o:f.Nodup)(h0:∀e,S e->e.1.1=f/\e.2.2.length=n0):∀{n:Nat} {e:En},Rn A u S n e->List.Sublist e.1.1 f/\e.1.1.length+n=f.length/\e.2.2.length=n0+n
 | _,_,.zero e h=>by
  obtain⟨a,b⟩:=h0 e h;rw[a];exact{QP _,rfl,b}
 | _,_,.succ n e t g B C hb D=>by
  obtain⟨a,b,c⟩:=Rn.shape o h0 B;have:=wH (a.nodup o) C;refine{(xS _ _).trans a,?_,?_}
  .show(qQ e.1.1 t).length+(n+1)=_
   omega
  .show(e.2.2++[g.1]).length=_
   rw[qu,c];rfl
def X1{α:Type}:List α->List (List α)
 | []=>[[]]
 | a::l=>X1 l++(X1 l).map (a:: ·)
theorem Qa{α:Type}:∀l:List α,(X1 l).length=2^l.length
 | []=>rfl
 | a::l=>by
  show(X1 l++(X1 l).map (a:: ·)).length=_
  rw[qu,zm,Qa l,qH,Nat.pow_succ,Nat.mul_two]
theorem yp{α:Type}:∀{x l:List α},List.Sublist x l->x∈X1 l
 | _,_,.slnil=>by simp[X1]
 | _,_,.cons a h=>jK _ (yp h)
 | _,_,.cons₂ a h=>zZ _ (zA.mpr {_,yp h,rfl})
def Q7(e:List Key)(f:List Pl):List Kp:=(X1 e).flatMap λl=>f.map λp=>(l,p)
theorem VO(o:List Key)(f:List Pl):(Q7 o f).length=2^o.length*f.length:=by
 have h:∀e:List (List Key),(e.flatMap λl=>f.map λp=>((l,p):Kp)).length=e.length*f.length:=by
  intro e;induction e with
  | nil=>rw[yQ,Nat.zero_mul];rfl
  | cons a e t=>rw[W1,qu,t,zm,qH,Nat.succ_mul,Nat.add_comm]
 unfold Q7;rw[h,Qa]
theorem zd5{e l:List Key}{f:List Pl}{p:Pl}(h:List.Sublist l e)(hp:p∈f):(l,p)∈Q7 e f:=vO.mpr {l,yp h,zA.mpr ⟨p,hp,rfl⟩}
theorem zas{gs:Key->List (Int×Pl)}{ah:Key->List Key}{u:List En}{o:List Key}{B:List Pl}(h:∀e∈u,List.Sublist e.1.1 o)(C:∀t∈o,∀g∈gs t,g.2∈B):∀c∈wg gs ah u,c.1∈Q7 o B:=λc hc=>by
 obtain⟨e,A,t,D,_,g,f,rfl⟩:=Wu.mp hc;exact zd5 ((xS _ _).trans (h e A)) (C t ((h e A).subset D) g f)
theorem Bst.len{A:Key->List (Int×Pl)}{t:Key->List Key}{u o:List En}{U:List Kp}(b:Bst (wg A t u) o)(E:(o.map Prod.fst).Nodup)(B:∀c∈wg A t u,c.1∈U):o.length<=U.length:=by
 rw[<- zm (f:=Prod.fst) (as:=o)];refine Zn _ U E λz D=>?_
 obtain⟨e,C,rfl⟩:=zA.mp D;exact B e (b.1 e C)
def LiD(A:Key->Hp->List V->Prop)(H:Hp)(G:Addr)(u:List Key):Prop:=∃e,H G=some (.dK e)/\e.map Prod.fst=u/\∀t∈u,∃f o,qZ e t=some (.ref f)/\H f=some (.lst o)/\A t H o
theorem Vk{κ:Type}[DecidableEq κ]:∀{e:List (κ×V)} {k:κ},k∉e.map Prod.fst->qZ e k=none
 | [],_,_=>rfl
 | p::r,k,h=>by
  rw[ji (λz=>h (by rw[<- z];simp))]
  exact Vk λz=>h (jf _ z)
theorem Yt{κ:Type}[DecidableEq κ]:∀{f:List (κ×V)} {k:κ} {r:List (κ×V)},qZ (f++r) k=(qZ f k).or (qZ r k)
 | [],_,_=>rfl
 | p::q,k,r=>by
  by_cases e:p.1=k
  .rw[zbC,jh e,jh e];rfl
  .rw[zbC,ji e,ji e,Yt]
theorem LiD.same{u:Key->Hp->List V->Prop}(I:∀t H o A,Same H o->u t H A->u t o A){H o:Hp}{G:Addr}{B:List Key}(h:LiD u H G B)(s:Same H o):LiD u o G B:=let ⟨C,a,b,c⟩:=h;{C,s _ _ a,b,λt E=>let ⟨D,A,d,e,f⟩:=c t E;{D,A,d,s _ _ e,I t _ _ _ s f}}
theorem LiD.put{u:Key->Hp->List V->Prop}(O:∀t H (G:Addr) I B A,H G=some (.dK I)->u t H A->u t (upd H G (.dK B)) A){H:Hp}{G l:Addr}{C:List Key}{t:Key}{D:List V}(h:LiD u H G C)(Q:t∉C)(E:H l=some (.lst D))(r:u t H D) :
  ∃o,H G=some (.dK o)/\o.length=C.length/\LiD u (upd H G (.dK (xt o t (.ref l)))) G (C++[t]):=by
 obtain⟨o,a,b,c⟩:=h;have J:qZ o t=none:=Vk (by rw[b];exact Q)
 have nl:l≠G:=λz=>by rw[z,a] at E;cases E
 refine{o,a,by rw[<- b,zm],_,zd,?_,λx hx=>?_}
 .rw[Qe _ J,zG,b];rfl
 .rw[Qe _ J,Yt]
  rcases qL.mp hx with m | m
  .obtain⟨L,A,d,e,f⟩:=c x m
   refine{L,A,by rw[d];rfl,?_,O x H G o _ A a f}
   rw[zj (λz:L=G=>by rw[z,a] at e;cases e)];exact e
  .cases zR.mp m
   refine{l,D,by rw[J];exact jh rfl,?_,O _ H G o _ D a r}
   rw[zj nl];exact E
def RlG(K:W.Frag)(e:Key->List (Int×Pl))(t:Key)(H:Hp)(f:List V):Prop:=Reps K H ((e t).map goD) f
def RlA(e:Key->List Key)(t:Key)(H:Hp)(f:List V):Prop:=f=(e t).map kV
theorem zc1:∀e:List (Int×Pl),Dat.imms (e.map goD)=true
 | []=>rfl
 | g::e=>by
  show(Dat.imm (goD g)&&Dat.imms (e.map goD))=true;rw[zc1 e];rfl
theorem RlG.same(f:Key->List (Int×Pl))(t:Key)(H e:Hp)(o:List V)(s:Same H e)(h:RlG K f t H o):RlG K f t e o:=Reps.same s h
def uc:=@RlG.same
theorem RlG.put(o:Key->List (Int×Pl))(t:Key)(H:Hp)(G:Addr)(f e:List (Key×V))(u:List V)(A:H G=some (.dK f))(h:RlG K o t H u):RlG K o t (upd H G (.dK e)) u:=Reps.keep (SameT.putD A) (zc1 _) h
theorem LiD.go{H:Hp}{G:Addr}{f:List Key}{e:Key->List (Int×Pl)}(h:LiD (RlG K e) H G f):GoD K H G f e:=let ⟨o,a,_,c⟩:=h;⟨o,a,c⟩
theorem LiD.ah{H:Hp}{G:Addr}{o:List Key}{ah:Key->List Key}(h:LiD (RlA ah) H G o):AhD H G o ah:=let ⟨u,a,_,c⟩:=h;{u,a,λt C=>let ⟨A,B,d,e,f⟩:=c t C;{A,d,by rw[e,show B=_ from f]}}
theorem LiD.nil{e:Key->Hp->List V->Prop}{H:Hp}{G:Addr}(h:H G=some (.dK [])):LiD e H G []:={[],h,rfl,λt f=>nomatch f}
theorem zf9{H:Hp}{a c:Addr}{n:Int}{p:Pl}(h:SqT K H a [.int n,.ref c])(hc:SqT K H c [.int p.1,.int p.2]):Rep K H (goD (n,p)) (.ref a):={a,_,rfl,h,_,_,rfl,rfl,_,_,rfl,va hc,rfl}
def fpl(J:Job)(i:Nat):Pl:=((J.fs[i]?.map λf=>(f.x,f.y)).getD (0,0))
def fgs(J:Job)(e:Str):List (Int×Pl):=(atK J.fs e J.fs.length).map λ(i:Nat)=>((i:Int),fpl J i)
theorem zdg{e:List yY}{o:Str}{n i:Nat}(h:i∈atK e o n):∃f,e[i]? =some f/\f.k=o:=by
 have:=xF (xO.mp h).2;exact qy.mp this
theorem Jy{J:Job}{o:Str}{g:Int×Pl}(h:g∈fgs J o):∃(n:Nat) (f:yY),J.fs[n]? =some f/\f.k=o/\g=((n:Int),(f.x,f.y)):=by
 obtain⟨n,t,rfl⟩:=zA.mp h;obtain⟨f,e,hk⟩:=zdg t;refine{n,f,e,hk,?_}
 show((n:Int),fpl J n)=_;unfold fpl;rw[e];rfl
theorem zc4{J:Job}{n:Nat}{f:yY}(e:J.fs[n]? =some f):((n:Int),(f.x,f.y))∈fgs J f.k:=by
 refine zA.mpr {n,xO.mpr {xo.mpr (zO.mp e).1,zY (by rw[e];rfl)},?_}
 show((n:Int),fpl J n)=_;unfold fpl;rw[e];rfl
def gsK(J:Job):Key->List (Int×Pl)
 | .inr e=>fgs J e
 | .inl _=>[]
def ahN:Key->List Key:=λ_=>[]
def gate(J:Job):Pl:=(J.gx,J.gy)
def kKs(e:List Str):List Key:=e.map Sum.inr
theorem QA{f:List Str}(h:f.Nodup):(kKs f).Nodup:=by
 unfold kKs;induction f with
 | nil=>exact vU
 | cons a r o=>
  obtain⟨h1,h2⟩:=vh.mp h;refine vh.mpr {λz=>?_,o h2}
  obtain⟨b,hb,e⟩:=zA.mp z;cases e;exact h1 hb
def stK(J:Job)(f:List Str)(e:En):Prop:=e=((kKs f,gate J),(0,[]))
def wU(J:Job):List Pl:=J.fs.map λf=>(f.x,f.y)
theorem zjM{J:Job}:∀t,∀g∈gsK J t,g.2∈wU J
 | .inr o,g,h=>by
  obtain⟨n,f,e,_,rfl⟩:=Jy h;exact zA.mpr {f,qw e,rfl}
 | .inl _,g,h=>nomatch h
inductive YF(P:Program)(w:World)(K:W.Frag)(A:List V)(H:Hp)(Q:VK):Prop
 | mk (t u:Addr) (J:Job) (e:List Str) (_:A=[.ref t,.ref u]) (_:Rep K H (xJ J) (.ref t)) (_:J.fs.length<=100) (_:H u=some (.lst (e.map V.str))) (_:e.Nodup) (_:e.length<=6) (_:∀(D:Addr) (C:Obj) (B:PEs) (o:List En) f,H D=none->Same H f->f D=some (dP P w D C B)->EnAt K f B o->Bn (gsK J) ahN (stK J e) e.length o->o.length<=6400->Q (.ref D) f):YF P w K A H Q
def zeJ(P:Program)(w:World)(K:W.Frag):Sp:=λe H Q _=>YF P w K e H Q
theorem zeY:zM ["job","kinds","goals","aheads","walks","step"] ["job","kinds"] (zv (topL 12)):=u4
theorem zhn{f:Addr}{fd:FuncData}(F:Fun K "picking_walks" "picking_walks" (topL 12) f fd)(B:Blt N)(I:Dfn P w K N M "feeders_for" 1 ["job","kind"] (zif K))(Y:Dfn P w K N M "farther" 2 ["walks","goals","aheads"] (zeS P w K)):FnOk P w K N M CX0 3 f fd ["job","kinds"] (zeJ P w K):=by
 have nd:=zeY.nd;refine F.ok zeY 0#i (λbt A bo s H vs Q E hr h=>?_)
 .obtain⟨jp,ks,J,C,rfl,_⟩:=h
  rfl
 .obtain⟨jp,ks,J,C,rfl,rj,jl,hk,ay,kl,k⟩:=h
  have bu:=Zo hr;have ax:=hr.units;have bn:=Qo (yV (by decide:2<=64) _) ax
  have sz:sizeLine=16777216:=sizeLine_eq;have ao:=bGe;obtain⟨g,fs,ps,as,fv,bw,qj,rg,qf,rf,qp,rp,_⟩:=jg rj;obtain⟨g',eg,qg⟩:=vt (p:=gate J) rg;cases eg;have az:=QA ay;have lK:(kKs C).length=C.length:=zm _;have bc:∀{i:Nat} {L:Str},C[i]? =some L->kKs (C.take (i+1))=kKs (C.take i)++[.inr L]/\(Sum.inr L:Key)∉kKs (C.take i):=λ{i L} h=>by
   refine{by rw[qF h];unfold kKs;rw[zG];rfl,λz=>?_}
   obtain⟨b,hb,e⟩:=zA.mp z;cases e;obtain⟨m,hm⟩:=vQ.mp hb;have bm:=(zO.mp hm).1;rw[jb] at bm;rw[Yk ()] at hm
   have:=(XL () ay).mp (hm.trans h.symm)
   omega
  refine{_,(zi (Wj ["job"] [0] Ws Wh rfl rfl (by kernel_rfl) (qW (pv 1)) 0#v (λ_ _ _ _=>(pv 0)) (λ_ _ _ _=>(jT ["job"] [1] rfl rfl (by kernel_rfl) (YY (K:=K) rfl (zn I hr.m rfl (za (pv 1) (za (pv 0) ze)))) 0#v (λ_ _ _ _=>(qD (za (pv 0) (za (zu 0#u (zu 0#u (zu 0#u (pv 1) zf 0#d) (pv 0) 0#d) zf 0#d) ze)))))) (zy (i:=2) nd rfl 0#z))
   (zi (Wj [] [] Ws Wh rfl rfl (by kernel_rfl) (qW (pv 1)) 0#v (λ_ _ _ _=>(pv 0)) (λ_ _ _ _=>(je ze)) (zy (i:=3) nd rfl 0#z))
   (zi (zI (i:=4) nd rfl 0#z (zfr bn (qD (za (qh jc rfl B.tuple ja 0#K) (za 0#B ze))) (qD (za zf (za (qD ze) ze)))))
   (zi (qM jz rfl (qS rfl B.range (za (zr zC rfl B.len boot_len 0#K) ze)) (zy (i:=5) nd rfl 0#z)
   (zp (zI (i:=4) nd rfl 0#z (zn Y hr.m rfl (za (pv 4) (za (pv 2) (za (pv 3) ze)))))))
   (zp (zJ (pv 4))))))),?_}
  refine{_,rfl,ks,rfl,{_,u5 hk},λG hG=>?_}
  have bv:ks≠G:=zk hk hG;refine JG (K:=K) (a:=ks) (D:=G) (xs:=C.map V.str) (λi H1=>Same H H1/\LiD (RlG K (gsK J)) H1 G (kKs (C.take i))) {zb hG,LiD.nil zd} (λi H1 ⟨s1,_⟩=>u5 (s1 _ _ hk)) ?_ ?_
  .rintro i x H1 hx ⟨s1,d1⟩
   rw[zT] at hx;obtain⟨L,ac,rfl⟩:=qy.mp hx;have il:=(zO.mp ac).1;have bs:(fgs J L).length<=100:=by have:=WN J.fs L J.fs.length;unfold fgs;rw[zm];omega
   have al:=WN J.fs L J.fs.length;refine{rfl,_,rfl,_,rfl,_,rfl,jp,J,L,rfl,rj.same s1,jl,λl O hl s2 au=>{l,rfl,{_,u5 au},?_}}
   have ab:=s1.trans s2;refine vy (K:=K) (a:=l) (xs:=qm (atK J.fs L J.fs.length)) (λj zs H3=>Same O H3/\Reps K H3 (((fgs J L).take j).map goD) zs) {u7 _,rfl} (λj zs H3 ⟨s3,_⟩=>u5 (s3 _ _ au)) ?_ ?_
   .rintro j x zs H3 hx ⟨s3,rz⟩
    obtain⟨n,hn,rfl⟩:=j5 hx;obtain⟨fe,ar,_⟩:=zdg (qw hn);have am:=ab.trans s3;obtain⟨v,hv,rv⟩:=w6 (rf.same am) ar;obtain⟨fa,fc,rfl,bp,bq⟩:=vF rv;have zl:=rz.len;rw[zm,jb] at zl;have hg:(fgs J L)[j]? =some ((n:Int),(fe.x,fe.y)):=by
     unfold fgs;rw[zT,hn];show some ((n:Int),fpl J n)=_;unfold fpl;rw[ar];rfl
    refine{rfl,_,rfl,_,rfl,jp,_,_,_,rfl,rfl,am.sqT qj,rfl,_,rfl,fs,_,_,_,rfl,rfl,am.sqT qf,jI hv,fa,_,_,_,rfl,rfl,bp,rfl,(by show 2<=_;omega),λT hT=>{(),s3.trans (zb hT),?_}}
    rw[qF hg,zG];exact u9 (zf9 (u6 zd) ((zb hT).sqT bq)) (rz.same (zb hT))
   .rintro zs H3 ⟨s3,rz⟩
    rw[zU] at rz;have el:(fgs J L).length=(atK J.fs L J.fs.length).length:=by unfold fgs;rw[zm]
    rw[<- el,qY] at rz;have zl:=rz.len;rw[zm] at zl;refine{(),λl4 av=>?_}
    have s4:=(s2.trans s3).trans (zb (o:=.lst zs) av);obtain⟨e1,e2⟩:=bc ac;obtain⟨gk,ai,gl,d5⟩:=(d1.same (uc _) s4).put (RlG.put _) e2 (zd (o:=.lst zs)) (show RlG K (gsK J) (.inr L) _ zs from rz.same (zb av))
    have bf:gk.length<=6:=by rw[gl];unfold kKs;rw[zm,jb];omega
    refine{gk,.inr L,ai,rfl,(),λc u hc=>?_,by rw[e1];exact d5}
    rw[zj (zk hc hG)];exact(s1.trans s4) _ _ hc
  rintro H1 ⟨s1,d1⟩;rw[zm,qY] at d1;refine{_,rfl,ks,rfl,{_,u5 (s1 _ _ hk)},λA2 hA=>?_}
  refine JG (K:=K) (a:=ks) (D:=A2) (xs:=C.map V.str) (λi O=>Same H1 O/\LiD (RlA ahN) O A2 (kKs (C.take i))) {zb hA,LiD.nil zd} (λi O ⟨s2,_⟩=>u5 (s2 _ _ (s1 _ _ hk))) ?_ ?_
  .rintro i x O hx ⟨s2,d2⟩
   rw[zT] at hx;obtain⟨L,ac,rfl⟩:=qy.mp hx;have il:=(zO.mp ac).1;refine{rfl,_,rfl,(by show 0<=_;omega),λl hl=>?_}
   obtain⟨e1,e2⟩:=bc ac;obtain⟨gk,ai,gl,d5⟩:=(d2.same (λ_ _ _ _ _ h=>h) (zb (o:=.lst []) hl)).put (λ_ _ _ _ _ _ _ h=>h) e2 (zd (o:=.lst [])) (show RlA ahN (.inr L) _ [] from rfl)
   have bf:gk.length<=6:=by rw[gl];unfold kKs;rw[zm,jb];omega
   refine{gk,.inr L,ai,rfl,(),λc u hc=>?_,by rw[e1];exact d5}
   rw[zj (zk hc hA)];exact(s2.trans (zb hl)) _ _ hc
  rintro O ⟨s2,d2⟩;rw[zm,qY] at d2;have ab:=s1.trans s2;have d1:=d1.same (uc _) s2;refineλW oW hW=>(?_:Zy _ _ (upd O W (dP P w W oW [])) _)
  have sW:=zb (o:=dP P w W oW []) hW;refine{_,rfl,ks,_,rfl,.inl {u5 (sW _ _ (ab _ _ hk)),λtk aj=>?_}}
  have s3:=(ab.trans sW).trans (zb (o:=.tup (C.map V.str)) aj);refine{_,rfl,jp,_,_,_,rfl,rfl,s3.sqT qj,rfl,(by show 2<=_;omega),λU bj=>{(by show 0<=_;omega),λu0 aw=>{(by show 2<=_;omega),λv1 ak=>?_}}}
  have s4:Same 0#I (upd (upd (upd 0#I U (.tup [.ref tk,.ref g])) u0 (.tup [])) v1 (.tup [.int 0,.ref u0])):=(zb bj).trans ((zb aw).trans (zb ak));have e1:=((zb (o:=.tup []) aw).trans (zb (o:=.tup [.int 0,.ref u0]) ak)) _ _ (zd (H:=upd (upd O W (dP P w W oW [])) tk (.tup (C.map V.str))) (a:=U) (o:=.tup [.ref tk,.ref g]));have e2:=(zb (o:=.tup [.int 0,.ref u0]) ak) _ _ (zd (H:=upd 0#I U (.tup [.ref tk,.ref g])) (a:=u0) (o:=.tup []));have e3:=zd (H:=upd (upd 0#I U (.tup [.ref tk,.ref g])) u0 (.tup [])) (a:=v1) (o:=.tup [.int 0,.ref u0]);have e4:=s4 _ _ (zd (H:=upd O W (dP P w W oW [])) (a:=tk) (o:=.tup (C.map V.str)));have e5:=s4 _ _ (zb (o:=.tup (C.map V.str)) aj _ _ (zd (H:=O) (a:=W) (o:=dP P w W oW [])));have s5:=s3.trans s4;have bb:Same O _:=(sW.trans (zb aj)).trans s4;generalize upd (upd (upd 0#I U (.tup [.ref tk,.ref g])) u0 (.tup [])) v1 (.tup [.int 0,.ref u0])=H5 at e1 e2 e3 e4 e5 s5 bb;have ek:(kKs C).map kV=C.map V.str:=by unfold kKs;rw[qK];rfl
  have ky:KyAt K H5 (j4 (kKs C,gate J)) U:={tk,g,u6 e1,by rw[show(j4 (kKs C,gate J)).1.map kV=C.map V.str from ek];exact u6 e4,s5.sqT qg}
  have wk:WkAt K H5 v1 (0,[]):={u0,u6 e3,u6 e2};refine{U,v1,oW,j4 (kKs C,gate J),rfl,e5,ky,λo'=>(?_:zdC _ _ _ _ (upd H5 W (dP P w W o' [(j4 (kKs C,gate J),U,v1)])))}
  have s6:Same O (upd H5 W (dP P w W o' [(j4 (kKs C,gate J),U,v1)])):=λc u hc=>by rw[zj (zk hc hW)];exact bb _ _ hc
  have en:EnAt K (upd H5 W (dP P w W o' [(j4 (kKs C,gate J),U,v1)])) [(j4 (kKs C,gate J),U,v1)] [((kKs C,gate J),(0,[]))]:=by
   refine{rfl,1e3,λi x e hx he=>?_}
   have bi:i=0:=by have:=(zO.mp hx).1;simp at this;exact this
   subst bi;cases hx;cases he;exact{rfl,wk.updX e5,ky.updX e5}
  have aq:upd H5 W (dP P w W o' [(j4 (kKs C,gate J),U,v1)]) W=some (dP P w W o' [(j4 (kKs C,gate J),U,v1)]):=zd;generalize upd H5 W (dP P w W o' [(j4 (kKs C,gate J),U,v1)])=H6 at s6 en aq;have sH:=ab.trans s6;have b0:Bn (gsK J) ahN (stK J C) 0 [((kKs C,gate J),(0,[]))]:=by
   refine{λe he=>.zero e (zR.mp he),λc hc=>?_}
   cases hc with
   | zero _ h=>exact{_,zR.mpr rfl,(congrArg Prod.fst h).symm,by rw[h];exact vd _}
  have go6:=(d1.same (uc _) s6).go;have bd:=(d2.same (λ_ _ _ _ _ h=>h) s6).ah
  have lU:(Q7 (kKs C) (wU J)).length<=6400:=by
   rw[VO,lK];have h1:2^C.length<=2^6:=zbN 1e1 kl
   have h2:(wU J).length<=100:=by unfold wU;rw[zm];exact jl
   exact jx (XG h1 h2) 1e1
  have ae:∀{n:Nat} {e:En},Rn (gsK J) ahN (stK J C) n e->List.Sublist e.1.1 (kKs C)/\e.1.1.length+n=(kKs C).length/\e.2.2.length=0+n:=λh=>Rn.shape az (λe he=>by rw[show e=_ from he];exact⟨rfl,rfl⟩) h
  refine{_,rfl,ks,_,rfl,.inl (u5 (sH _ _ hk)),_,rfl,(by rw[ao,zm];omega),(by rw[ao,zm];omega),ju (λi σ H7=>Ex5 λ(D:Addr) (o':Obj) (ys:PEs) (fs:List En) (v5:Option V)=>An7 (σ=[some (.ref jp),some (.ref ks),some (.ref G),some (.ref A2),some (.ref D),v5]) (H D=none) (Same H6 H7) (H7 D=some (dP P w D o' ys)) (EnAt K H7 ys fs) (Bn (gsK J) ahN (stK J C) i fs) (fs.length<=6400)) {W,o',_,_,_,rfl,ab.none hW,u7 _,aq,en,b0,(show 1<=6400 by decide)} ?_ ?_}
  .rintro i σ H7 hi ⟨D,oD,ys,fs,v5,rfl,hD,s7,ag,af,aa,ba⟩
   rw[zm] at hi;have hi:i<C.length:=()
   have sub:∀e∈fs,List.Sublist e.1.1 (kKs C):=λe he=>(ae (aa.1 e he)).1
   have hU:=zas (gs:=gsK J) (ah:=ahN) sub (λt _ g hg=>zjM t g hg)
   refine{_,rfl,_,rfl,_,rfl,D,G,A2,oD,ys,fs,kKs C,gsK J,ahN,Q7 (kKs C) (wU J),rfl,ag,af,go6.same s7,bd.same s7,λe he=>?_,(λt _=>(show 0<=100 by decide)),hU,(),λD2 o2 br be H8 bg s8 bh ap an=>?_}
   .obtain⟨a1,a2,a3⟩:=ae (aa.1 e he)
    exact{λt ht=>a1.subset ht,(),()}
   .exact{D2,o2,br,be,_,rfl,(sH.trans s7).none bg,s7.trans s8,bh,ap,aa.step an,jx (an.len ap.nd hU) lU}
  .rintro σ H7 ⟨D,oD,ys,fs,v5,rfl,hD,s7,ag,af,aa,ba⟩
   rw[show((C.map V.str).length:Int).toNat=C.length by rw[zm];rfl] at aa
   exact{_,rfl,k D oD ys fs H7 hD (sH.trans s7) ag af aa ba}
def JAh(J:Job):Prop:=J.ps.length<=60/\(∀q∈asI J,InN J.ps.length q.1/\InN J.ps.length q.2)/\J.as.length<=300
def ppl(J:Job)(i:Nat):Pl:=((J.ps[i]?.map λp=>(p.x,p.y)).getD (0,0))
def gsP(J:Job):Key->List (Int×Pl)
 | .inl i=>[(i,ppl J i.toNat)]
 | .inr _=>[]
def kPs(e:List Nat):List Key:=e.map λ(n:Nat)=>Sum.inl (n:Int)
theorem zf4{f:List Nat}(h:f.Nodup):(kPs f).Nodup:=by
 unfold kPs;induction f with
 | nil=>exact vU
 | cons a r o=>
  obtain⟨h1,h2⟩:=vh.mp h;refine vh.mpr {λz=>?_,o h2}
  obtain⟨b,hb,e⟩:=zA.mp z;have:=xa e;rw[show b=a by omega] at hb
  exact h1 hb
theorem JA{f:List Nat}{i:Nat}:(Sum.inl (i:Int):Key)∈kPs f↔i∈f:=by
 unfold kPs;rw[zA];refine{λ⟨b,hb,e⟩=>?_,λh=>⟨i,h,rfl⟩}
 have:=xa e;rw[show i=b by omega];exact hb
def Ahd(J:Job)(f:Key->List Key)(t:Key):Prop:=∀i:Nat,t=.inl (i:Int)->∃e:List Int,f t=e.map Sum.inl/\e.length<=60/\∀j,j∈e↔j≠(i:Int)/\∃k,Wk (asI J) k j (i:Int)
def onW(o:List Nat)(f:List En):List En:=f.map λe=>((kPs o,e.1.2),e.2)
theorem zkL{L:List En}(A:(L.map Prod.fst).Nodup){j:Nat}{e:En}(h:L[j]? =some e):∀o∈L.take j,o.1≠e.1:=λo m z=>by
 obtain⟨i,f⟩:=vQ.mp m;have u:=(zO.mp f).1;rw[jb] at u;rw[Yk ()] at f
 have e2:(L.map Prod.fst)[i]? =some e.1:=by rw[zT,f];exact congrArg some z
 have t:(L.map Prod.fst)[j]? =some e.1:=by rw[zT,h];rfl
 have:=(XL (by rw[zm];omega) A).mp (e2.trans t.symm)
 omega
theorem zjm{ns:List Nat}{f:List En}(t:(f.map Prod.fst).Nodup)(h:∀e∈f,e.1.1=[]):((onW ns f).map Prod.fst).Nodup:=by
 unfold onW;rw[qK];refine yS.mpr ((yS.mp t).imp_of_mem λ{a b} o hb ne z=>ne ?_)
 have:=(yJ z).2;exact ZJ ((h a o).trans (h b hb).symm) this
def RlX(J:Job)(t:Key)(H:Hp)(f:List V):Prop:=∀i:Nat,t=.inl (i:Int)->∃e:List Int,f=e.map V.int/\e.length<=60/\∀j,j∈e↔j≠(i:Int)/\∃k,Wk (asI J) k j (i:Int)
theorem LiD.ahX{H:Hp}{G:Addr}{B:List Nat}{J:Job}(h:LiD (RlX J) H G (kPs B)):∃ah:Key->List Key,AhD H G (kPs B) ah/\∀t∈kPs B,Ahd J ah t/\(ah t).length<=60:=by
 obtain⟨E,a,_,c⟩:=h;have:∀t:Key,∃l:List Key,t∈kPs B->∃f,qZ E t=some (.ref f)/\H f=some (.lst (l.map kV))/\l.length<=60/\∀i:Nat,t=.inl (i:Int)->∃o:List Int,l=o.map Sum.inl/\o.length<=60/\∀j,j∈o↔j≠(i:Int)/\∃k,Wk (asI J) k j (i:Int):=λt=>by
  by_cases m:t∈kPs B
  .obtain⟨f,Q,d,e,r⟩:=c t m
   obtain⟨i,_,D⟩:=zA.mp m;obtain⟨o,e1,e2,I⟩:=r i D.symm;refine{o.map Sum.inl,λ_=>{f,d,by rw[e,e1,qK];rfl,by rw[zm];exact e2,λL u=>?_}}
   rw[<- D] at u;have:L=i:=by have:=xa u;omega
   subst this;exact⟨o,rfl,e2,I⟩
  .exact{[],λz=>absurd z m}
 obtain⟨ah,A⟩:=Classical.skolem.mp this;refine{ah,{E,a,λt C=>?_},λt C=>?_}
 .obtain⟨f,d,e,_⟩:=A t C
  exact⟨f,d,e⟩
 .obtain⟨f,d,e,O,x⟩:=A t C
  exact⟨x,O⟩
inductive YJ(P:Program)(w:World)(K:W.Frag)(I:List V)(H:Hp)(Q:VK):Prop
 | mk (E d G:Addr) (o:Obj) (L:PEs) (A:List En) (J:Job) (f:List Nat) (_:I=[.ref E,.ref d,.ref G]) (_:Rep K H (xJ J) (.ref E)) (_:JAh J) (_:f.Nodup) (_:f.length<=6) (_:(∀n∈f,n<J.ps.length)) (_:H d=some (dP P w d o L)) (_:EnAt K H L A) (_:A.length<=6400) (_:(∀e∈A,e.1.1=[]/\e.2.2.length<=90)) (_:H G=some (.lst (qm f))) (_:∀(D:Addr) (U:Obj) (O:PEs) (B:List En) (C:Key->List Key) u,H D=none->Same H u->u D=some (dP P w D U O)->EnAt K u O B->(∀t∈kPs f,Ahd J C t)->Bn (gsP J) C (·∈onW f A) f.length B->B.length<=6400->Q (.ref D) u):YJ P w K I H Q
def zeM(P:Program)(w:World)(K:W.Frag):Sp:=λe H Q _=>YJ P w K e H Q
theorem ze2:zM ["job","walks","parts","goals","aheads","onward","step"] ["job","walks","parts"] (zv (topL 13)):=u4
theorem zhs{f:Addr}{fd:FuncData}(F:Fun K "laying_walks" "laying_walks" (topL 13) f fd)(B:Blt N)(L:Dfn P w K N M "ahead_of" 3 ["job","part"] (zct K))(Y:Dfn P w K N M "farther" 2 ["walks","goals","aheads"] (zeS P w K)):FnOk P w K N M CX0 4 f fd ["job","walks","parts"] (zeM P w K):=by
 have nd:=ze2.nd;refine F.ok ze2 0#i (λc5 A bz s H vs Q E hr h=>?_)
 .obtain⟨jp,d,pa,o,xs,O,J,I,rfl,_⟩:=h
  rfl
 .obtain⟨jp,d,pa,o,xs,O,J,I,rfl,rj,⟨j1,j2,j3⟩,bh,nl,bf,hd,en,el,ba,hk,k⟩:=h
  have bw:=Zo hr;have bc:=hr.units;have c6:=Qo (yV (by decide:2<=64) _) bc
  have sz:sizeLine=16777216:=sizeLine_eq;have ar:=bGe;obtain⟨g,fs,ps,as,fv,c7,qj,rg,qf,rf,qp,rp,_⟩:=jg rj;have bd:=zf4 bh;have lP:(kPs I).length=I.length:=zm _;have bi:∀{i n:Nat},I[i]? =some n->kPs (I.take (i+1))=kPs (I.take i)++[.inl (n:Int)]/\(Sum.inl (n:Int):Key)∉kPs (I.take i):=λ{i n} h=>by
   refine{by rw[qF h];unfold kPs;rw[zG];rfl,λz=>?_}
   have hb:=JA.mp z;obtain⟨m,hm⟩:=vQ.mp hb;have bu:=(zO.mp hm).1;rw[jb] at bu;rw[Yk ()] at hm
   have:=(XL () bh).mp (hm.trans h.symm)
   omega
  refine{_,(zi (Wj ["job"] [0] Ws Wh rfl rfl (by kernel_rfl) (qW (pv 2)) 0#v (λ_ _ _ _=>(pv 0)) (λ_ _ _ _=>(je (za (qD (za (pv 0) (za (zu 0#u (zu 0#u (zu 0#u (pv 1) zf 0#d) (pv 0) 0#d) zf 0#d) ze))) ze))) (zy (i:=3) nd rfl 0#z))
   (zi (Wj ["job"] [0] Ws Wh rfl rfl (by kernel_rfl) (qW (pv 2)) 0#v (λ_ _ _ _=>(pv 0)) (λ_ _ _ _=>(zn L hr.m rfl (za (pv 1) (za (pv 0) ze)))) (zy (i:=4) nd rfl 0#z))
   (zi (zfh ["parts"] [2] zjA (zja bw) rfl rfl (by kernel_rfl) (JX (Qz (pv 1))) 0#v (λ_ _ _ _=>(qD (za (qh (Xr (K:=K) rfl) rfl B.tuple ja (za (pv 3) ze)) 0#K))) (λ_ _ _ _=>(pv 2)) (zy (i:=5) nd rfl 0#z))
   (zi (qM jz rfl (qS rfl B.range (za (zr zC rfl B.len boot_len (za (pv 2) ze)) ze)) (zy (i:=6) nd rfl 0#z)
   (zp (zI (i:=5) nd rfl 0#z (zn Y hr.m rfl (za (pv 5) (za (pv 3) (za (pv 4) ze)))))))
   (zp (zJ (pv 5))))))),?_}
  refine{_,rfl,pa,rfl,{_,u5 hk},λG hG=>?_}
  refine JG (K:=K) (a:=pa) (D:=G) (xs:=qm I) (λj H1=>Same H H1/\LiD (RlG K (gsP J)) H1 G (kPs (I.take j))) {zb hG,LiD.nil zd} (λj H1 ⟨s1,_⟩=>u5 (s1 _ _ hk)) ?_ ?_
  .rintro j x H1 hx ⟨s1,d1⟩
   obtain⟨n,hn,rfl⟩:=j5 hx;have il:=(zO.mp hn).1;have bg:=bf n (qw hn);have hp:J.ps[n]? =some J.ps[n]:=by simp[bg]
   generalize J.ps[n]=p at hp;obtain⟨v,hv,rv⟩:=w6 (rp.same s1) hp;obtain⟨fa,fc,rfl,c0,c3⟩:=wD rv;refine{rfl,_,rfl,_,rfl,_,rfl,jp,_,_,_,rfl,rfl,s1.sqT qj,rfl,_,rfl,ps,_,_,_,rfl,rfl,s1.sqT qp,jI hv,fa,_,_,_,rfl,rfl,c0,rfl,(by show 2<=_;omega),λT hT=>{(by show 1<=_;omega),λl hl=>?_}}
   have s2:=(zb (o:=.tup [.int (n:Int),.ref fc]) hT).trans (zb (o:=.lst [.ref T]) hl);obtain⟨e1,e2⟩:=bi hn;have rr:RlG K (gsP J) (.inl (n:Int)) (upd (upd H1 T (.tup [.int (n:Int),.ref fc])) l (.lst [.ref T])) [.ref T]:=by
    show Reps K _ (([((n:Int),ppl J (n:Int).toNat)]:List (Int×Pl)).map goD) _;rw[show ppl J (n:Int).toNat=(p.x,p.y) by rw[jC];unfold ppl;rw[hp];rfl]
    exact{_,[],rfl,zf9 (u6 (zb hl _ _ zd)) (s2.sqT c3),rfl}
   obtain⟨gk,am,gl,d5⟩:=(d1.same (uc _) s2).put (RlG.put _) e2 (zd (o:=.lst [.ref T])) rr;have bq:gk.length<=6:=by rw[gl];unfold kPs;rw[zm,jb];omega
   refine{gk,.inl (n:Int),am,rfl,(),λc u hc=>?_,by rw[e1];exact d5}
   rw[zj (zk hc hG)];exact(s1.trans s2) _ _ hc
  rintro H1 ⟨s1,d1⟩;rw[zU,qY] at d1;refine{_,rfl,pa,rfl,{_,u5 (s1 _ _ hk)},λA2 hA=>?_}
  refine JG (K:=K) (a:=pa) (D:=A2) (xs:=qm I) (λj H2=>Same H1 H2/\LiD (RlX J) H2 A2 (kPs (I.take j))) {zb hA,LiD.nil zd} (λj H2 ⟨s2,_⟩=>u5 (s2 _ _ (s1 _ _ hk))) ?_ ?_
  .rintro j x H2 hx ⟨s2,d2⟩
   obtain⟨n,hn,rfl⟩:=j5 hx;have il:=(zO.mp hn).1;have bg:=bf n (qw hn);refine{rfl,_,rfl,_,rfl,_,rfl,(n:Int),jp,J,rfl,(rj.same s1).same s2,j1,{(),()},j2,j3,λl ms H3 s3 hl bt ml _ mem=>?_}
   obtain⟨e1,e2⟩:=bi hn;have rr:RlX J (.inl (n:Int)) H3 (ms.map V.int):=λi ei=>by
    have:i=n:=by have:=xa ei;omega
    subst this;exact⟨ms,rfl,ml,mem⟩
   obtain⟨gk,am,gl,d5⟩:=(d2.same (λ_ _ _ _ _ h=>h) s3).put (λ_ _ _ _ _ _ _ h=>h) e2 bt rr
   have bq:gk.length<=6:=by rw[gl];unfold kPs;rw[zm,jb];omega
   refine{gk,.inl (n:Int),am,rfl,(),λc u hc=>?_,by rw[e1];exact d5}
   rw[zj (zk hc hA)];exact(s2.trans s3) _ _ hc
  rintro H2 ⟨s2,d2⟩;rw[zU,qY] at d2;have an:=s1.trans s2;have d1:=d1.same (uc _) s2;obtain⟨ah,af,ap⟩:=d2.ahX;refine{_,rfl,d,o,xs,rfl,an _ _ hd,λq hq=>{q,d,o,xs,rfl,zd,zb hq _ _ (an _ _ hd),λD hD=>?_}}
  have sq:=zb (o:=Q0 q d) hq;have ac:=an.trans sq;have d1:=d1.same (uc _) sq;have af:=af.same sq;have nk:(qm I)=(kPs I).map kV:=by unfold qm kPs;rw[qK];rfl
  generalize upd H2 q (Q0 q d)=Hq at sq ac hD d1 af;refine zgf (P:=P) (w:=w) (d:=d) (D:=D) (o:=o) (xs:=xs) (λj H3=>∃(oD:Obj) (U:PEs),Same Hq H3/\H3 D=some (dP P w D oD U)/\EnAt K H3 U ((onW I O).take j)) {zgd,[],zb hD,zd,EnAt.nil} (λj H3 ⟨_,_,s3,_⟩=>s3 _ _ (ac _ _ hd)) ?_ ?_
  .rintro j kx ax vx H3 T hx ⟨oD,U,s3,ak,ab⟩ hT
   obtain⟨e,he,ek,wk,Bl,C,qa,qB,qC⟩:=en.get hx;obtain⟨⟨l0,pl⟩,bj⟩:=e;cases(show kx=(l0,plK pl) from ek)
   have az:(onW I O)[j]? =some ((kPs I,pl),bj):=by unfold onW;rw[zT,he];rfl
   have jl:=(zO.mp he).1;have sT:=zb (o:=.tup [.ref ax,.ref vx]) hT;have ag:=(ac.trans s3).trans sT;refine{T,_,rfl,u6 zd,rfl,_,_,rfl,ax,_,rfl,ag.sqT qa,rfl,_,_,rfl,_,_,rfl,rfl,_,_,rfl,rfl,rfl,?_}
   refine{_,rfl,pa,_,rfl,.inl {u5 (ag _ _ hk),λtk bv=>{_,rfl,(by show 2<=_;omega),λk1 bb=>?_}}}
   have s4:=(zb (o:=.tup (qm I)) bv).trans (zb (o:=.tup [.ref tk,.ref C]) bb);have au:=zd (H:=upd (upd H3 T (.tup [.ref ax,.ref vx])) tk (.tup (qm I))) (a:=k1) (o:=.tup [.ref tk,.ref C]);have aw:=zb (o:=.tup [.ref tk,.ref C]) bb _ _ (zd (H:=upd H3 T (.tup [.ref ax,.ref vx])) (a:=tk) (o:=.tup (qm I)));generalize upd (upd (upd H3 T (.tup [.ref ax,.ref vx])) tk (.tup (qm I))) k1 (.tup [.ref tk,.ref C])=H4 at s4 au aw;have ao:=sT.trans s4;have ay:=ao _ _ ak;have ky:KyAt K H4 (j4 (kPs I,pl)) k1:={tk,C,u6 au,by show SqT K H4 tk ((kPs I).map kV);rw[<- nk];exact u6 aw,(ag.trans s4).sqT qC}
   have ai:=ab.same ao;have bn:=ab.len;rw[jb] at bn;have ol:(onW I O).length=O.length:=zm _;have bx:=zkL (zjm (ns:=I) en.nd λe he=>(ba e he).1) az
   obtain⟨no,ne⟩:lkP U (j4 (kPs I,pl))=none/\∀e'∈(onW I O).take j,e'.1≠(kPs I,pl):=by
    rcases ai.look (kPs I,pl) with z | ⟨_,_,e',_,m',e1,_⟩
    .exact z
    .exact absurd e1 (bx e' m')
   refine{_,rfl,k1,vx,oD,U,j4 (kPs I,pl),rfl,rfl,ay,ai.kys,ky,(),λo'=>{o',_,λc u hc=>?_,zd,?_}}
   .rw[zj (zk hc hD)];exact ao _ _ (s3 _ _ hc)
   .rw[qF az]
    exact(ai.new (c:=((kPs I,pl),bj)) ky (wk.same (ag.trans s4)) no ne).updX ay
  rintro H3 ⟨oD,U,s3,ak,ab⟩;have ol:(onW I O).length=O.length:=zm _;rw[en.len,<- ol,qY] at ab;have sH:=ac.trans s3;have b0:Bn (gsP J) ah (·∈onW I O) 0 (onW I O):=by
   refine{λe he=>.zero e he,λc hc=>?_}
   cases hc with
   | zero _ h=>exact{c,h,rfl,vd _}
  have go3:=(d1.same (uc _) s3).go;have bm:=af.same s3;have bp:∀t∈kPs I,∀g∈gsP J t,g.2∈I.map (ppl J):=λt ht g hg=>by
   obtain⟨n,hn,rfl⟩:=zA.mp ht;cases zR.mp hg;exact zA.mpr {n,hn,by rw[jC]}
  have lU:(Q7 (kPs I) (I.map (ppl J))).length<=6400:=by
   rw[VO,lP,zm];have h1:2^I.length<=2^6:=zbN 1e1 nl
   exact jx (XG h1 nl) 1e1
  have ae:∀{n:Nat} {e:En},Rn (gsP J) ah (·∈onW I O) n e->List.Sublist e.1.1 (kPs I)/\e.1.1.length+n=(kPs I).length/\e.2.2.length<=90+n:=λh=>by
   have h0:∀{n:Nat} {e:En},Rn (gsP J) ah (·∈onW I O) n e->e.2.2.length<=90+n:=λh=>by
    induction h with
    | zero e h=>
     obtain⟨e0,h0,rfl⟩:=zA.mp h;exact(ba e0 h0).2
    | succ n e t g _ _ _ _ ih=>
     show(e.2.2++[g.1]).length<=_;rw[qu];show e.2.2.length+1<=_;omega
   have h1:∀{n:Nat} {e:En},Rn (gsP J) ah (·∈onW I O) n e->List.Sublist e.1.1 (kPs I)/\e.1.1.length+n=(kPs I).length:=λh=>by
    induction h with
    | zero e h=>
     obtain⟨e0,h0,rfl⟩:=zA.mp h;exact{QP _,rfl}
    | succ n e t g _ ht _ _ ih=>
     have:=wH (ih.1.nodup bd) ht;refine{(xS _ _).trans ih.1,?_}
     show(qQ e.1.1 t).length+(n+1)=_;omega
   exact{(h1 h).1,(h1 h).2,h0 h}
  refine{_,rfl,pa,_,rfl,.inl (u5 (sH _ _ hk)),_,rfl,(by rw[ar,zU];omega),(by rw[ar,zU];omega),ju (λj σ H7=>Ex5 λ(D:Addr) (o':Obj) (U:PEs) (fs:List En) (v6:Option V)=>An7 (σ=[some (.ref jp),some (.ref d),some (.ref pa),some (.ref G),some (.ref A2),some (.ref D),v6]) (H D=none) (Same H3 H7) (H7 D=some (dP P w D o' U)) (EnAt K H7 U fs) (Bn (gsP J) ah (·∈onW I O) j fs) (fs.length<=6400)) {D,oD,U,_,_,rfl,ac.none hD,u7 _,ak,ab,b0,by rw[ol];exact el} ?_ ?_}
  .rintro j σ H7 hi ⟨D,oD,U,fs,v6,rfl,hD,s7,al,aj,aa,be⟩
   rw[zU] at hi;have hi:j<I.length:=()
   have sub:∀e∈fs,List.Sublist e.1.1 (kPs I):=λe he=>(ae (aa.1 e he)).1
   have hU:=zas (gs:=gsP J) (ah:=ah) sub bp;refine{_,rfl,_,rfl,_,rfl,D,G,A2,oD,U,fs,kPs I,gsP J,ah,Q7 (kPs I) (I.map (ppl J)),rfl,al,aj,go3.same s7,bm.same s7,λe he=>?_,(λt ht=>jx (ap t ht).2 1e1),hU,(),λD2 o2 c4 bo H8 br s8 bs av aq=>?_}
   .obtain⟨a1,a2,a3⟩:=ae (aa.1 e he)
    exact{λt ht=>a1.subset ht,(),()}
   .exact{D2,o2,c4,bo,_,rfl,(sH.trans s7).none br,s7.trans s8,bs,av,aa.step aq,jx (aq.len av.nd hU) lU}
  .rintro σ H7 ⟨D,oD,U,fs,v6,rfl,hD,s7,al,aj,aa,be⟩
   rw[show((qm I).length:Int).toNat=I.length by rw[zU];rfl] at aa
   exact{_,rfl,k D oD U fs ah H7 hD (sH.trans s7) al aj (λt ht=>(ap t ht).1) aa be}
def pkd(J:Job)(n:Nat):Option Str:=J.ps[n]?.map (·.k)
def fkd(J:Job)(m:Nat):Option Str:=J.fs[m]?.map (·.k)
def X5(J:Job)(e:List Nat)(m:Nat):List (Int×Int):=(e.filter λn=>decide (pkd J n=fkd J m)).map λ(n:Nat)=>((n:Int),(m:Int))
def xw(J:Job)(e f:List Nat):List (Int×Int):=e.flatMap (X5 J f)
theorem YX(J:Job)(e:List Nat)(m:Nat):(X5 J e m).length<=e.length:=by
 unfold X5;rw[zm];exact Qp _ _
theorem VE(J:Job)(f:List Nat):∀e:List Nat,(xw J e f).length<=e.length*f.length
 | []=>qJ _
 | m::e=>by
  have h1:=YX J f m;have h2:=VE J f e;unfold xw at h2 ⊢;rw[W1,qu,qH,Nat.succ_mul];omega
inductive zcj(K:W.Frag)(C:List V)(H:Hp)(Q:VK):Prop
 | mk (A u B:Addr) (J:Job) (f o:List Nat) (_:C=[.ref A,.ref u,.ref B]) (_:Rep K H (xJ J) (.ref A)) (_:SqT K H u (qm f)) (_:f.length<=6) (_:(∀m∈f,m<J.fs.length)) (_:H B=some (.lst (qm o))) (_:o.length<=6) (_:(∀n∈o,n<J.ps.length)) (_:∀t D e,Same H e->SqT K e t D->Reps K e ((xw J f o).map prD) D->Q (.ref t) e):zcj K C H Q
def zid(K:W.Frag):Sp:=λe H Q _=>zcj K e H Q
theorem zik:zM ["job","feeders","parts"] ["job","feeders","parts"] (zv (topL 14)):=u4
theorem zjq{f:Addr}{fd:FuncData}(F:Fun K "picks_at" "picks_at" (topL 14) f fd)(B:Blt N)(e:Dfn P w K N M "kind_of" 1 ["job","part"] (zi0 K)):FnOk P w K N M CX0 2 f fd ["job","feeders","parts"] (zid K):=by
 have nd:=zik.nd;refine F.ok zik 0#i (λaf A ac s H vs Q E hr h=>?_)
 .obtain⟨jp,fa,pa,J,C,u,rfl,_⟩:=h
  rfl
 .obtain⟨jp,fa,pa,J,C,u,rfl,rj,hf,ml,mf,hp,nl,nf,k⟩:=h
  have sz:sizeLine=16777216:=sizeLine_eq;obtain⟨g,fs,ps,as,fv,ah,qj,_,qf,rf,qp,rp,_⟩:=jg rj;have L:∀(D:List Nat),D.length<=6->(xw J D u).length<=36:=λD hx=>jx (VE J u D) (XG hx nl)
  refine{_,(zp (zJ (qh jc rfl B.tuple ja (za (zhc ["parts","job"] [2,0] rfl rfl (by kernel_rfl) (xx (pv 1)) 0#v (λ_ _ _ _=>(YY (K:=K) rfl (pv 2))) (λ_ _ _ _=>(ZC (qG Zm (zn e hr.m rfl (za (pv 3) 0#K)) (zu 0#u (zu 0#u (zu 0#u (pv 3) zf 0#d) (pv 0) 0#d) zf 0#d) (qO _)))) (λ_ _ _ _=>(qD (za (pv 1) (za (pv 0) ze))))) ze)))),?_}
  refine{_,rfl,fa,rfl,{_,hf},zhA (K:=K) (a:=fa) (xs:=qm C) (λj zs G=>Same H G/\Reps K G ((xw J (C.take j) u).map prD) zs) {u7 _,rfl} (λj zs G ⟨s1,_⟩=>s1.sqT hf) ?_ ?_}
  .rintro j x zs G hx ⟨s1,Y⟩
   obtain⟨n,hn,rfl⟩:=j5 hx;have jl:=(zO.mp hn).1;have ab:=mf n (qw hn);have O:J.fs[n]? =some J.fs[n]:=by simp[ab]
   have bj:=L (C.take j) (by rw[jb];omega)
   refine{rfl,_,rfl,pa,rfl,{_,u5 (s1 _ _ hp)},zhJ (K:=K) (a:=pa) (xs:=qm u) (λm ws I=>Same H I/\Reps K I ((xw J (C.take j) u++X5 J (u.take m) n).map prD) ws) {s1,by rw[show X5 J (u.take 0) n=[] from rfl,xN];exact Y} (λm ws I ⟨s2,_⟩=>u5 (s2 _ _ hp)) ?_ ?_}
   .rintro m y ws I hy ⟨s2,o⟩
    obtain⟨i,hi,rfl⟩:=j5 hy;have il:=nf i (qw hi);have ag:=(zO.mp hi).1;have U:J.ps[i]? =some J.ps[i]:=by simp[il]
    obtain⟨v,hv,rv⟩:=w6 (rf.same s2) O;obtain⟨aa,fc,rfl,ae,ai⟩:=vF rv;have wl:=o.len;rw[zm,qu] at wl;have bf:=YX J (u.take m) n;rw[jb] at bf;have e1:X5 J (u.take (m+1)) n=X5 J (u.take m) n++(if J.ps[i].k=J.fs[n].k then [((i:Int),(n:Int))] else []):=by
     rw[qF hi];unfold X5;rw[Qn,zG];congr 1
     have e2:decide (pkd J i=fkd J n)=decide (J.ps[i].k=J.fs[n].k):=by
      unfold pkd fkd;rw[U,O];simp
     split
     .rename_i c
      rw[Xz (by rw[e2];exact zY c)];rfl
     .rename_i c
      rw[Z3 (by rw[e2];exactλz=>c (xF z))];rfl
    refine{⟨rfl,rfl,rfl,trivial⟩,?_}
    refine{_,rfl,_,rfl,jp,J,i,J.ps[i],rfl,rj.same s2,U,_,rfl,jp,_,_,_,rfl,rfl,s2.sqT qj,rfl,_,rfl,fs,_,_,_,rfl,rfl,s2.sqT qf,jI hv,aa,_,_,_,rfl,rfl,ae,rfl,rfl,_,rfl,wo (λc=>?_) (λc=>?_)}
    .have c':J.ps[i].k=J.fs[n].k:=by simpa using c
     refine{_,rfl,_,rfl,(by show 2<=_;omega),λT hT=>{(),s2.trans (zb hT),?_}}
     rw[e1,zt c',<- xE,zG];exact u9 (show Rep K _ (prD ((i:Int),(n:Int))) (.ref T) from {T,_,rfl,u6 zd,_,_,rfl,rfl,_,_,rfl,rfl,rfl}) (o.same (zb hT))
    .have c':¬J.ps[i].k=J.fs[n].k:=by simpa using c
     rw[e1,zq c',xN];exact⟨s2,o⟩
   .rintro ws I ⟨s2,o⟩
    rw[zU,qY] at o;refine{s2,?_}
    rw[qF hn];unfold xw;rw[Ze];exact o
  .rintro zs G ⟨s1,Y⟩
   rw[zU,qY] at Y;have zl:=Y.len;rw[zm] at zl;have:=L C ml;exact{(),λl hl=>{l,_,rfl,.inl {u5 zd,λt ht=>k t zs _ (s1.trans ((zb hl).trans (zb ht))) (u6 zd) ((Y.same (zb hl)).same (zb ht))}}}
abbrev Sp3:=Key×(Int×Pl)
def Vld(f:Key->List (Int×Pl))(e:Key->List Key):List Key->List Sp3->Prop
 | _,[]=>True
 | l,s::r=>s.1∈l/\blk e l s.1=false/\s.2∈f s.1/\Vld f e (qQ l s.1) r
def zbl(e:En)(f:List Sp3):En:=f.foldl (λe s=>ZI e s.1 s.2) e
def z7:Pl->List Pl->Int
 | _,[]=>0
 | p,q::r=>zQ p q+z7 q r
def j6:Pl->List Pl->Pl
 | p,[]=>p
 | _,q::r=>j6 q r
def vL(l:List Key)(e:List Sp3):List Key:=e.foldl (λl s=>qQ l s.1) l
def jQ(e:List Sp3):List Pl:=e.map λs=>s.2.2
def vZ(e:List Sp3):List Int:=e.map λs=>s.2.1
theorem vz:∀(f:List Sp3) (e:En),zbl e f=((vL e.1.1 f,j6 e.1.2 (jQ f)),(e.2.1+z7 e.1.2 (jQ f),e.2.2++vZ f))
 | [],e=>by
  show e=((e.1.1,e.1.2),(e.2.1+0,e.2.2++[]));rw[XC,xN]
 | s::r,e=>by
  show zbl (ZI e s.1 s.2) r=_;rw[vz r];show((vL (qQ e.1.1 s.1) r,j6 s.2.2 (jQ r)),(e.2.1+zQ e.1.2 s.2.2+z7 s.2.2 (jQ r),e.2.2++[s.2.1]++vZ r))=((vL (qQ e.1.1 s.1) r,j6 s.2.2 (jQ r)),(e.2.1+(zQ e.1.2 s.2.2+z7 s.2.2 (jQ r)),e.2.2++(s.2.1::vZ r)));rw[Int.add_assoc,xE];rfl
theorem wC:∀(a b:List Pl) (p:Pl),z7 p (a++b)=z7 p a+z7 (j6 p a) b
 | [],b,p=>(ZL _).symm
 | q::r,b,p=>by
  show zQ p q+z7 q (r++b)=zQ p q+z7 q r+z7 (j6 q r) b;rw[wC r b q,Int.add_assoc]
theorem Zb:∀(a b:List Pl) (p:Pl),j6 p (a++b)=j6 (j6 p a) b
 | [],_,_=>rfl
 | q::r,b,p=>Zb r b q
theorem Vld.snoc{f:Key->List (Int×Pl)}{e:Key->List Key}:∀{ss:List Sp3} {l:List Key} {t:Key} {g:Int×Pl},Vld f e l ss->t∈vL l ss->blk e (vL l ss) t=false->g∈f t->Vld f e l (ss++[(t,g)])
 | [],l,t,g,_,a,b,c=>⟨a,b,c,trivial⟩
 | s::r,l,t,g,⟨h1,h2,h3,o⟩,a,b,c=>{h1,h2,h3,Vld.snoc o a b c}
theorem zef(e:En)(f:List Sp3)(s:Sp3):zbl e (f++[s])=ZI (zbl e f) s.1 s.2:=zbE ..
theorem Rn.steps{A:Key->List (Int×Pl)}{u:Key->List Key}{S:En->Prop}{n:Nat}{e:En}(h:Rn A u S n e):∃f o,S f/\o.length=n/\Vld A u f.1.1 o/\e=zbl f o:=by
 induction h with
 | zero e h=>exact{e,[],h,rfl,trivial,rfl}
 | succ n e t g _ B hb D H=>
  obtain⟨f,o,h0,E,G,rfl⟩:=H;have C:(zbl f o).1.1=vL f.1.1 o:=by rw[vz]
  rw[C] at B hb;exact{f,o++[(t,g)],h0,by rw[qu,E];rfl,G.snoc B hb D,(zef f o (t,g)).symm}
theorem Rn.go{o:Key->List (Int×Pl)}{f:Key->List Key}{S:En->Prop}:∀(t:List Sp3) {n:Nat} {e:En},Rn o f S n e->Vld o f e.1.1 t->Rn o f S (n+t.length) (zbl e t)
 | [],n,e,h,_=>h
 | s::r,n,e,h,⟨h1,h2,h3,u⟩=>by
  have:=Rn.go r (.succ n e s.1 s.2 h h1 h2 h3) u;rw[show n+1+r.length=n+(s::r).length by rw[qH];omega] at this
  exact this
def zev(J:Job)(e:List Str)(f:List Nat)(u:Key->List Key)(o t:List Sp3):Prop:=o.length=e.length/\Vld (gsK J) ahN (kKs e) o/\t.length=f.length/\Vld (gsP J) u (kPs f) t
def yn(J:Job)(e f:List Sp3):Int:=z7 (gate J) (jQ e++jQ f++[gate J])
theorem zdx{J:Job}{u:List Str}{B:List Nat}{C:Key->List Key}{E G:List En}(b1:Bn (gsK J) ahN (stK J u) u.length E)(b2:Bn (gsP J) C (·∈onW B E) B.length G) :
  (∀f∈G,∃o t,zev J u B C o t/\f.2.1+zQ f.1.2 (gate J)=yn J o t/\f.2.2=vZ o++vZ t)/\∀o t,zev J u B C o t->∃f∈G,f.2.1+zQ f.1.2 (gate J)<=yn J o t:=by
 have A:∀o t,yn J o t=z7 (gate J) (jQ o)+z7 (j6 (gate J) (jQ o)) (jQ t)+zQ (j6 (j6 (gate J) (jQ o)) (jQ t)) (gate J):=λo t=>by
  unfold yn;rw[wC,wC,Zb];show _+(zQ _ _+0)=_;rw[XC]
 refine{λf I=>?_,λo t ⟨a1,a2,a3,a4⟩=>?_}
 .obtain⟨e1,t,h1,ul,uv,rfl⟩:=(b2.1 f I).steps
  obtain⟨e,H,rfl⟩:=zA.mp h1;obtain⟨U,o,h0,sl,sv,rfl⟩:=(b1.1 e H).steps;cases(show U=_ from h0)
  refine{o,t,⟨sl,sv,ul,uv⟩,?_,?_}
  .rw[vz,vz,A]
   show 0+z7 (gate J) (jQ o)+_+_=_;rw[ZL]
  .rw[vz,vz]
   rfl
 .have O:=Rn.go o (@Rn.zero (gsK J) ahN (stK J u) _ rfl) a2
  rw[yM,a1] at O;obtain⟨e,H,Y,L⟩:=b1.2 _ O;have Q:=Rn.go t (@Rn.zero (gsP J) C (·∈onW B E) _ (zA.mpr ⟨e,H,rfl⟩)) a4
  rw[yM,a3] at Q;obtain⟨f,I,kf,D⟩:=b2.2 _ Q;refine{f,I,?_}
  have kp:e.1.2=j6 (gate J) (jQ o):=by rw[Y,vz]
  rw[kf];rw[vz] at D ⊢;rw[vz] at L;have L:e.2.1<=0+z7 (gate J) (jQ o):=L;have D:f.2.1<=e.2.1+z7 e.1.2 (jQ t):=D;rw[A];show f.2.1+zQ (j6 e.1.2 (jQ t)) (gate J)<=_;rw[kp] at D ⊢;omega
def zL(e:List Nat):List Int:=e.map λ(n:Nat)=>(n:Int)
theorem exV{u:Key->List (Int×Pl)}{A:Key->List Key}:∀(m:Nat) (l e:List Key),l.length=m->l.Nodup->List.Sublist l e->(∀f,List.Sublist f e->f≠[]->∃t∈f,blk A f t=false/\u t≠[])->∃o,o.length=m/\Vld u A l o
 | 0,l,e,_,_,_,_=>{[],rfl,trivial}
 | m+1,l,e,B,D,E,h=>by
  obtain⟨t,C,hb,H⟩:=h l E (λz=>by rw[z] at B;cases B)
  obtain⟨g,r,G⟩:=QY H;have:=wH D C;obtain⟨o,I,J⟩:=exV m (qQ l t) e () ((xS l t).nodup D) ((xS l t).trans E) h
  exact{(t,g)::o,by rw[qH,I],C,hb,by show g∈u t;rw[G];simp,J}
theorem QG{f:Key->List Key}{l:List Key}{t:Key}:blk f l t=false↔∀x∈f t,x∉l:=by
 unfold blk;rw[<- zbB,ZR];exact{λh x hx e=>h {x,hx,zal.mpr e},λh ⟨x,hx,e⟩=>h x hx (zal.mp e)}
theorem Wk.rk{f:List (Int×Int)}{rk:Int->Nat}(h:∀q∈f,rk q.1<rk q.2):∀{k:Nat} {a b:Int},Wk f k a b->rk a+k<=rk b
 | 0,a,b,e=>by cases(show a=b from e);exact zx _
 | k+1,a,b,⟨m,e,w⟩=>by
  have:=Wk.rk h w;have:rk a<rk m:=h (a,m) e;omega
theorem zae{α:Type}(f:α->Nat):∀(l:List α),l≠[]->∃a∈l,∀b∈l,f a<=f b
 | [],h=>absurd rfl h
 | [a],_=>{a,1e3,λb hb=>by cases zR.mp hb;exact zx _}
 | a::b::r,_=>by
  obtain⟨c,hc,e⟩:=zae f (b::r) 1e3
  by_cases h:f a<=f c
  .refine{a,1e3,λd hd=>?_}
   rcases zP.mp hd with rfl | hd
   .exact zx _
   .exact jx h (e d hd)
  .refine{c,jf _ hc,λd hd=>?_}
   rcases zP.mp hd with rfl | hd
   .omega
   .exact e d hd
theorem zjO{J:Job}{e:List Nat}{C:Key->List Key}{f:Int->Nat}(B:e.Nodup)(u:∀q∈asI J,f q.1<f q.2)(o:∀t∈kPs e,Ahd J C t):∃E,E.length=e.length/\Vld (gsP J) C (kPs e) E:=by
 refine exV e.length (kPs e) (kPs e) (zm _) (zf4 B) (QP _) λU D ne=>?_
 obtain⟨t,A,Y⟩:=zae (λk:Key=>match k with | .inl i=>f i | .inr _=>0) U ne
 obtain⟨n,hn,I⟩:=zA.mp (D.subset A);cases I;refine{_,A,QG.mpr λx hx O=>?_,by show [_]≠[];simp}
 obtain⟨ms,e1,_,H⟩:=o _ (D.subset A) n rfl;rw[e1] at hx;obtain⟨j,L,rfl⟩:=zA.mp hx;obtain⟨Q,k,G⟩:=(H j).mp L;have h1:f (n:Int)<=f j:=Y _ O;have h2:=G.rk u;cases k with
 | zero=>exact Q G
 | succ k=>omega
theorem zhO{J:Job}{o:List Str}(B:o.Nodup)(h:∀A∈o,∃f∈J.fs,f.k=A):∃D,D.length=o.length/\Vld (gsK J) ahN (kKs o) D:=by
 refine exV o.length (kKs o) (kKs o) (zm _) (QA B) (QP _) λI L ne=>?_
 obtain⟨t,r,e⟩:=QY ne;have C:t∈I:=by rw[e];simp
 obtain⟨A,u,E⟩:=zA.mp (L.subset C);cases E;obtain⟨f,G,rfl⟩:=h A u;obtain⟨n,H⟩:=vQ.mp G;exact{_,C,QG.mpr (λx hx=>(nomatch hx)),λz=>by have:=zc4 H;rw[show fgs J f.k=[] from z] at this;cases this}
theorem Y2{J:Job}:∀{o:List Sp3} {l:List Key},Vld (gsK J) ahN l o->∃e:List Nat,vZ o=zL e/\e.length=o.length/\∀m∈e,m<J.fs.length
 | [],_,_=>{[],rfl,rfl,λm h=>nomatch h}
 | (t,g)::r,l,⟨_,_,h3,u⟩=>by
  obtain⟨e,a,b,c⟩:=Y2 u;have h3:g∈gsK J t:=h3;cases t with
  | inl i=>cases h3
  | inr B=>
   obtain⟨n,f,A,_,rfl⟩:=Jy h3;refine{n::e,?_,by rw[qH,b,qH],λm hm=>?_}
   .show(n:Int)::vZ r=(n:Int)::zL e
    rw[a]
   .rcases zP.mp hm with rfl | hm
    .exact(zO.mp A).1
    .exact c m hm
theorem zcN{J:Job}{o:List Nat}{A:Key->List Key}:∀{f:List Sp3} {l:List Key},List.Sublist l (kPs o)->Vld (gsP J) A l f->∃e:List Nat,vZ f=zL e/\e.length=f.length/\∀m∈e,m∈o
 | [],_,_,_=>{[],rfl,rfl,λm h=>nomatch h}
 | (t,g)::r,l,u,⟨h1,_,h3,C⟩=>by
  obtain⟨e,a,b,c⟩:=zcN ((xS l t).trans u) C;obtain⟨n,D,B⟩:=zA.mp (u.subset h1);cases(show(Sum.inl (n:Int):Key)=t from B)
  cases zR.mp (show g∈[((n:Int),ppl J (n:Int).toNat)] from h3)
  refine{n::e,?_,by rw[qH,b,qH],λm hm=>?_}
  .show(n:Int)::vZ r=(n:Int)::zL e
   rw[a]
  .rcases zP.mp hm with rfl | hm
   .exact D
   .exact c m hm
def ShR(J:Job)(A:List Nat)(u:Int)(H G:List Nat):Prop:=∃e B C D,e.Nodup/\(∀E,E∈e↔∃n∈A,pkd J n=some E)/\(∀t∈kPs A,Ahd J B t)/\zev J e A B C D/\u=yn J C D/\vZ C=zL H/\vZ D=zL G/\∀f o,zev J e A B f o->u<=yn J f o
theorem zjW(e f:List V):jS (e++f) none (some (e.length:Int))=e:=by
 unfold jS;rw[HT.sIx_none,HT.sIx_nat,qu,zbv,Nat.sub_zero,XI (WZ _ _),List.take_left'];rfl
theorem zjX(e f:List V):jS (e++f) (some (e.length:Int)) none=f:=by
 unfold jS;rw[HT.sIx_none,HT.sIx_nat,qu,XI (WZ _ _),List.drop_left' rfl,Nat.add_sub_cancel_left,qY]
theorem WkS.same{H f:Hp}{t:List V}{o:List (Int×List Int)}(h:WkS K H t o)(s:Same H f):WkS K f t o:={h.1,λj q e=>let ⟨T,a,b⟩:=h.2 j q e;{T,a,b.same s}}
inductive zeI(K:W.Frag)(I:List V)(H:Hp)(Q:VK):Prop
 | mk (B E:Addr) (J:Job) (o:List Nat) (G:Int->Nat) (_:I=[.ref B,.ref E]) (_:Rep K H (xJ J) (.ref B)) (_:JAh J) (_:(∀q∈asI J,G q.1<G q.2)) (_:J.fs.length<=100) (_:(∀p∈J.ps,∃f∈J.fs,f.k=p.k)) (_:H E=some (.lst (qm o))) (_:o.Nodup) (_:1<=o.length) (_:o.length<=6) (_:(∀n∈o,n<J.ps.length)) (_:∀(T A t r:Addr) (L:List V) (u:Int) (D C:List Nat) e,Same H e->SqT K e T [.int u,.ref A]->SqT K e A [.ref t,.ref r]->SqT K e t L->Reps K e ((xw J D o).map prD) L->SqT K e r (qm C)->ShR J o u D C->Q (.ref T) e):zeI K I H Q
def ziZ(K:W.Frag):Sp:=λe H Q _=>zeI K e H Q
theorem zkn:zM ["job","parts","kinds","walks","way","row"] ["job","parts"] (zv (topL 15)):=u4
theorem zkI{f:Addr}{fd:FuncData}(F:Fun K "shortest_trip" "shortest_trip" (topL 15) f fd)(B:Blt N)(ab:Dfn P w K N M "kind_of" 1 ["job","part"] (zi0 K))(L:Dfn P w K N M "way_between" 1 ["one","other"] (Vr K))(D:Dfn P w K N M "picking_walks" 3 ["job","kinds"] (zeJ P w K))
  (I:Dfn P w K N M "laying_walks" 4 ["job","walks","parts"] (zeM P w K)) (O:Dfn P w K N M "picks_at" 2 ["job","feeders","parts"] (zid K)):FnOk P w K N M CX0 5 f fd ["job","parts"] (ziZ K):=by
 have nd:=zkn.nd;refine F.ok zkn 0#i (λc8 A bt s H vs Q E hr h=>?_)
 .obtain⟨jp,pa,J,ns,rk,rfl,_⟩:=h
  rfl
 .obtain⟨jp,pa,J,ns,rk,rfl,rj,br,bp,jl,kf,hk,be,n1,n6,ai,k⟩:=h
  have bc:=hr.units;have sz:sizeLine=16777216:=sizeLine_eq;obtain⟨g,fs,ps,as,fv,cf,qj,rg,qf,rf,qp,rp,_⟩:=jg rj;obtain⟨g',eg,qg⟩:=vt (p:=gate J) rg;cases eg;refine{_,(zi (zI (i:=2) nd rfl 0#z (zr (X9 hr.hd) rfl B.sorted jF (za (zjh ["job"] [0] rfl rfl (by kernel_rfl) (qW (pv 1)) 0#v (λ_ _ _ _=>(zn ab hr.m rfl (za (pv 1) (za (pv 0) ze))))) ze)))
   (zi (zI (i:=3) nd rfl 0#z (zn I hr.m rfl (za (pv 0) (za (zn D hr.m rfl (za (pv 0) (za (pv 2) ze))) 0#K))))
   (zi (JU (zr (zbq rfl bc) rfl B.min yE (za (zfn ["job"] [0] rfl rfl (by kernel_rfl) (JX (Qz (pv 3))) 0#v (λ_ _ _ _=>(qD (za (zE qN (pv 2) (zn L hr.m rfl (za (pv 1) (za (zu 0#u (pv 4) zf 0#d) ze)))) (za (pv 3) ze))))) ze)) (jP rfl (zD (zy (i:=4) nd rfl 0#z) (zD (zy (i:=5) nd rfl 0#z) jw))))
   (zp (zJ (qD (za (pv 4) (za (qD (za (zn O hr.m rfl (za (pv 0) (za (xX zaR (pv 5) wT (vq (zr zC rfl B.len boot_len (za (pv 2) ze)))) 0#K))) (za (xX zaR (pv 5) (vq (zr zC rfl B.len boot_len (za (pv 2) ze))) wT) ze))) ze)))))))),?_}
  have bq:∃st:List Str,st.length=ns.length/\∀(i n:Nat),ns[i]? =some n->∃p:zaE,J.ps[n]? =some p/\st[i]? =some p.k:=by
   refine{ns.map λn=>(pkd J n).getD "",zm _,λi n hn=>?_}
   have aj:=ai n (qw hn);refine{J.ps[n],by simp[aj],?_}
   rw[zT,hn];unfold pkd;simp[aj]
  obtain⟨st,bf,ao⟩:=bq;refine{_,rfl,pa,rfl,{_,u5 hk},zg2 (K:=K) (a:=pa) (xs:=qm ns) (λj ks H1=>ks=vp [] ((st.take j).map Sum.inr)/\ks.length<=j/\H1=H) {rfl,zx _,rfl} (λj ks H1 ⟨_,_,h1⟩=>by rw[h1];exact u5 hk) ?_ ?_}
  .rintro j x ks H1 hx ⟨rfl,kl,rfl⟩
   obtain⟨n,hn,rfl⟩:=j5 hx;obtain⟨p,hp,hs⟩:=ao j n hn;have jl:=(zO.mp hn).1;refine{rfl,_,rfl,_,rfl,jp,J,n,p,rfl,rj,hp,.inr p.k,rfl,(),?_}
   refine{?_,jx (QZ _ _) (Nat.succ_le_succ kl),rfl}
   rw[qF hs,zG];show _=List.foldl xI [] (List.map Sum.inr (List.take j st)++[Sum.inr p.k]);rw[zbE];rfl
  rintro ks H1 ⟨ba,_,rfl⟩ S hS;rw[zU,<- bf,qY] at ba;subst ba;refine{S,st,rfl,zd,by rw[bf];omega,λkl u bn _ ag mem=>?_}
  refine(?_:zdC _ _ _ _ (upd (upd H1 S (Zj P w S (vp [] (st.map Sum.inr)))) kl (.lst (u.map V.str))))
  have s2:=(zb (o:=Zj P w S (vp [] (st.map Sum.inr))) hS).trans (zb (o:=.lst (u.map V.str)) bn);have ae:=zd (H:=upd H1 S (Zj P w S (vp [] (st.map Sum.inr)))) (a:=kl) (o:=.lst (u.map V.str));generalize upd (upd H1 S (Zj P w S (vp [] (st.map Sum.inr)))) kl (.lst (u.map V.str))=H2 at s2 ae;have bs:u.length<=6:=jx (Zn u st ag λx hx=>(mem x).mp hx) ()
  have af:∀kd,kd∈u↔∃n∈ns,pkd J n=some kd:=λkd=>by
   rw[mem];constructor
   .intro h
    obtain⟨i,hi⟩:=vQ.mp h;have il:=(zO.mp hi).1;obtain⟨p,hp,hs⟩:=ao i ns[i] 1e3
    rw[hs] at hi;cases hi;exact{ns[i],xP _,by unfold pkd;rw[hp];rfl}
   .rintro⟨n,hn,e⟩
    obtain⟨i,hi⟩:=vQ.mp hn;obtain⟨p,hp,hs⟩:=ao i n hi;unfold pkd at e;rw[hp] at e;cases e;exact qw hs
  have c7:1<=u.length:=by
   obtain⟨n,r,e⟩:=QY (l:=ns) (λz=>by rw[z] at n1;exact absurd n1 1e1)
   have aj:=ai n (by rw[e];simp)
   have:=(af J.ps[n].k).mpr {n,by rw[e];simp,by unfold pkd;simp[aj]}
   exact zbS this
  refine{_,rfl,_,rfl,_,rfl,jp,kl,J,u,rfl,rj.same s2,jl,ae,ag,bs,λD1 o1 c5 bi H3 ca s3 aw bg b1 el=>?_}
  have am:=s2.trans s3;refine{_,rfl,jp,D1,pa,o1,c5,bi,J,ns,rfl,rj.same am,br,be,n6,ai,aw,bg,el,λe he=>?_,am _ _ hk,λD2 o2 ap G ah H4 cb s4 ac av ay b2 c9=>?_}
  .obtain⟨a1,a2,a3⟩:=Rn.shape (QA ag) (n0:=0) (λe he=>by rw[show e=_ from he];exact⟨rfl,rfl⟩) (b1.1 e he)
   have lK:(kKs u).length=u.length:=zm _;exact{zbU.mp (),()}
  have sH:=am.trans s4;obtain⟨m1,m2⟩:=zdx b1 b2;refine{_,rfl,D2,o2,ap,rfl,ac,λq hq=>{q,D2,o2,ap,rfl,zd,zb hq _ _ ac,zfU (P:=P) (w:=w) (d:=D2) (o:=o2) (xs:=ap) (λj zs H5=>Same H4 H5/\WkS K H5 zs ((G.take j).map λe=>0#G)) {zb hq,WkS.nil} (λj zs H5 ⟨s5,_⟩=>s5 _ _ ac) ?_ ?_}}
  .rintro j kx ax vx zs H5 T hx ⟨s5,w5⟩ hT
   obtain⟨e,he,ek,⟨U,qv,qU⟩,Bl,C,qa,qB,qC⟩:=av.get hx;cases(show kx=(e.1.1,plK e.1.2) from ek)
   have jl:=(zO.mp he).1;have zl:=w5.1;rw[zm,jb] at zl;have sT:=zb (o:=.tup [.ref ax,.ref vx]) hT;have aa:=s5.trans sT;refine{T,_,rfl,u6 zd,rfl,_,_,rfl,ax,_,rfl,aa.sqT qa,rfl,_,_,rfl,_,_,rfl,rfl,_,_,rfl,vx,_,rfl,aa.sqT qv,rfl,_,_,rfl,_,_,rfl,rfl,rfl,rfl,?_}
   refine{_,rfl,_,rfl,_,rfl,jp,_,_,_,rfl,rfl,(sH.trans aa).sqT qj,rfl,.ref C,.ref g,e.1.2,gate J,rfl,va (aa.sqT qC),va ((sH.trans aa).sqT qg),_,_,rfl,rfl,_,rfl,(by show 2<=_;omega),λT2 ak=>{(),aa.trans (zb ak),?_}}
   rw[qF he,zG];exact((w5.same sT).same (zb ak)).snoc {U,u6 zd,(aa.trans (zb ak)).sqT qU}
  rintro zs H5 ⟨s5,w5⟩;rw[av.len,qY] at w5;have zl:=w5.1;rw[zm] at zl;obtain⟨c3,bz,c4⟩:=zjO be bp ay;obtain⟨bw,bu,bx⟩:=zhO (J:=J) ag λkd bm=>by
   obtain⟨n,hn,e⟩:=(af kd).mp bm;unfold pkd at e;obtain⟨p,hp,rfl⟩:=qy.mp e;exact kf p (qw hp)
  obtain⟨e0,az,_⟩:=m2 bw c3 ⟨bu,bx,bz,c4⟩;have ne:(G.map λe=>0#G)≠[]:=λz=>by rw[List.map_eq_nil_iff.mp z] at az;cases az
  refine{(),λl hl=>{l,zs,_,rfl,u5 zd,w5.same (zb hl),ne,λv hv=>?_}}
  have lt:=zcP ne;have Y:∀e∈G,((G.map λe=>0#G).getD (X7 (G.map λe=>0#G)) (0,[])).1<=e.2.1+zQ e.1.2 (gate J):=λe he=>by
   obtain⟨j,hj⟩:=vQ.mp he;have jl:=(zO.mp hj).1;have:=zhy (ps:=G.map λe=>0#G) (j:=j) (by rw[zm];exact jl)
   rwa[show(G.map λe=>0#G).getD j (0,[])=0#G by rw[Jd,zT,hj];rfl] at this
  generalize X7 (G.map λe=>0#G)=mi at lt Y hv
  rw[zm] at lt;have ei:G[mi]? =some G[mi]:=by simp[lt]
  have hm:=xP lt;generalize G[mi]=em at ei hm;have au:(G.map λe=>0#G)[mi]? =some (em.2.1+zQ em.1.2 (gate J),em.2.2):=by rw[zT,ei];rfl
  rw[Jd,au] at Y;obtain⟨Tm,ht,U,qT,qU⟩:=w5.2 mi _ au;rw[ht] at hv;cases hv;obtain⟨ss,us,wk,ew,er⟩:=m1 em hm;obtain⟨ms,aq,ml,mf⟩:=Y2 wk.2.1;obtain⟨ls,ar,ll,lf⟩:=zcN (QP _) wk.2.2.2;rw[wk.1] at ml;rw[wk.2.2.1] at ll;have bh:em.2.2.map V.int=qm ms++qm ls:=by rw[er,aq,ar,zG];unfold zL qm;rw[qK,qK];rfl
  have sl:=s5.trans (zb (o:=.lst zs) hl);have qT:=(zb (o:=.lst zs) hl).sqT qT;have qU:SqT K (upd H5 l (.lst zs)) U (em.2.2.map V.int):=(zb (o:=.lst zs) hl).sqT qU;rw[bh] at qU;generalize upd H5 l (.lst zs)=H6 at sl qT qU;have s6:=sH.trans sl;refine{Tm,_,rfl,qT,rfl,_,_,rfl,_,_,rfl,rfl,?_}
  have b0:=sl _ _ (s4 _ _ (s3 _ _ ae));have bd:((u.map V.str).length:Int)=((qm ms).length:Int):=by rw[zm,zU,ml]
  have tl:(qm ms++qm ls).length=ms.length+ls.length:=by rw[qu,zU,zU]
  have ce:1<=ms.length:=()
  have cd:1<=ls.length:=()
  refine{_,rfl,_,rfl,_,rfl,_,rfl,kl,_,rfl,.inl (u5 b0),((qm ms).length:Int),by rw[bd],U,_,rfl,qU,(by rw[tl,zU,HT.sIx_none,HT.sIx_nat];omega),λf1 bj=>?_}
  rw[zjW] at *
  have sf:=zb (o:=.tup (qm ms)) bj;refine{_,rfl,jp,f1,pa,J,ms,ns,rfl,rj.same (s6.trans sf),u6 zd,(),mf,(s6.trans sf) _ _ hk,n6,ai,λt c6 H7 s7 qt rt=>?_}
  have an:=sf.trans s7;refine{_,rfl,_,rfl,kl,_,rfl,.inl (u5 (an _ _ b0)),((qm ms).length:Int),by rw[bd],U,_,rfl,an.sqT qU,(by rw[tl,zU,HT.sIx_none,HT.sIx_nat];omega),λr1 bo=>{(by show 2<=_;omega),λp2 bb=>{(by show 2<=_;omega),λp3 al=>?_}}}
  rw[zjX] at *
  have s8:=(zb (o:=.tup (qm ls)) bo).trans ((zb bb).trans (zb (o:=.tup [.int (em.2.1+zQ em.1.2 (gate J)),.ref p2]) al));refine k p3 p2 t r1 c6 _ ms ls _ (s6.trans (an.trans s8)) (u6 zd) (u6 (zb al _ _ zd)) (s8.sqT qt) (rt.same s8) (u6 (zb al _ _ (zb bb _ _ zd))) {u,ah,ss,us,ag,af,ay,wk,ew,aq,ar,λbv c0 h'=>?_}
  obtain⟨e,he,le⟩:=m2 bv c0 h';exact yL (Y e he) le
def dkB(e:List Int):List (Key×V):=e.map λj=>(Sum.inl j,V.bl true)
def Ym(e:List Int)(j:Int):List Int:=if j∈e then e else e++[j]
def Z8(f e:List Int):List Int:=e.foldl Ym f
theorem zc9:∀(f:List Int) (i:Int),(qZ (dkB f) (Sum.inl i)=some (.bl true)/\i∈f)\/(qZ (dkB f) (Sum.inl i)=none/\i∉f)
 | [],i=>.inr {rfl,1e3}
 | p::o,i=>by
  by_cases h:p=i
  .exact .inl {jh (by show Sum.inl p=_;rw[h]),by simp[h]}
  .have e:qZ (dkB (p::o)) (Sum.inl i)=qZ (dkB o) (Sum.inl i):=ji (λz=>h (xa z))
   rcases zc9 o i with ⟨h1,h2⟩ | ⟨h1,h2⟩
   .exact .inl {e.trans h1,jf _ h2}
   .exact .inr {e.trans h1,by simp only[zP];rintro(z | z);exact h z.symm;exact h2 z}
theorem zhR(e:List Int)(j:Int):xt (dkB e) (Sum.inl j) (.bl true)=dkB (Ym e j):=by
 unfold Ym;rcases zc9 e j with ⟨h1,h2⟩ | ⟨h1,h2⟩
 .rw[zt h2]
  unfold xt;rw[zt (by rw[wz,h1];rfl)]
  unfold dkB;rw[qK];refine QR λx _=>?_
  show(if(Sum.inl x:Key)=Sum.inl j then((Sum.inl x:Key),V.bl true) else(Sum.inl x,V.bl true))=_
  split<;>rfl
 .rw[zq h2,Qe _ h1]
  unfold dkB;rw[zG];rfl
theorem QD:∀(e f:List Int),jZ (dkB f) (dkB e)=dkB (Z8 f e)
 | [],f=>rfl
 | j::e,f=>by
  show jZ (xt (dkB f) (Sum.inl j) (.bl true)) (dkB e)=dkB (Z8 (Ym f j) e);rw[zhR,QD e]
theorem zfM{e:List Int}{j x:Int}:x∈Ym e j↔x∈e\/x=j:=by
 unfold Ym;split
 .rename_i h
  constructor
  .exact .inl
  .rintro(z | z)
   .exact z
   .rw[z];exact h
 .rw[qL,zR]
theorem wG:∀{f e:List Int} {x:Int},x∈Z8 e f↔x∈e\/x∈f
 | [],e,x=>by simp[Z8]
 | j::f,e,x=>by
  show x∈Z8 (Ym e j) f↔_;rw[wG,zfM,zP,or_assoc]
theorem za8{e:List Int}{j:Int}(h:e.Nodup):(Ym e j).Nodup:=by
 unfold Ym;split
 .exact h
 .rename_i z
  exact ZG h z
theorem ZF:∀{js e:List Int},e.Nodup->(Z8 e js).Nodup
 | [],_,h=>h
 | j::js,e,h=>ZF (js:=js) (za8 h)
theorem JF(e:List Int):(dkB e).length=e.length:=zm _
theorem Vn{α:Type}{l:List α}{i:Nat}{x:α}(h:l[i]? =some x):l.take (i+1)=l.take i++[x]:=by
 obtain⟨h1,h2⟩:=zO.mp h;rw[<- h2,Zu]
structure Ov(H H':Hp)(ds:List Addr)(κ:Nat->List Int):Prop where
 nd:ds.Nodup
 at_:∀(p:Nat) (d:Addr),ds[p]? =some d->H d=none/\H' d=some (.dK (dkB (κ p)))
 sm:Same H H'
theorem Ov.snoc{H u A:Hp}{t:List Addr}{κ:Nat->List Int}{d:Addr}(o:Ov H u t κ)(s:Same u A)(h1:u d=none)(h2:A d=some (.dK (dkB (κ t.length)))):Ov H A (t++[d]) κ:=by
 refine{ZG o.nd λz=>?_,λp e f=>?_,o.sm.trans s}
 .obtain⟨p,hp⟩:=List.getElem?_of_mem z
  rw[(o.at_ p d hp).2] at h1;cases h1
 .by_cases hp:p<t.length
  .rw[x6 hp] at f
   exact{(o.at_ p e f).1,s _ _ (o.at_ p e f).2}
  .rw[xr ()] at f
   have:p=t.length:=by
    have:=(zO.mp f).1;simp at this;omega
   subst this;simp at f;subst f;refine{?_,h2}
   cases z:H d with
   | none=>rfl
   | some B=>rw[o.sm _ _ z] at h1;cases h1
def zbe(e:List (Int×Int))(p:Nat):List Int:=Z8 [] ((e.filter λq=>decide (q.2=(p:Int))).map (·.1))
theorem WM{e:List Addr}{p:Nat}{d:Addr}(h:e[p]? =some d):atI (e.map V.ref) (p:Int)=some (.ref d):=by
 have hp:=(zO.mp h).1;obtain⟨v,h1,h2⟩:=WO (xs:=e.map V.ref) (i:=(p:Int)) () (by rw[zm];omega)
 rw[h1,<- h2,jC,zT,h];rfl
theorem Ov.upd{H u:Hp}{t:List Addr}{κ:Nat->List Int}{p:Nat}{d:Addr}(o:Ov H u t κ)(h:t[p]? =some d)(A:List Int):Ov H (upd u d (.dK (dkB A))) t (λx=>if x=p then A else κ x):=by
 refine{o.nd,λq e f=>{(o.at_ q e f).1,?_},λc C z=>by rw[zj (zk z (o.at_ p d h).1)];exact o.sm _ _ z}
 by_cases c:q=p
 .subst c
  rw[h] at f;cases f;rw[zd,zt rfl]
 .have ne:e≠d:=λz=>by
   subst z;obtain⟨h1,h2⟩:=zO.mp h;obtain⟨h3,B⟩:=zO.mp f;exact c ((zbD o.nd).mp (B.trans h2.symm))
  rw[zj ne,zq c];exact(o.at_ q e f).2
theorem Ov.same{H e f:Hp}{t:List Addr}{κ:Nat->List Int}(o:Ov H e t κ)(s:Same e f):Ov H f t κ:={o.nd,λp d h=>{(o.at_ p d h).1,s _ _ (o.at_ p d h).2},o.sm.trans s}
def zb5(e:List (Int×Int))(κ:Nat->List Int):Prop:=∀p:Nat,(κ p).Nodup/\∀q∈κ p,∃k,1<=k/\Wk e k q p
def zh5(e:List (Int×Int))(κ:Nat->List Int)(m p:Nat):Prop:=∀q k,1<=k->k<=m->Wk e k q p->q∈κ p
theorem zaa{e:List (Int×Int)}{p:Nat}{q:Int}:q∈zbe e p↔(q,(p:Int))∈e:=by
 unfold zbe;rw[wG,zA];constructor
 .rintro(z | ⟨⟨a,b⟩,h,rfl⟩)
  .exact absurd z 1e3
  .obtain⟨h1,h2⟩:=xO.mp h
   rw[<- xF h2];exact h1
 .intro h
  exact .inr {_,xO.mpr {h,zY rfl},rfl}
theorem zkX(e:List (Int×Int)):zb5 e (zbe e):=λp=>{ZF vU,λq h=>{1,zx _,_,zaa.mp h,rfl}}
theorem zkY(f:List (Int×Int))(p:Nat):zh5 f (zbe f) 1 p:=λq k h1 h2 o=>by
 cases(show k=1 by omega)
 obtain⟨m,h,e⟩:=o;cases(show m=(p:Int) from e)
 exact zaa.mpr h
theorem Wk.rank{f:List (Int×Int)}{rk:Int->Nat}(h:∀q∈f,rk q.1<rk q.2):∀{k:Nat} {a b:Int},Wk f k a b->rk a+k<=rk b
 | 0,a,b,e=>by cases(show a=b from e);exact zx _
 | k+1,a,b,⟨m,e,w⟩=>by
  have:=Wk.rank h w;have:rk a<rk m:=h (a,m) e;omega
theorem Wk.in1{f:List (Int×Int)}{n:Nat}(h:∀q∈f,InN n q.1/\InN n q.2):∀{k:Nat} {a b:Int},1<=k->Wk f k a b->InN n a
 | k+1,a,b,_,⟨m,e,w⟩=>(h _ e).1
theorem zhL{e:List (Int×Int)}{κ:Nat->List Int}{p o:Nat}(g:zb5 e κ)(h:(o:Int)∈κ p):zb5 e (λx=>if x=p then Z8 (κ p) (κ o) else κ x):=λx=>by
 dsimp only;by_cases c:x=p
 .subst c
  rw[zt rfl];refine{ZF (g x).1,λq hq=>?_}
  rcases wG.mp hq with z | z
  .exact(g x).2 q z
  .obtain⟨f,a1,w1⟩:=(g o).2 q z
   obtain⟨t,a2,u⟩:=(g x).2 _ h;exact{f+t,(),w1.add u}
 .rw[zq c]
  exact g x
theorem zeb{u:List (Int×Int)}{κ t:Nat->List Int}{n m p:Nat}{C:List Int}(B:∀q∈u,InN n q.1/\InN n q.2)(f:∀x<n,zh5 u κ m x)(hp:p<n)(sub:∀x q,q∈κ x->q∈t x)(s1:∀q∈t p,q∈C)(s2:∀o∈t p,∀q∈t o.toNat,q∈C) :
  ∀q k,1<=k->k<=2*m->Wk u k q p->q∈C:=λq k h1 h2 D=>by
 by_cases c:k<=m
 .exact s1 q (sub p q (f p hp q k h1 c D))
 .have e:k=m+(k-m):=()
  rw[e] at D;by_cases I:m=0
  .omega
  obtain⟨j,w1,E⟩:=D.split;have A:=Wk.in1 B () E
  have G:((j.toNat:Nat):Int)=j:=by have:=A.1;omega
  have H:=sub p j (f p hp j (k-m) () () E)
  refine s2 j H q (sub _ _ (f j.toNat (by have:=A.1;have:=A.2;omega) q m () (zx _) ?_))
  rw[G];exact w1
def Rws(H t:Hp)(e:List 0#y)(o:List V):Prop:=o.length=e.length/\∀(p:Nat) (f:List Int),e[p]? =some f->∃a,o[p]? =some (.ref a)/\H a=none/\t a=some (.lst (f.map V.int))
theorem Rws.same{H t f:Hp}{o:List 0#y}{u:List V}(h:Rws H t o u)(s:Same t f):Rws H f o u:={h.1,λp B e=>by
 obtain⟨a,e1,e2,A⟩:=h.2 p B e;exact{a,e1,e2,s _ _ A}}
theorem Rws.snoc{H t:Hp}{f:List 0#y}{B:List V}{l:Addr}{A:List Int}(h:Rws H t f B)(h0:H l=none)(e:t l=some (.lst (A.map V.int))):Rws H t (f++[A]) (B++[.ref l]):=by
 refine{by rw[qu,qu,h.1];rfl,λp u o=>?_}
 by_cases c:p<f.length
 .rw[x6 c] at o
  rw[x6 (by rw[h.1];exact c)]
  exact h.2 p u o
 .rw[xr ()] at o
  rw[xr (by rw[h.1];omega),h.1]
  have:p-f.length=0:=by
   have:=(zO.mp o).1;simp at this;omega
  rw[this] at o ⊢;cases o;exact⟨l,rfl,h0,e⟩
theorem VC{H:Hp}:∀e:List Int,Reps K H (e.map Dat.int) (e.map V.int)
 | []=>rfl
 | m::e=>{_,_,rfl,rfl,VC e}
inductive YG(K:W.Frag)(C:List V)(H:Hp)(Q:VK):Prop
 | mk (t:Addr) (B:List V) (f:List (Int×Int)) (n:Nat) (A:Int->Nat) (_:C=[.int n,.ref t]) (_:(SqL K H t B\/SqT K H t B)) (_:Reps K H (f.map prD) B) (_:f.length<=1000) (_:n<=60) (_:(∀q∈f,InN n q.1/\InN n q.2)) (_:(∀q∈f,A q.1<A q.2)) (_:(∀i,A i<=60)) (_:∀(l:Addr) (e:List 0#y) o,Same H o->H l=none->(∃D,o l=some (.lst D)/\Rws H o e D)->e.length=n->(∀p u,e[p]? =some u->u.Pairwise (·< ·)/\∀j,j∈u↔∃k,1<=k/\Wk f k j (p:Nat))->Q (.ref l) o):YG K C H Q
def zaQ(K:W.Frag):Sp:=λe H Q _=>YG K e H Q
theorem zeZ:zM ["_law_many","_law_aheads_here","_law_found","_law_turn","_law_part","_law_one"] ["_law_many","_law_aheads_here"] (zv (topL 30)):=u4
theorem zho{f:Addr}{fd:FuncData}(F:Fun K "_law_over" "_law_over" (topL 30) f fd)(B:Blt N):FnOk P w K N M CX0 1 f fd ["_law_many","_law_aheads_here"] (zaQ K):=by
 have nd:=zeZ.nd;refine F.ok zeZ 0#i (λbc A b0 s H vs Q E hr h=>?_)
 .obtain⟨t,xs,I,n,rk,rfl,_⟩:=h
  rfl
 .obtain⟨t,xs,I,n,rk,rfl,ht,rp,al,bf,ah,au,ar,k⟩:=h
  have bb:=bG100000;have be:=Zo hr;have lx:=rp.len;rw[zm] at lx;refine{_,(zi (zjc ["_law_aheads_here"] [1] rfl rfl (by kernel_rfl) (qS rfl B.range (za (pv 0) ze)) 0#v (λ_ _ _ _=>(qh (zbs hr.hd) rfl B.dict zer (za (zhb (K:=K) rfl ["_law_part"] [0] rfl rfl (by kernel_rfl) (zg9 (K:=K) rfl (pv 1)) (λ_ _ _ _=>(ZC (qG Zm (pv 1) (pv 2) (qO _)))) (λ_ _ _ _=>(qD (za (pv 0) (za wB ze))))) ze))) (zy (i:=2) nd rfl 0#z))
   (zi (qM jz rfl (qS rfl B.range (za zf ze)) (zy (i:=3) nd rfl 0#z)
   (zp (qM jz rfl (qS rfl B.range (za (pv 0) ze)) (zy (i:=4) nd rfl 0#z)
    (zp (qM jz rfl (qW (qh (zat hr.hd) rfl B.list xm (za (zu qR (pv 2) (pv 4) 0#d) ze))) (zy (i:=5) nd rfl 0#z)
     (zp (vY (zhd (zu qR (pv 2) (pv 4) 0#d) (zu qR (pv 2) (pv 5) 0#d) ⟨rfl,rfl,rfl,rfl⟩))))))))
   (zp (zJ (jT [] [] rfl rfl (by kernel_rfl) (qW (pv 2)) 0#v (λ_ _ _ _=>(zr (Va hr.hd) rfl B.sorted jF (za (pv 0) ze)))))))),?_}
  have ae:=bGe;have l2:∀x y:V,[x,y].length<=sizeLine:=λx y=>by rw[sizeLine_eq];show 2<=_;decide
  refine{_,rfl,_,rfl,(by rw[ae];omega),(by rw[ae];omega),Xb (λi zs H1=>∃C:List Addr,zs=C.map V.ref/\C.length=i/\Ov H H1 C (zbe I)) {[],rfl,rfl,vU,(λp d e=>by simp at e),u7 _} ?_ ?_}
  .rintro i zs H1 hi ⟨C,rfl,ld,ov⟩
   have ba:=rp.same ov.sm;have i0:(0:Int)+(i:Int)=(i:Int):=ZL _;rw[i0];refine{rfl,_,rfl,t,rfl,ht.elim (λhL=>.inl {{_,ov.sm.seq hL},vy (K:=K) (a:=t) (xs:=xs) (λj ys O=>PrsL O ys (dkB (((I.take j).filter λq=>decide (q.2=(i:Int))).map (·.1)))/\Same H1 O) {PrsL.nil,u7 _} (λj ys O ⟨_,G⟩=>(ov.sm.trans G).seq hL) ?s1 ?e1})
    (λhT=>.inr {{_,ov.sm.sqT hT},vM (K:=K) (a:=t) (xs:=xs) (λj ys O=>PrsL O ys (dkB (((I.take j).filter λq=>decide (q.2=(i:Int))).map (·.1)))/\Same H1 O) {PrsL.nil,u7 _} (λj ys O ⟨_,G⟩=>(ov.sm.trans G).sqT hT) ?s2 ?e2})}
   case s1 | s2=>
    rintro j x ys O hx ⟨pr,G⟩;obtain⟨dd,e1,r1⟩:=(ba.same G).get hx;rw[zT] at e1;obtain⟨q,eq,rfl⟩:=qy.mp e1;obtain⟨a,ws,rfl,qa,x1,bg,rfl,e2,x2,bh,rfl,e3,e4⟩:=r1;cases e2;cases e3;cases e4;have hj:=(zO.mp eq).1;rw[Vn eq,Qn,zG];refine{a,_,rfl,qa,rfl,_,_,rfl,_,_,rfl,rfl,rfl,_,rfl,_,rfl,rfl,_,rfl,?_}
    by_cases c:q.2=(i:Int)
    .refine ifT (by show decide (V.int q.2=V.int (i:Int))=true;rw[c];exact zY rfl) {_,rfl,l2 _ _,λT hT=>{?_,?_,G.trans (zb hT)}}
     .have:=pr.1
      have:=Qp (λq:Int×Int=>decide (q.2=(i:Int))) (I.take j)
      rw[JF,zm] at *
      rw[jb] at this;omega
     .rw[QM,zt (zY c)]
      have e:∀a b,dkB (a++b)=dkB a++dkB b:=λa b=>zG
      rw[e];exact(pr.same (zb hT)).snoc (k:=Sum.inl q.1) zd
    .refine ifF (by show decide (V.int q.2=V.int (i:Int))=false;exact jA λz=>c (V.int.inj z)) {?_,G}
     rw[QM,zq (by simpa using c)]
     simpa using pr
   case e1 | e2=>
    rintro ys O ⟨pr,G⟩;rw[lx,qY] at pr;have ly:ys.length<=1000:=by
     have:=pr.1;have:=Qp (λq:Int×Int=>decide (q.2=(i:Int))) I
     rw[JF,zm] at *
     omega
    refine{(),λl hl=>{l,ys,_,rfl,zd,pr.same (zb hl),λd hd=>{by rw[zm];omega,C++[d],by rw[zG];rfl,by rw[qu,ld];rfl,?_}}}
    have dl:d≠l:=λz=>by rw[z,zd] at hd;cases hd
    have d2:O d=none:=by rw[zj dl] at hd;exact hd
    refine ov.snoc (d:=d) ((G.trans (zb hl)).trans (zb hd)) ?_ ?_
    .cases z:H1 d with
     | none=>rfl
     | some o'=>rw[G _ _ z] at d2;cases d2
    .rw[zd,ld]
     have:(jZ [] (dkB ((I.filter λq=>decide (q.2=(i:Int))).map (·.1))))=dkB (zbe I i):=QD _ []
     rw[this]
  .rintro zs H1 ⟨C,rfl,ld,ov⟩
   rw[jC] at ld;have lr:(C.map V.ref).length=n:=by rw[zm];exact ld
   refine{(),λF hF=>?_}
   have F0:H F=none:=by
    cases z:H F with
    | none=>rfl
    | some o'=>rw[ov.sm _ _ z] at hF;cases hF
   refine{7,rfl,1e1,1e1,ju (λt' σ O=>Ex4 λ(v3 v4 v5:Option V) (κ:Nat->List Int)=>An5 (σ=[some (.int n),some (.ref t),some (.ref F),v3,v4,v5]) (O F=some (.lst (C.map V.ref))) (Ov H O C κ) (zb5 I κ) (∀x<n,zh5 I κ (2^t') x))
    {_,_,_,zbe I,rfl,zd,ov.same (zb hF),zkX I,λx _=>zkY I x} ?_ ?_}
   .rintro t' σ O bd ⟨v3,v4,v5,κ,rfl,af,aa,g2,f2⟩
    refine{_,rfl,_,rfl,(by rw[ae];omega),(by rw[ae];omega),ju (λp σ H3=>Ex3 λ(v4 v5:Option V) (u:Nat->List Int)=>An6 (σ=[some (.int n),some (.ref t),some (.ref F),some (.int (0+(t':Int))),v4,v5]) (H3 F=some (.lst (C.map V.ref))) (Ov H H3 C u) (zb5 I u) ((∀x q,q∈κ x->q∈u x)) (∀x<p,zh5 I u (2^(t'+1)) x))
     {_,_,κ,rfl,af,aa,g2,λ_ _ h=>h,λx hx=>absurd hx (WU _)} ?_ ?_}
    .rintro p σ H3 hp ⟨v4,v5,u,rfl,ac,ai,g3,Y,f3⟩
     rw[jC] at hp;have i0:(0:Int)+(p:Int)=(p:Int):=ZL _;rw[i0];have ed:C[p]? =some (C[p]'()):=vo _
     generalize C[p]'()=d at ed
     obtain⟨d0,an⟩:=ai.at_ p d ed;refine{_,rfl,_,rfl,F,_,_,_,rfl,rfl,u5 ac,WM ed,d,_,rfl,.inl an,λL hL=>{L,rfl,{_,u5 zd},?_}}
     have em:(dkB (u p)).map (λkv=>kV kv.1)=(u p).map V.int:=by
      unfold dkB;rw[qK];rfl
     rw[em];have Ld:L≠d:=λz=>by rw[z,an] at hL;cases hL
     refine j8 (K:=K) (a:=L) (xs:=(u p).map V.int) (λi σ H4=>Ex2 λ(v5:Option V) (J:List Int)=>An7 (σ=[some (.int n),some (.ref t),some (.ref F),some (.int (0+(t':Int))),some (.int (p:Int)),v5]) (H4 F=some (.lst (C.map V.ref))) (H4 L=some (.lst ((u p).map V.int))) (Ov H H4 C (λx=>if x=p then J else u x)) (zb5 I (λx=>if x=p then J else u x)) ((∀q∈u p,q∈J)) (∀o∈(u p).take i,∀q∈u o.toNat,q∈J))
      {_,u p,rfl,(zb hL) _ _ ac,zd,?_,?_,λ_ h=>h,λo ho=>absurd ho 1e3} (λi σ H' _ ⟨_,_,_,_,h,_,_,_,_⟩=>u5 h) ?_ ?_
     .have:(λx=>if x=p then u p else u x)=u:=funext λx=>by by_cases c:x=p<;>simp[c]
      rw[this];exact ai.same (zb hL)
     .have:(λx=>if x=p then u p else u x)=u:=funext λx=>by by_cases c:x=p<;>simp[c]
      rw[this];exact g3
     .rintro i x σ H4 hx ⟨v5,J,rfl,U,ak,ab,g4,a4,b4⟩
      rw[zT] at hx;obtain⟨o,eo,rfl⟩:=qy.mp hx;have mo:o∈u p:=qw eo;obtain⟨k1,ax,av⟩:=(g3 p).2 o mo;obtain⟨o0,o1⟩:=Wk.in1 ah ax av;have oi:((o.toNat:Nat):Int)=o:=()
      have aj:o.toNat≠p:=λz=>by
       have:=av.rank au;rw[z] at oi;rw[oi] at this;omega
      have ee:C[o.toNat]? =some (C[o.toNat]'()):=vo _
      generalize C[o.toNat]'()=e at ee
      have ag:=(ab.at_ p d ed).2;have ap:=(ab.at_ o.toNat e ee).2;rw[zt rfl] at ag;rw[zq aj] at ap;have az:d≠e:=λz=>by
       subst z;obtain⟨h1,h2⟩:=zO.mp ed;obtain⟨h3,h4⟩:=zO.mp ee;exact aj ((zbD ab.nd).mp (h4.trans h2.symm))
      have ao:=WM ee;rw[oi] at ao;have aq:∀(κ:Nat->List Int),zb5 I κ->∀x,(κ x).length<=60:=λκ g x=>by
       have:=yy (n:=n) (g x).1 λq hq=>let ⟨k,h1,w⟩:=(g x).2 q hq;Wk.in1 ah h1 w
       omega
      have l1:=aq _ g4 p;rw[zt rfl] at l1;have l2:=aq _ g3 o.toNat;have LF:L≠F:=λz=>by rw[z,ac] at hL;cases hL
      have Fd:F≠d:=λz=>by rw[z,ag] at U;cases U
      refine{_,rfl,_,rfl,F,_,_,_,rfl,rfl,u5 U,WM ed,d,rfl,.inl {_,.inl ag},_,rfl,_,rfl,F,_,_,_,rfl,rfl,u5 U,ao,e,_,_,rfl,az,ag,ap,by rw[JF,JF];omega,?_}
      rw[QD];have ef:(λx=>if x=p then Z8 J (u o.toNat) else(λx=>if x=p then J else u x) x)=λx=>if x=p then Z8 J (u o.toNat) else u x:=funext λx=>by by_cases c:x=p<;>simp[c]
      have eg:(λx=>if x=p then Z8 ((λx=>if x=p then J else u x) p) ((λx=>if x=p then J else u x) o.toNat) else(λx=>if x=p then J else u x) x)=λx=>if x=p then Z8 J (u o.toNat) else u x:=funext λx=>by by_cases c:x=p<;>simp[c,aj]
      refine{_,Z8 J (u o.toNat),rfl,by rw[zj Fd];exact U,by rw[zj Ld];exact ak,?_,?_,λq hq=>wG.mpr (.inl (a4 q hq)),λz hz q hq=>?_}
      .have:=ab.upd ed (Z8 J (u o.toNat))
       rw[ef] at this;exact this
      .have:=zhL (p:=p) (o:=o.toNat) g4 (by rw[zt rfl,oi];exact a4 o mo)
       rw[eg] at this;exact this
      .rw[Vn eo] at hz
       rcases qL.mp hz with h | h
       .exact wG.mpr (.inl (b4 z h q hq))
       .rw[zR.mp h] at hq
        exact wG.mpr (.inr hq)
     .rintro σ H4 ⟨v5,J,rfl,U,ak,ab,g4,a4,b4⟩
      rw[zm,qY] at b4;refine{_,_,_,rfl,U,ab,g4,λx q hq=>?_,λx hx=>?_}
      .show q∈(if x=p then J else u x)
       by_cases c:x=p
       .rw[zt c]
        subst c;exact a4 q (Y x q hq)
       .rw[zq c]
        exact Y x q hq
      .by_cases c:x=p
       .subst c
        intro q k h1 h2 wk;show q∈(if x=x then J else u x)
        rw[zt rfl];exact zeb ah f2 hp Y a4 b4 q k h1 (by rw[Nat.pow_succ,Nat.mul_comm] at h2;exact h2) wk
       .have:=f3 x ()
        intro q k h1 h2 wk;show q∈(if x=p then J else u x)
        rw[zq c];exact this q k h1 h2 wk
    .rintro σ H3 ⟨v4,v5,u,rfl,ac,ai,g3,Y,f3⟩
     rw[jC] at f3;exact{_,_,_,u,rfl,ac,ai,g3,f3}
   .rintro σ O ⟨v3,v4,v5,κ,rfl,af,aa,g2,f2⟩
    have all:∀(p:Nat),p<n->∀j,j∈κ p↔∃k,1<=k/\Wk I k j p:=λp hp j=>{λh=>(g2 p).2 j h,λ⟨k,h1,wk⟩=>f2 p hp j k h1 (by have:=wk.rank au;have:=ar (p:Int);show k<=128;omega) wk}
    refine{_,rfl,F,rfl,{_,u5 af},vy (K:=K) (a:=F) (xs:=C.map V.ref) (λi zs H3=>Ex1 λ(D:List 0#y)=>An4 (D.length=i) (Rws H H3 D zs) (Same O H3) (∀p ms,D[p]? =some ms->ms.Pairwise (·< ·)/\∀j,j∈ms↔j∈κ p)) {[],rfl,{rfl,λp ms e=>by simp at e},u7 _,λp ms e=>by simp at e} (λi zs H3 ⟨_,_,_,G,_⟩=>u5 (G _ _ af)) ?_ ?_}
    .rintro i x zs H3 hx ⟨D,lm,rm,G,am⟩
     rw[zT] at hx;obtain⟨d,ed,rfl⟩:=qy.mp hx;have hi:=(zO.mp ed).1;have hd:=G _ _ (aa.at_ i d ed).2;have lk:(κ i).length<=60:=by
      have:=yy (n:=n) (g2 i).1 λq hq=>let ⟨k,h1,w⟩:=(g2 i).2 q hq;Wk.in1 ah h1 w
      omega
     have ek:dkB (κ i)=((κ i).map λj=>(j,V.bl true)).map λkv=>(Sum.inl kv.1,kv.2):=by unfold dkB;rw[qK];rfl
     have aw:((κ i).map λj=>(j,V.bl true)).map (·.1)=κ i:=by rw[qK];exact List.map_id'' (λ_=>rfl) _
     refine{rfl,_,rfl,d,(κ i).map λj=>(j,V.bl true),rfl,.inl (by rw[<- ek];exact hd),by rw[zm];omega,λl ms hl pm pw=>{?_,D++[ms],by rw[qu,lm];rfl,?_,G.trans (zb hl),λp ay e=>?_}}
     .have:=rm.1
      omega
     .exact(rm.same (zb hl)).snoc ((aa.sm.trans G).free hl) zd
     .rw[aw] at pm
      by_cases c:p<D.length
      .rw[x6 c] at e
       exact am p ay e
      .rw[xr ()] at e
       have:p=D.length:=by
        have:=(zO.mp e).1;simp at this;omega
       subst this;simp at e;subst e;rw[lm];exact{zeC pm (g2 i).1 pw,λj=>pm.mem_iff}
    .rintro zs H3 ⟨D,lm,rm,G,am⟩
     rw[lr] at lm;have lz:=rm.1;refine{(),λl hl=>k l D _ ((aa.sm.trans G).trans (zb hl)) ?_ {zs,zd,rm.same (zb hl)} lm λp ms e=>?_}
     .cases z:H l with
      | none=>rfl
      | some o'=>rw[(aa.sm.trans G) _ _ z] at hl;cases hl
     .have hp:=(zO.mp e).1
      obtain⟨a,b⟩:=am p ms e;exact{a,λj=>by rw[b j,all p () j]}
abbrev St3:=List Nat×List Nat×Pl
def t3K(s:St3):TKy:=(kPs s.1,kPs s.2.1,plK s.2.2)
theorem Wz:∀{a b:List Nat},kPs a=kPs b->a=b
 | [],[],_=>rfl
 | [],_::_,h=>nomatch h
 | _::_,[],h=>nomatch h
 | x::a,y::b,h=>by
  obtain⟨h1,h2⟩:=List.cons.inj h;have:=xa h1;rw[Wz h2,show x=y by omega]
theorem zb9{s t:St3}(h:t3K s=t3K t):s=t:=by
 obtain⟨a,b,c⟩:=s;obtain⟨e,f,o⟩:=t;have h1:=Wz (yJ h).1;have h2:=Wz (yJ (yJ h).2).1;have h3:=zcI (yJ (yJ h).2).2;cases h1;cases h2;cases h3;rfl
def jN(e S:List Nat)(n:Nat):List Nat:=e.filter λx=>decide (x∈S\/x=n)
theorem V4{f S:List Nat}{n:Nat}(u:f.Nodup)(B:S.Nodup)(A:∀x∈S,x∈f)(t:n∈f)(h:n∉S):(jN f S n).Perm (S++[n]):=by
 refine(zbZ (u.filter _) (ZV.mpr {B,1e3,λa o b hb=>by cases zR.mp hb;exactλz=>h (by rw[<- z];exact o)})).mpr λa=>?_
 rw[xO,qL,zR,ZY];exact{λz=>z.2,λz=>{z.elim (A a) (λe=>by rw[e];exact t),z}}
theorem V3{f S:List Nat}{n:Nat}{o:List Int}(e:f.Pairwise (·< ·))(D:S.Nodup)(C:∀x∈S,x∈f)(t:n∈f)(h:n∉S)(A:o.Perm (zL (S++[n])))(B:o.Pairwise (·<= ·)):o=zL (jN f S n):=by
 have u:f.Nodup:=e.imp λ{a b} z=>()
 refine List.Perm.eq_of_pairwise (le:=(·<= ·)) (λa b _ _ h1 h2=>()) B ?_ (A.trans ((V4 u D C t h).map _).symm)
 refine yS.mpr ((e.filter _).imp λ{a b} z=>?_)
 omega
def nxS(J:Job)(e:List Nat)(t:List Int)(s:St3)(n:Nat):List St3:=
 if s.1.length<e.length then if n∈s.1 then [] else(J.fs.filter λf=>decide (some f.k=pkd J n)).map λf=>(jN e s.1 n,s.2.1,(f.x,f.y))
 else if n∈s.2.1\/∃o∈t,o∈zL e/\o∉zL s.2.1 then [] else [(s.1,jN e s.2.1 n,ppl J n)]
def StsAt(K:W.Frag)(H:Hp)(e:List Addr)(f:List St3):Prop:=e.length=f.length/\∀(i:Nat) a s,e[i]? =some a->f[i]? =some s->TrAt K H (t3K s) a
theorem StsAt.same{H o:Hp}{A:List Addr}{E:List St3}(h:StsAt K H A E)(s:Same H o):StsAt K o A E:={h.1,λi a t e f=>let ⟨B,C,D,x,y,z,u⟩:=h.2 i a t e f;{B,C,D,s.sqT x,s.sqT y,s.sqT z,s.sqT u}}
theorem StsAt.snoc{H:Hp}{as:List Addr}{ss:List St3}{a:Addr}{t:St3}(h:StsAt K H as ss)(r:TrAt K H (t3K t) a):StsAt K H (as++[a]) (ss++[t]):=by
 refine{by rw[qu,qu,h.1];rfl,λi b u e f=>?_}
 by_cases c:i<as.length
 .rw[x6 c] at e
  rw[x6 (by rw[<- h.1];exact c)] at f
  exact h.2 i b u e f
 .rw[xr ()] at e
  rw[xr (by rw[<- h.1];omega),<- h.1] at f
  have z:i-as.length=0:=by
   have:=(zO.mp e).1;simp at this;omega
  rw[z] at e f;cases e;cases f;exact r
theorem nkI(l:List Nat):(zL l).map V.int=(kPs l).map kV:=by unfold zL kPs;rw[qK,qK];rfl
def RowsAt(H:Hp)(t:Addr)(e:List (List Int)):Prop:=∃o,H t=some (.lst o)/\∀(p:Nat) (f:List Int),e[p]? =some f->∃a,o[p]? =some (.ref a)/\H a=some (.lst (f.map V.int))
theorem RowsAt.same{H t:Hp}{u:Addr}{o:List 0#y}(h:RowsAt H u o)(s:Same H t):RowsAt t u o:=let ⟨B,a,b⟩:=h;{B,s _ _ a,λp A e=>let ⟨c,d,f⟩:=b p A e;{c,d,s _ _ f}}
theorem TrAt.same{H e:Hp}{k:TKy}{a:Addr}(h:TrAt K H k a)(s:Same H e):TrAt K e k a:=let ⟨B,C,D,a,b,c,d⟩:=h;{B,C,D,s.sqT a,s.sqT b,s.sqT c,s.sqT d}
theorem JC(x:Int):∀l:List Int,inV (.int x) (l.map V.int)=decide (x∈l)
 | []=>by simp[inV]
 | y::l=>by
  show((y==x)||inV (.int x) (l.map V.int))=_
  rw[JC x l];by_cases h:y=x
  .subst h;simp
  .have:¬x=y:=λz=>h z.symm
   simp[h,this]
theorem wF{f:List Nat}{n:Nat}:(n:Int)∈zL f↔n∈f:=by
 unfold zL;rw[zA];exact{λ⟨b,hb,e⟩=>by rw[show n=b by omega];exact hb,λh=>⟨n,h,rfl⟩}
theorem jU(e:List Nat):qm e=(zL e).map V.int:=by unfold qm zL;rw[qK];rfl
inductive JN(K:W.Frag)(G:List V)(H:Hp)(Q:VK):Prop
 | mk (B D C A E ld:Addr) (J:Job) (e:List Nat) (f:List 0#y) (t:List Int) (s:St3) (n:Nat) (_:G=[.ref B,.ref D,.ref C,.ref A,.int (n:Int)]) (_:Rep K H (xJ J) (.ref B)) (_:J.fs.length<=100) (_:H D=some (.lst (qm e))) (_:RowsAt H C f) (_:f[n]? =some t) (_:t.length<=60) (_:SqT K H A [.ref E,.ref ld]) (_:SqT K H E (qm s.1)) (_:SqT K H ld (qm s.2.1)) (_:e.Pairwise (·< ·)) (_:e.length<=6) (_:(∀m∈e,m<J.ps.length)) (_:List.Sublist s.1 e) (_:List.Sublist s.2.1 e) (_:n∈e) (_:∀(l:Addr) (u:List Addr) o,Same H o->o l=some (.lst (u.map V.ref))->StsAt K o u (nxS J e t s n)->Q (.ref l) o):JN K G H Q
def YC(K:W.Frag):Sp:=λe H Q _=>JN K e H Q
theorem YQ:zM ["_law_job_here","_law_parts","_law_over_here","_law_done","_law_part","_law_picked","_law_laid","_law_more"] ["_law_job_here","_law_parts","_law_over_here","_law_done","_law_part"] (zv (topL 31)):=u4
theorem zdY{f:Addr}{fd:FuncData}(F:Fun K "_law_states" "_law_states" (topL 31) f fd)(B:Blt N):FnOk P w K N M CX0 1 f fd ["_law_job_here","_law_parts","_law_over_here","_law_done","_law_part"] (YC K):=by
 have nd:=YQ.nd;refine F.ok YQ 0#i (λbf A bb s H vs Q E hr h=>?_)
 .obtain⟨jp,pa,ol,dn,pk,ld,J,t,az,C,st,n,rfl,_⟩:=h
  rfl
 .obtain⟨jp,pa,ol,dn,pk,ld,J,t,az,C,st,n,rfl,rj,jl,hp,ro,ax,bh,qd,qk,ql,af,n6,b0,ai,aj,hn,k⟩:=h
  have bg:=Zo hr;have sz:sizeLine=16777216:=sizeLine_eq;obtain⟨g,fs,ps,as,fv,bi,qj,rg,qf,rf,qp,rp,_⟩:=jg rj;have ba:=b0 n hn;have ae:J.ps[n]? =some J.ps[n]:=by simp[ba]
  generalize J.ps[n]=pn at ae;obtain⟨v,hv,rv⟩:=w6 rp ae;obtain⟨fa,fc,rfl,ap,bc⟩:=wD rv;have ao:t.Nodup:=af.imp λ{a b} z=>()
  have u:∀l:List Nat,(qm l).all xB=true:=λl=>by rw[jU,List.all_map];exact xD.mpr λx _=>rfl
  have am:∀l:List Nat,inV (.int (n:Int)) (qm l)=decide (n∈l):=λl=>by rw[jU,JC];exact decide_eq_decide.mpr wF
  refine{_,(zi (JU (pv 3) (jP rfl (zD (zy (i:=5) nd rfl 0#z) (zD (zy (i:=6) nd rfl (Or.inr rfl)) jw))))
   (zi (xu (qG Y1 (zr zC rfl B.len boot_len (za (pv 5) ze)) (zr zC rfl B.len boot_len 0#K) (qO _))
   (zi (xu (qG y8 (pv 4) (pv 5) (by with_unfolding_all rfl))
    (zp (zJ (je ze)))
    jk)
    (zi (zI (i:=7) nd rfl (Or.inr rfl) (qh jc rfl B.tuple ja (za (zr xW rfl B.sorted jF (za (zE Wq (pv 5) (qD (za (pv 4) ze))) ze)) ze)))
    (zp (zJ (jT ["_law_more","_law_laid","_law_part","_law_job_here"] [7,6,4,0] rfl rfl (by kernel_rfl) (xx 0#B) (λ_ _ _ _=>(ZC (qG Zm (zu 0#u (pv 0) zf 0#d) (zu 0#u (zu 0#u (zu 0#u (pv 4) zf 0#d) (pv 3) 0#d) zf 0#d) (qO _)))) (λ_ _ _ _=>(qD (za (pv 1) (za (pv 2) (za (zu 0#u (pv 0) zf 0#d) ze))))))))))
   jk)
   (zi (xu (PW.pt (ya (qG y8 (pv 4) (pv 6) (by with_unfolding_all rfl)) (yr (xQ (zr (QF rfl) rfl B.any Xu (za (jT ["_law_parts","_law_laid"] [1,6] rfl rfl (by kernel_rfl) (qW (zu qR (pv 2) (pv 4) 0#d)) 0#v (λ_ _ _ _=>(za5 (xz (ZE (K:=K) rfl) (pv 0) (pv 1) (by with_unfolding_all rfl)) (za2 (xz (X6 (K:=K) rfl) (pv 0) (pv 2) (by with_unfolding_all rfl)))))) ze))))))
   (zp (zJ (je ze)))
   jk)
   (zp (zJ (je (za (qD (za (pv 5) (za (qh jc rfl B.tuple ja (za (zr xW rfl B.sorted jF (za (zE Wq (pv 6) (qD (za (pv 4) ze))) ze)) ze)) (za (zu zF (zu zF 0#B (pv 4) 0#d) zf 0#d) ze)))) ze))))))),?_}
  refine{_,rfl,dn,_,rfl,qd,rfl,_,_,rfl,_,_,rfl,rfl,?_}
  refine{_,rfl,pk,_,rfl,.inr qk,_,rfl,pa,_,rfl,.inl (u5 hp),_,_,rfl,rfl,_,rfl,?_}
  rw[zU,zU];refine wo (λc=>?_) (λc=>?_)
  .have c':st.1.length<t.length:=by simpa using c
   refine{_,rfl,_,rfl,pk,qm st.1,rfl,.inr qk,rfl,u st.1,_,rfl,?_}
   rw[am st.1];refine wo (λd=>?_) (λd=>?_)
   .have G:n∈st.1:=by simpa using d
    refine{by show 0<=_;omega,λl U=>k l [] _ (zb U) zd ?_}
    rw[show nxS J t C st n=[] by unfold nxS;rw[zt c',zt G]]
    exact{rfl,λi a s h=>by simp at h}
   .have G:n∉st.1:=by simpa using d
    have ls:=ai.length_le;refine{_,rfl,_,rfl,(by show 1<=_;omega),λq1 Y=>{pk,q1,_,_,rfl,rfl,(zb Y).sqT qk,u6 zd,(by rw[zU];show _+1<=_;omega),λq2 H2 s2 aa=>?_}}
    rw[show qm st.1++[V.int (n:Int)]=(zL (st.1++[n])).map V.int by rw[<- jU];unfold qm;rw[zG];rfl] at aa
    have ah:=(zb Y).trans s2;refine{q2,zL (st.1++[n]),rfl,aa,(by unfold zL;rw[zm,qu];show _+1<_;omega),λq3 ms ag pm pw=>?_}
    have em:=V3 af (ai.nodup ao) (λx hx=>ai.subset hx) hn G pm pw
    subst em;refine{q3,_,rfl,.inl {u5 zd,λR hR=>?_}}
    have D:Same H (upd (upd H2 q3 (.lst ((zL (jN t st.1 n)).map V.int))) R (.tup ((zL (jN t st.1 n)).map V.int))):=ah.trans ((zb ag).trans (zb hR));have O:upd (upd H2 q3 (.lst ((zL (jN t st.1 n)).map V.int))) R (.tup ((zL (jN t st.1 n)).map V.int)) R=some (.tup ((zL (jN t st.1 n)).map V.int)):=zd;generalize upd (upd H2 q3 (.lst ((zL (jN t st.1 n)).map V.int))) R (.tup ((zL (jN t st.1 n)).map V.int))=H3 at D O;have el:=rf.len;rw[zm] at el;refine{_,rfl,jp,_,_,_,rfl,rfl,D.sqT qj,rfl,fs,rfl,{_,D.sqT qf},vM (K:=K) (a:=fs) (xs:=fv) (λj zs I=>Ex1 λ(as:List Addr)=>An4 (zs=as.map V.ref) (as.length<=j) (Same H3 I) (StsAt K I as (((J.fs.take j).filter λf=>decide (some f.k=pkd J n)).map λf=>(jN t st.1 n,st.2.1,(f.x,f.y))))) {[],rfl,zx _,u7 _,rfl,λi a s h=>by simp at h} (λj zs I ⟨_,_,_,s5,_⟩=>(D.trans s5).sqT qf) ?_ ?_}
    .rintro j x zs I hx ⟨ac,rfl,ar,s5,sa⟩
     have ab:=D.trans s5;have ay:=(zO.mp hx).1;obtain⟨dd,ak,rx⟩:=(rf.same ab).get hx;rw[zT] at ak;obtain⟨fe,au,rfl⟩:=qy.mp ak;obtain⟨ga,gc,rfl,aq,bd⟩:=vF rx;have ek:pkd J n=some pn.k:=by unfold pkd;rw[ae];rfl
     rw[qF au,Qn,zG];refine{rfl,?_}
     refine{_,rfl,ga,_,_,_,rfl,rfl,aq,rfl,_,rfl,jp,_,_,_,rfl,rfl,ab.sqT qj,rfl,_,rfl,ps,_,_,_,rfl,rfl,ab.sqT qp,jI hv,fa,_,_,_,rfl,rfl,ab.sqT ap,rfl,rfl,_,rfl,wo (λd=>?_) (λd=>?_)}
     .have G:fe.k=pn.k:=by simpa using d
      refine{_,rfl,_,rfl,_,rfl,ga,_,_,_,rfl,rfl,aq,rfl,(by show 3<=_;omega),λT hT=>{by rw[zm];omega,ac++[T],by rw[zG];rfl,by rw[qu];show _+1<=_;omega,s5.trans (zb hT),?_}}
      rw[Xz (by rw[ek,G];exact zY rfl)]
      refine(sa.same (zb hT)).snoc {R,ld,gc,u6 zd,?_,?_,(zb hT).sqT bd}
      .show SqT K _ R ((kPs (jN t st.1 n)).map kV)
       rw[<- nkI];exact u6 (zb hT _ _ (s5 _ _ O))
      .show SqT K _ ld ((kPs st.2.1).map kV)
       rw[<- nkI,<- jU];exact(ab.trans (zb hT)).sqT ql
     .have G:¬fe.k=pn.k:=by simpa using d
      rw[Z3 (by rw[ek];exactλz=>G (jL (xF z)))]
      exact{ac,rfl,(),s5,by simpa using sa}
    .rintro zs I ⟨ac,rfl,ar,s5,sa⟩
     rw[el,qY] at sa;refine{by rw[zm];omega,λl U=>k l ac _ ((D.trans s5).trans (zb U)) zd ?_}
     rw[show nxS J t C st n=(J.fs.filter λf=>decide (some f.k=pkd J n)).map λf=>(jN t st.1 n,st.2.1,(f.x,f.y)) by unfold nxS;rw[zt c',zq G]]
     exact sa.same (zb U)
  .have c':¬st.1.length<t.length:=by simpa using c
   refine{_,rfl,_,rfl,ld,qm st.2.1,rfl,.inr ql,rfl,u st.2.1,_,rfl,?_}
   show if inV (.int (n:Int)) (qm st.2.1)=true then _ else _
   rw[am st.2.1];refine wo (λd=>?_) (λd=>?_)
   .have G:n∈st.2.1:=by simpa using d
    refine wo (λ_=>?_) (λz=>(nomatch z))
    refine{by show 0<=_;omega,λl U=>k l [] _ (zb U) zd ?_}
    rw[show nxS J t C st n=[] by unfold nxS;rw[zq c',zt (.inl G)]]
    exact{rfl,λi a s h=>by simp at h}
   .have G:n∉st.2.1:=by simpa using d
    obtain⟨zo,aw,be⟩:=ro;obtain⟨oa,av,al⟩:=be n C ax;refine{_,rfl,_,rfl,ol,_,_,_,rfl,rfl,u5 aw,jI av,oa,rfl,{_,u5 al},vy (K:=K) (a:=oa) (xs:=C.map V.int) (λj zs I=>zs=((C.take j).map λo=>V.bl 0#L)/\I=H) ⟨rfl,rfl⟩ (λj zs I ⟨_,h5⟩=>by rw[h5];exact u5 al) ?_ ?_}
    .rintro j x zs I hx ⟨rfl,rfl⟩
     rw[zT] at hx;obtain⟨o,ho,rfl⟩:=qy.mp hx;have ay:=(zO.mp ho).1;refine{rfl,_,rfl,_,rfl,pa,qm t,rfl,.inl (u5 hp),rfl,u t,?_}
     have an:∀l:List Nat,inV (.int o) (qm l)=decide (o∈zL l):=λl=>by rw[jU,JC]
     have zl:((C.take j).map λo=>V.bl 0#L).length<sizeLine:=by rw[zm,jb];omega
     rw[qF ho,zG];refine{_,rfl,?_}
     show if inV (.int o) (qm t)=true then _ else _
     rw[an t];refine wo (λd1=>?_) (λd1=>?_)
     .refine{_,rfl,_,rfl,ld,qm st.2.1,rfl,.inr ql,rfl,u st.2.1,zl,?_,rfl}
      show _++[V.bl (!inV (.int o) (qm st.2.1))]=_++[V.bl 0#L];rw[an st.2.1,d1];rfl
     .refine{zl,?_,rfl}
      show _++[V.bl false]=_++[V.bl 0#L];rw[show decide (o∈zL t)=false by simpa using d1];rfl
    .rintro zs I ⟨hz,rfl⟩
     rw[zm,qY] at hz;subst hz;refine{by rw[zm];omega,λL hL=>{L,C.map λo=>decide (o∈zL t)&&!decide (o∈zL st.2.1),rfl,u5 (by rw[qK];exact zd),_,rfl,?_}}
     have sL:=zb (o:=.lst (C.map λo=>V.bl 0#L)) hL
     generalize upd I L (.lst (C.map λo=>V.bl 0#L))=H6 at sL
     refine wo (λe=>?_) (λe=>?_)
     .have e':∃o∈C,o∈zL t/\o∉zL st.2.1:=by simpa using e
      refine{by show 0<=_;omega,λl U=>k l [] _ (sL.trans (zb U)) zd ?_}
      rw[show nxS J t C st n=[] by unfold nxS;rw[zq c',zt (.inr e')]]
      exact{rfl,λi a s h=>by simp at h}
     .have e':¬∃o∈C,o∈zL t/\o∉zL st.2.1:=by simpa using e
      have ls:=aj.length_le;refine{_,rfl,_,rfl,_,rfl,(by show 1<=_;omega),λq1 Y=>{ld,q1,_,_,rfl,rfl,(sL.trans (zb Y)).sqT ql,u6 zd,(by rw[zU];show _+1<=_;omega),λq2 H2 s2 aa=>?_}}
      rw[show qm st.2.1++[V.int (n:Int)]=(zL (st.2.1++[n])).map V.int by rw[<- jU];unfold qm;rw[zG];rfl] at aa
      have ah:=(sL.trans (zb Y)).trans s2;refine{q2,zL (st.2.1++[n]),rfl,aa,(by unfold zL;rw[zm,qu];show _+1<_;omega),λq3 ms ag pm pw=>?_}
      have em:=V3 af (aj.nodup ao) (λx hx=>aj.subset hx) hn G pm pw
      subst em;refine{q3,_,rfl,.inl {u5 zd,λR hR=>?_}}
      have D:Same I (upd (upd H2 q3 (.lst ((zL (jN t st.2.1 n)).map V.int))) R (.tup ((zL (jN t st.2.1 n)).map V.int))):=ah.trans ((zb ag).trans (zb hR));have O:upd (upd H2 q3 (.lst ((zL (jN t st.2.1 n)).map V.int))) R (.tup ((zL (jN t st.2.1 n)).map V.int)) R=some (.tup ((zL (jN t st.2.1 n)).map V.int)):=zd;generalize upd (upd H2 q3 (.lst ((zL (jN t st.2.1 n)).map V.int))) R (.tup ((zL (jN t st.2.1 n)).map V.int))=H3 at D O;refine{_,rfl,jp,_,_,_,rfl,rfl,D.sqT qj,rfl,_,rfl,ps,_,_,_,rfl,rfl,D.sqT qp,jI hv,fa,_,_,_,rfl,rfl,D.sqT ap,rfl,(by show 3<=_;omega),λT hT=>{(by show 1<=_;omega),λl U=>?_}}
      have s4:=(zb (o:=.tup [.ref pk,.ref R,.ref fc]) hT).trans (zb (o:=.lst [.ref T]) U);refine k l [T] _ (D.trans s4) zd ?_
      rw[show nxS J t C st n=[(st.1,jN t st.2.1 n,ppl J n)] by unfold nxS;rw[zq c',zq (λz=>z.elim G e')]]
      refine StsAt.snoc (as:=[]) (ss:=[]) {rfl,λi a s h=>by simp at h} {pk,R,fc,u6 (zb U _ _ zd),?_,?_,?_}
      .show SqT K _ pk ((kPs st.1).map kV)
       rw[<- nkI,<- jU];exact(D.trans s4).sqT qk
      .show SqT K _ R ((kPs (jN t st.2.1 n)).map kV)
       rw[<- nkI];exact u6 (s4 _ _ O)
      .show SqT K _ fc ((plK (ppl J n)).map kV)
       rw[show ppl J n=(pn.x,pn.y) by unfold ppl;rw[ae];rfl]
       exact(D.trans s4).sqT bc
abbrev LnE:=St3×Int
inductive Ln(J:Job)(o:List Nat)(f:List 0#y):Nat->LnE->Prop
 | zero:Ln J o f 0 (([],[],gate J),0)
 | succ (k:Nat) (e:LnE) (n:Nat) (s:St3) (_:Ln J o f k e) (_:n∈o) (_:s∈nxS J o (f.getD n []) e.1 n):Ln J o f (k+1) (s,e.2+zQ e.1.2.2 s.2.2)
def cdL(J:Job)(o:List Nat)(f:List 0#y)(e:LnE)(n:Nat):List LnE:=(nxS J o (f.getD n []) e.1 n).map λs=>(s,e.2+zQ e.1.2.2 s.2.2)
def WK(J:Job)(o:List Nat)(f:List 0#y)(t:List LnE):List LnE:=t.flatMap λe=>o.flatMap (cdL J o f e)
def BsL(f o:List LnE):Prop:=(∀e∈o,e∈f)/\∀c∈f,∃e∈o,e.1=c.1/\e.2<=c.2
theorem BsL.nil:BsL [] []:={(λ_ h=>nomatch h),(λ_ h=>nomatch h)}
theorem BsL.snoc{f o:List LnE}{c:LnE}(h:BsL f o):BsL (f++[c]) (o++[c]):=by
 refine{λe t=>?_,λd hd=>?_}
 .rcases qL.mp t with a | a
  .exact jK _ (h.1 e a)
  .exact zZ _ a
 .rcases qL.mp hd with a | a
  .obtain⟨e,x,y⟩:=h.2 d a
   exact{e,jK _ x,y}
  .cases zR.mp a
   exact{c,zZ _ (zR.mpr rfl),rfl,vd _}
theorem Wt{f:List LnE}(A:(f.map Prod.fst).Nodup){a b:LnE}(t:a∈f)(hb:b∈f)(e:a.1=b.1):a=b:=by
 obtain⟨i,o,rfl⟩:=XO t;obtain⟨j,u,rfl⟩:=XO hb;have e1:(f.map Prod.fst)[i]? =some f[i].1:=by simp[o]
 have e2:(f.map Prod.fst)[j]? =some f[i].1:=by rw[e];simp[u]
 have:=(XL (by rw[zm];exact o) A).mp (e1.trans e2.symm)
 subst this;rfl
def reL(f:List LnE)(c:St3)(v:Int):List LnE:=f.map λe=>if e.1=c then(e.1,v) else e
theorem ze6(f:List LnE)(c:St3)(v:Int):(reL f c v).map Prod.fst=f.map Prod.fst:=by
 unfold reL;rw[qK];refine QR λe _=>?_
 show(if e.1=c then(e.1,v) else e).1=e.1
 split<;>rfl
theorem BsL.re{t o:List LnE}{c f:LnE}{v:Int}(h:BsL t o)(A:(o.map Prod.fst).Nodup)(h0:f∈o)(e:f.1=c.1)(D:v=f.2\/v=c.2)(E:v<=f.2)(G:v<=c.2):BsL (t++[c]) (reL o c.1 v):=by
 have u:(c.1,v)∈reL o c.1 v:=zA.mpr {f,h0,by rw[zt e,e]}
 refine{λd hd=>?_,λd hd=>?_}
 .obtain⟨x,hx,rfl⟩:=zA.mp hd
  by_cases z:x.1=c.1
  .rw[zt z]
   cases Wt A hx h0 (z.trans e.symm);rcases D with r | r
   .rw[r];exact jK _ (h.1 _ h0)
   .rw[r,z];exact zZ _ (zR.mpr rfl)
  .rw[zq z];exact jK _ (h.1 _ hx)
 .rcases qL.mp hd with a | a
  .obtain⟨x,hx,B,C⟩:=h.2 d a
   by_cases z:x.1=c.1
   .cases Wt A hx h0 (z.trans e.symm)
    exact{_,u,z.symm.trans B,yL E C}
   .exact{x,zA.mpr {x,hx,zq z},B,C}
  .cases zR.mp a
   exact{_,u,rfl,G}
def BnL(J:Job)(t:List Nat)(f:List 0#y)(k:Nat)(o:List LnE):Prop:=(∀e∈o,Ln J t f k e)/\∀c,Ln J t f k c->∃e∈o,e.1=c.1/\e.2<=c.2
theorem zab{J:Job}{o:List Nat}{f:List 0#y}{t:List LnE}{c:LnE}:c∈WK J o f t↔∃e∈t,∃n∈o,∃s∈nxS J o (f.getD n []) e.1 n,(s,e.2+zQ e.1.2.2 s.2.2)=c:=by
 unfold WK;rw[vO];refine exists_congr λe=>and_congr_right λ_=>?_
 rw[vO];refine exists_congr λn=>and_congr_right λ_=>?_
 unfold cdL;rw[zA]
theorem BnL.step{J:Job}{B:List Nat}{o:List 0#y}{k:Nat}{D E:List LnE}(h:BnL J B o k D)(b:BsL (WK J B o D) E):BnL J B o (k+1) E:=by
 refine{λe t=>?_,λc hc=>?_}
 .obtain⟨C,h0,n,u,s,A,rfl⟩:=zab.mp (b.1 e t)
  exact .succ k C n s (h.1 C h0) u A
 .cases hc with
  | succ _ e n s t u A=>
   obtain⟨e1,h1,G,L⟩:=h.2 e t;obtain⟨f,H,I,O⟩:=b.2 (s,e1.2+zQ e1.1.2.2 s.2.2) (zab.mpr {e1,h1,n,u,s,by rw[G];exact A,rfl})
   refine{f,H,I,yL O ?_}
   show e1.2+zQ e1.1.2.2 s.2.2<=e.2+zQ e.1.2.2 s.2.2;rw[G];exact zbO L _
def InB(p:Pl):Prop:=0<=p.1/\p.1<=1000/\0<=p.2/\p.2<=1000
theorem zaI{p q:Pl}(hp:InB p)(hq:InB q):0<=zQ p q/\zQ p q<=1000:=by
 obtain⟨a,b,c,d⟩:=hp;obtain⟨e,f,o,t⟩:=hq;unfold zQ zgM Zk;constructor
 .split<;>split<;>omega
 .split<;>split<;>omega
def zgH(J:Job):Prop:=InB (gate J)/\(∀f∈J.fs,InB (f.x,f.y))/\∀p∈J.ps,InB (p.x,p.y)
def Jp(J:Job)(e:List Nat):List Pl:=gate J::(wU J++e.map (ppl J))
theorem VJ{J:Job}{e:List Nat}{A:List Int}{s t:St3}{n:Nat}(s1:List.Sublist s.1 e)(s2:List.Sublist s.2.1 e)(u:n∈e)(h:t∈nxS J e A s n):List.Sublist t.1 e/\List.Sublist t.2.1 e/\t.2.2∈Jp J e:=by
 unfold nxS at h;split at h
 .split at h
  .cases h
  .obtain⟨f,o,rfl⟩:=zA.mp h
   exact{W7,s2,jf _ (jK _ (zA.mpr {f,(xO.mp o).1,rfl}))}
 .split at h
  .cases h
  .cases zR.mp h
   exact{s1,W7,jf _ (zZ _ (zA.mpr ⟨n,u,rfl⟩))}
theorem Ln.shape{J:Job}{f:List Nat}{o:List 0#y}{k:Nat}{e:LnE}(h:Ln J f o k e):List.Sublist e.1.1 f/\List.Sublist e.1.2.1 f/\e.1.2.2∈Jp J f:=by
 induction h with
 | zero=>exact{WW _,WW _,by simp[Jp]}
 | succ k e n s _ u A t=>exact VJ t.1 t.2.1 u A
theorem Wn{J:Job}{o:List Nat}(h:zgH J)(u:∀n∈o,n<J.ps.length):∀p∈Jp J o,InB p:=λp hp=>by
 rcases zP.mp hp with rfl | hp
 .exact h.1
 rcases qL.mp hp with m | m
 .obtain⟨f,t,rfl⟩:=zA.mp m
  exact h.2.1 f t
 .obtain⟨n,e,rfl⟩:=zA.mp m
  have:=u n e;rw[show ppl J n=(J.ps[n].x,J.ps[n].y) by unfold ppl;simp[this]]
  exact h.2.2 _ (xP _)
theorem Ln.le{J:Job}{B:List Nat}{o:List 0#y}{k:Nat}{e:LnE}(t:zgH J)(A:∀n∈B,n<J.ps.length)(h:Ln J B o k e):e.2<=1000*(k:Int):=by
 induction h with
 | zero=>exact(show(0:Int)<=1000*((0:Nat):Int) by omega)
 | succ k e n s u f C D=>
  have:=(zaI (Wn t A _ u.shape.2.2) (Wn t A _ (Ln.succ k e n s u f C).shape.2.2)).2;show e.2+zQ e.1.2.2 s.2.2<=_;have this:zQ e.1.2.2 s.2.2<=1000:=this;omega
def stU(J:Job)(e:List Nat):List St3:=(X1 e).flatMap λa=>(X1 e).flatMap λb=>(Jp J e).map λp=>(a,b,p)
theorem zbj{α β:Type}(f:α->List β)(m:Nat)(e:∀a,(f a).length=m):∀l:List α,(l.flatMap f).length=l.length*m
 | []=>1e3
 | a::l=>by rw[W1,qu,e,zbj f m e l,qH,Nat.succ_mul,Nat.add_comm]
theorem zgW(J:Job)(e:List Nat):(stU J e).length=2^e.length*(2^e.length*(Jp J e).length):=by
 unfold stU;rw[zbj _ (2^e.length*(Jp J e).length) λa=>by rw[zbj _ (Jp J e).length λb=>by rw[zm],Qa],Qa]
theorem zcb{J:Job}{e:List Nat}{s:St3}(h:List.Sublist s.1 e/\List.Sublist s.2.1 e/\s.2.2∈Jp J e):s∈stU J e:=
 vO.mpr {s.1,yp h.1,vO.mpr {s.2.1,yp h.2.1,zA.mpr ⟨s.2.2,h.2.2,rfl⟩}}
structure LnAt(K:W.Frag)(H:Hp)(xs:TEs)(es:List LnE):Prop where
 len:xs.length=es.length
 nd:(es.map Prod.fst).Nodup
 at_:∀(i:Nat) x e,xs[i]? =some x->es[i]? =some e->x.1=t3K e.1/\x.2.2.1=e.2/\TrAt K H x.1 x.2.1
theorem LnAt.nil{H:Hp}:LnAt K H [] []:={rfl,vU,λi x e h=>by simp at h}
theorem TrAt.updX{H:Hp}{k:TKy}{a D:Addr}{φ:Heap->Prop}{o:HO}(h:TrAt K H k a)(z:H D=some (.ext φ)):TrAt K (upd H D o) k a:=let ⟨B,C,e,a,b,c,d⟩:=h;{B,C,e,a.updX z,b.updX z,c.updX z,d.updX z}
theorem StsAt.updX{H:Hp}{u:List Addr}{A:List St3}{D:Addr}{φ:Heap->Prop}{o:HO}(h:StsAt K H u A)(z:H D=some (.ext φ)):StsAt K (upd H D o) u A:={h.1,λi a t e f=>(h.2 i a t e f).updX z}
theorem LnAt.same{H o:Hp}{u:TEs}{t:List LnE}(h:LnAt K H u t)(s:Same H o):LnAt K o u t:={h.len,h.nd,λi x e a b=>let ⟨c,d,f⟩:=h.at_ i x e a b;{c,d,f.same s}}
theorem LnAt.updX{H:Hp}{D:Addr}{u:TEs}{t:List LnE}{φ:Heap->Prop}{o:HO}(h:LnAt K H u t)(z:H D=some (.ext φ)):LnAt K (upd H D o) u t:={h.len,h.nd,λi x e a b=>let ⟨c,d,f⟩:=h.at_ i x e a b;{c,d,f.updX z}}
theorem LnAt.get{H:Hp}{t:TEs}{f:List LnE}(h:LnAt K H t f){i:Nat}{x:TKy×Addr×Int×Tok}(hx:t[i]? =some x):∃e,f[i]? =some e/\x.1=t3K e.1/\x.2.2.1=e.2/\TrAt K H x.1 x.2.1:=by
 have o:=(zO.mp hx).1;rw[h.len] at o;exact{f[i],by simp[o],h.at_ i x _ hx (by simp[o])}
theorem LnAt.trs{H:Hp}{f:TEs}{o:List LnE}(h:LnAt K H f o):zaC K H f:=λx hx=>by
 obtain⟨i,t⟩:=vQ.mp hx;obtain⟨e,_,_,_,k⟩:=h.get t;exact k
theorem LnAt.look{H:Hp}{f:TEs}{t:List LnE}(h:LnAt K H f t)(p:St3):(lkT f (t3K p)=none/\∀e∈t,e.1≠p)\/∃q e,lkT f (t3K p)=some q/\e∈t/\e.1=p/\q.2.1=e.2:=by
 unfold lkT;cases z:f.find? λx=>decide (x.1=t3K p) with
 | none=>
  refine .inl {rfl,λe u q=>?_}
  obtain⟨i,o⟩:=vQ.mp u;have A:=(zO.mp o).1;rw[<- h.len] at A;have:=zbK.mp z f[i] (xP A);exact this (zY (by rw[<- q];exact(h.at_ i _ _ (by simp[A]) o).1))
 | some x=>
  have e1:=zbx z;obtain⟨i,o⟩:=vQ.mp (zbX z);obtain⟨e,u,a,b,_⟩:=h.get o;refine .inr {x.2,e,rfl,qw u,?_,b}
  have e2:=xF e1;rw[a] at e2;exact zb9 e2
theorem LnAt.new{H:Hp}{u:TEs}{A:List LnE}{c:LnE}{b:Addr}{t:Tok}(h:LnAt K H u A)(E:TrAt K H (t3K c.1) b)(G:lkT u (t3K c.1)=none)(ne:∀e∈A,e.1≠c.1):LnAt K H (stT u (t3K c.1) b (c.2,t)) (A++[c]):=by
 unfold stT;rw[G];refine{?_,?_,λi x e hx o=>?_}
 .show(u++[_]).length=_
  rw[qu,qu,h.len];rfl
 .rw[zG]
  refine ZV.mpr {h.nd,1e3,λa C d hd=>?_}
  obtain⟨e,o,rfl⟩:=zA.mp C;cases zR.mp hd;exact ne e o
 .have f:(u++[(t3K c.1,b,(c.2,t))])[i]? =some x:=hx
  by_cases B:i<u.length
  .rw[x6 B] at f
   rw[x6 (by rw[<- h.len];exact B)] at o
   exact h.at_ i x e f o
  .rw[xr ()] at f
   rw[xr (by rw[<- h.len];omega),<- h.len] at o
   have D:i-u.length=0:=by
    have:=(zO.mp f).1;simp at this;omega
   rw[D] at f o;cases f;cases o;exact⟨rfl,rfl,E⟩
theorem LnAt.old{H:Hp}{f:TEs}{D:List LnE}{c:St3}{b:Addr}{v:Int}{t:Tok}{p:Addr×Int×Tok}(h:LnAt K H f D)(B:lkT f (t3K c)=some p):LnAt K H (stT f (t3K c) b (v,t)) (reL D c v):=by
 unfold stT;rw[B];show LnAt K H (f.map _) _;refine{by unfold reL;rw[zm,zm,h.len],by rw[ze6];exact h.nd,λi x e hx o=>?_}
 rw[zT] at hx;obtain⟨E,A,rfl⟩:=qy.mp hx;unfold reL at o;rw[zT] at o;obtain⟨C,u,rfl⟩:=qy.mp o;obtain⟨a1,a2,a3⟩:=h.at_ i E C A u;by_cases z:C.1=c
 .rw[zt z,zt (by rw[a1,z])]
  exact⟨a1,rfl,a3⟩
 .rw[zq z,zq (λy=>z (by rw[a1] at y;exact zb9 y))]
  exact⟨a1,a2,a3⟩
end
end L2
set_option maxHeartbeats 800000
namespace L2
open PySem PySem.Spec PyProof.Rows
def zgG(J:Job)(o:List Nat)(f:List 0#y)(L:Int):Prop:=(∃e,Ln J o f (2*o.length) e/\L=e.2+zQ e.1.2.2 (gate J))/\∀e,Ln J o f (2*o.length) e->L<=e.2+zQ e.1.2.2 (gate J)
section
variable{P:Program}{w:World}{K:W.Frag}{G:Str->Option Value}{C:Heap}
def BdL(P:Program)(w:World)(K:W.Frag)(H:Hp)(L D N:Addr)(B:Obj)(f:TEs)(A:List LnE)(U:List St3)(e:Hp)(o:List LnE):Prop:=∃(E:Obj) (u:TEs) (t:List LnE),Same H e/\e L=some (.lst (f.map λx=>V.ref x.2.1))/\e D=some (dTr P w D B f)/\LnAt K e f A/\e N=some (dTr P w N E u)/\LnAt K e u t/\BsL o t/\∀c∈o,c.1∈U
theorem BdL.same{H:Hp}{L D N:Addr}{B:Obj}{E:TEs}{A:List LnE}{U:List St3}{t o:Hp}{u:List LnE}(h:BdL P w K H L D N B E A U t u)(s:Same t o):BdL P w K H L D N B E A U o u:=let ⟨J,M,I,a,b,c,d,e,f,g,i⟩:=h;{J,M,I,a.trans s,s _ _ b,s _ _ c,d.same s,s _ _ e,f.same s,g,i}
theorem BdL.sm{H:Hp}{L D N:Addr}{t:Obj}{u:TEs}{o:List LnE}{U:List St3}{e:Hp}{f:List LnE}(h:BdL P w K H L D N t u o U e f):Same H e:=let ⟨_,_,_,a,_⟩:=h;a
theorem zej(J:Job)(o:List Nat)(f:List 0#y)(t:List LnE)(e:LnE):WK J o f (t++[e])=WK J o f t++o.flatMap (cdL J o f e):=Ze _ _ _
inductive Vy(K:W.Frag)(E:List V)(H:Hp)(Q:VK):Prop
 | mk (u D A:Addr) (J:Job) (o:List Nat) (f:List 0#y) (_:E=[.ref u,.ref D,.ref A]) (_:Rep K H (xJ J) (.ref u)) (_:J.fs.length<=100) (_:zgH J) (_:H D=some (.lst (qm o))) (_:RowsAt H A f) (_:(∀n∈o,∃B,f[n]? =some B/\B.length<=60)) (_:o.Pairwise (·< ·)) (_:o.length<=6) (_:(∀m∈o,m<J.ps.length)) (_:(∃e,Ln J o f (2*o.length) e)) (_:∀(L:Int) t,Same H t->zgG J o f L->Q (.int L) t):Vy K E H Q
def We(K:W.Frag):Sp:=λe H Q _=>Vy K e H Q
theorem zcA:zM ["_law_job_here","_law_parts","_law_over_here","_law_known","_law_step","_law_nexts","_law_picked","_law_laid","_law_here","_law_far","_law_part","_law_state"] ["_law_job_here","_law_parts","_law_over_here"] (zv (topL 32)):=u4
theorem zfF{f:Addr}{fd:FuncData}(F:Fun K "_law_least_trip" "_law_least_trip" (topL 32) f fd)(B:Blt G)(ak:Dfn P w K G C "_law_way" 1 ["_law_one","_law_other"] (Vr K))(ag:Dfn P w K G C "_law_states" 1 ["_law_job_here","_law_parts","_law_over_here","_law_done","_law_part"] (YC K)):FnOk P w K G C CX0 2 f fd ["_law_job_here","_law_parts","_law_over_here"] (We K):=by
 have nd:=zcA.nd;refine F.ok zcA 0#i (λcy A cq s H vs Q E hr h=>?_)
 .obtain⟨jp,pa,ol,J,I,O,rfl,_⟩:=h
  rfl
 .obtain⟨jp,pa,ol,J,I,O,rfl,rj,jl,jB,hp,ro,cn,c9,n6,aw,cl,k⟩:=h
  have d3:=Zo hr;have c5:=hr.units;have an:=Qo (yV (by decide:2<=64) _) c5
  have sz:sizeLine=16777216:=sizeLine_eq;have bq:=bGe;obtain⟨g,fs,ps,as,fv,d6,qj,rg,qf,rf,qp,rp,_⟩:=jg rj;obtain⟨g',eg,qg⟩:=vt (p:=gate J) rg;cases eg;refine{_,(@zi _ _ _ _ _ (@zI _ _ 3 _ _ _ _ nd rfl (Or.inr rfl) (@zdR _ _ _ _ _ _ an (@qD _ _ _ _ _ (@za _ _ _ _ _ (@qD _ _ _ _ _ ze) (@za _ _ _ _ _ (@qD _ _ _ _ _ ze) (@za _ _ _ _ _ (@zu _ _ _ _ _ _ _ zF 0#b zf 0#d) ze 1e2) 1e2) 1e2)) zf) 1e2 (by first| exact .inl rfl | exact .inr rfl | assumption)) (@zi _ _ _ _ _ (@qM _ _ _ _ _ _ _ _ jz rfl (@qS _ _ _ _ _ _ rfl B.range (@za _ _ _ _ _ (@zE _ _ _ _ _ _ _ _ xR zf (@zr _ _ _ _ _ _ _ _ _ zC rfl B.len boot_len (@za _ _ _ _ _ 0#a ze 1e2) 1e1 1e1 1e2 1e2)) ze 1e2) 1e2) (@zy _ _ 4 _ nd rfl 0#z (by first| exact .inl rfl | exact .inr rfl | assumption)) (@zi _ _ _ _ _ (@zI _ _ 5 _ _ _ _ nd rfl 0#z zdQ 1e2 (by first| exact .inl rfl | exact .inr rfl | assumption)) (@zi _ _ _ _ _ (@qM _ _ _ _ _ _ _ _ jz rfl (@qW _ _ _ _ (@qh _ _ _ _ _ _ _ _ _ (Jc hr.hd) rfl B.list xm 0#g 1e1 1e1 1e2 1e2)) (@jP _ _ _ _ _ _ rfl (@zD _ _ _ _ _ (@zy _ _ 6 _ nd rfl 0#z (by first| exact .inl rfl | exact .inr rfl | assumption)) (@zD _ _ _ _ _ (@zy _ _ 7 _ nd rfl 0#z (by first| exact .inl rfl | exact .inr rfl | assumption)) (@zD _ _ _ _ _ (@zy _ _ 8 _ nd rfl 0#z (by first| exact .inl rfl | exact .inr rfl | assumption)) jw 1e2) 1e2) 1e2) 1e2 1e2) (@zi _ _ _ _ _ (@zI _ _ 9 _ _ _ _ nd rfl 0#z (@VG _ _ _ _ _ _ an (@pv _ 3 _ _ 1e2 (by first| exact Or.inl rfl | exact Or.inr 0#z | exact Or.inr (Or.inr rfl)) 1e1 1e1) (@qD _ _ _ _ _ (@za _ _ _ _ _ 0#q (@za _ _ _ _ _ 0#c (@za _ _ _ _ _ (@pv _ 8 _ _ 1e2 (by first| exact Or.inl rfl | exact Or.inr 0#z | exact Or.inr (Or.inr rfl)) 1e1 1e1) ze 1e2) 1e2) 1e2)) 0#d) 1e2 (by first| exact .inl rfl | exact .inr rfl | assumption)) (@zp _ _ _ (@qM _ _ _ _ _ _ _ _ jz rfl (@qW _ _ _ _ 0#a) (@zy _ _ 10 _ nd rfl 0#z (by first| exact .inl rfl | exact .inr rfl | assumption)) (@zp _ _ _ (@qM _ _ _ _ _ _ _ _ jz rfl (@qW _ _ _ _ (@zn _ _ _ _ _ _ _ _ _ _ ag hr.m rfl (@pa5 _ _ _ _ _ _ _ _ _ _ _ 0#b 0#a 0#f (@qD _ _ _ _ _ (@za _ _ _ _ _ 0#q (@za _ _ _ _ _ 0#c ze 1e2) 1e2)) (@pv _ 10 _ _ 1e2 (by first| exact Or.inl rfl | exact Or.inr 0#z | exact Or.inr (Or.inr rfl)) 1e1 1e1) 1e2) 1e1 1e2 1e2)) (@zy _ _ 11 _ nd rfl 0#z (by first| exact .inl rfl | exact .inr rfl | assumption)) (@zp _ _ _ (@zdO _ _ _ _ _ _ _ _ _ an 0#r 0#T (@zr _ _ _ _ _ _ _ _ _ (VW rfl) rfl B.min yE (@za _ _ _ _ _ (@zdS _ _ _ _ _ _ _ _ _ an 0#r 0#T (@zE _ _ _ _ _ _ _ _ zfw zf zf) ⟨rfl,rfl,rfl,rfl⟩) (@za _ _ _ _ _ (@zE _ _ _ _ _ _ _ _ qN (@pv _ 9 _ _ 1e2 (by first| exact Or.inl rfl | exact Or.inr 0#z | exact Or.inr (Or.inr rfl)) 1e1 1e1) (@zn _ _ _ _ _ _ _ _ _ _ ak hr.m rfl (@za _ _ _ _ _ (@pv _ 8 _ _ 1e2 (by first| exact Or.inl rfl | exact Or.inr 0#z | exact Or.inr (Or.inr rfl)) 1e1 1e1) (@za _ _ _ _ _ (@zu _ _ _ _ _ _ _ zF 0#T zf 0#d) ze 1e2) 1e2) 1e1 1e2 1e2)) ze 1e2) 1e2) 1e1 1e1 1e2 1e2) rfl)) (by intro _ ;rfl))) (by intro _ ;rfl)))) (by intro _ ;rfl)) (@zp _ _ _ (@zI _ _ 3 _ _ _ _ nd rfl (Or.inr rfl) 0#r 1e2 (by first| exact .inl rfl | exact .inr rfl | assumption))))) (by intro _ ;rfl)) (@zp _ _ _ (@zJ _ _ _ _ (@zr _ _ _ _ _ _ _ _ _ (zeo rfl) rfl B.min yE (@za _ _ _ _ _ (@jT _ _ _ _ _ _ _ _ _ _ _ ["_law_known","_law_job_here"] [3,0] rfl rfl (by kernel_rfl) (@qW _ _ _ _ (@qh _ _ _ _ _ _ _ _ _ (Jc hr.hd) rfl B.list xm 0#g 1e1 1e1 1e2 1e2)) 0#v (λ_ _ _ _=>(@zE _ _ _ _ _ _ _ _ qN (@za4 _ P w K _ _ _ _ _ ⟨rfl,rfl,rfl⟩ an 0#a 0#b 0#d) (@zn _ _ _ _ _ _ _ _ _ _ ak hr.m rfl (@za _ _ _ _ _ (@zu _ _ _ _ _ _ _ 0#u 0#b zf 0#d) (@za _ _ _ _ _ (@zu _ _ _ _ _ _ _ 0#u 0#f zf 0#d) ze 1e2) 1e2) 1e1 1e2 1e2))) (by intro _ ;rfl)) ze 1e2) 1e1 1e1 1e2 1e2))))),?_}
  refineλW oW hW=>(?_:Zy _ _ (upd H W (dTr P w W oW [])) _)
  have sW:=zb (o:=dTr P w W oW []) hW;refine{(by show 0<=_;omega),λu1 ba=>{(by show 0<=_;omega),λu2 ao=>?_}}
  have s2:=sW.trans ((zb (o:=.tup []) ba).trans (zb (o:=.tup []) ao));refine{_,rfl,jp,_,_,_,rfl,rfl,s2.sqT qj,rfl,(by show 3<=_;omega),λk1 au=>?_}
  have e1:=(zb (o:=.tup [.ref u1,.ref u2,.ref g]) au) _ _ (zb (o:=.tup []) ao _ _ (zd (H:=upd H W (dTr P w W oW [])) (a:=u1) (o:=.tup [])));have e2:=(zb (o:=.tup [.ref u1,.ref u2,.ref g]) au) _ _ (zd (H:=upd (upd H W (dTr P w W oW [])) u1 (.tup [])) (a:=u2) (o:=.tup []));have e3:=zd (H:=upd (upd (upd H W (dTr P w W oW [])) u1 (.tup [])) u2 (.tup [])) (a:=k1) (o:=.tup [.ref u1,.ref u2,.ref g]);have e5:=(zb (o:=.tup [.ref u1,.ref u2,.ref g]) au) _ _ ((zb (o:=.tup []) ao) _ _ ((zb (o:=.tup []) ba) _ _ (zd (H:=H) (a:=W) (o:=dTr P w W oW []))));have s3:=s2.trans (zb (o:=.tup [.ref u1,.ref u2,.ref g]) au);generalize upd (upd (upd (upd H W (dTr P w W oW [])) u1 (.tup [])) u2 (.tup [])) k1 (.tup [.ref u1,.ref u2,.ref g])=H3 at e1 e2 e3 e5 s3;have ky:TrAt K H3 (t3K ([],[],gate J)) k1:={u1,u2,g,u6 e3,u6 e1,u6 e2,s3.sqT qg};refine{k1,0,oW,t3K ([],[],gate J),rfl,e5,ky,λo' t=>(?_:zdC _ _ _ _ (upd H3 W 0#M))}
  have s6:Same H (upd H3 W 0#M):=λc u hc=>by rw[zj (zk hc hW)];exact s3 _ _ hc
  have en:LnAt K (upd H3 W 0#M) [(t3K ([],[],gate J),k1,0,t)] [(([],[],gate J),0)]:=by
   refine{rfl,1e3,λi x e hx he=>?_}
   have cm:i=0:=by have:=(zO.mp hx).1;simp at this;exact this
   subst cm;cases hx;cases he;exact{rfl,rfl,ky.updX e5}
  have bw:upd H3 W 0#M W=some 0#M:=zd;generalize upd H3 W 0#M=H6 at s6 en bw;have b0:BnL J I O 0 [(([],[],gate J),0)]:=by
   refine{λe he=>by cases zR.mp he;exact .zero,λc hc=>?_}
   cases hc;exact{_,zR.mpr rfl,rfl,vd _}
  have lU:(stU J I).length<=438272:=by
   rw[zgW];have h1:2^I.length<=2^6:=zbN 1e1 n6
   have h2:(Jp J I).length<=107:=by unfold Jp wU;rw[qH,qu,zm,zm];omega
   exact jx (XG h1 (XG h1 h2)) 1e1
  refine{_,rfl,pa,_,rfl,.inl (u5 (s6 _ _ hp)),?_}
  refine{2,_,rfl,rfl,.inl {1e1,1e1},_,rfl,(by rw[bq,zU];omega),(by rw[bq,zU];omega),?_}
  refine ju (λi σ H7=>zk7 λ(D:Addr) (oD:Obj) (U:TEs) (es:List LnE) (v4 v5 v6 v7 v8 v9 aa M:Option V)=>An6 (σ=[some (.ref jp),some (.ref pa),some (.ref ol),some (.ref D),v4,v5,v6,v7,v8,v9,aa,M]) (H D=none) (Same H H7) (H7 D=some (dTr P w D oD U)) (LnAt K H7 U es) (BnL J I O i es)) {W,o',_,_,_,_,_,_,_,_,_,_,rfl,hW,s6,bw,en,b0} ?_ ?_
  .rintro i σ H7 hi ⟨D,oD,U,es,v4,v5,v6,v7,v8,v9,aa,M,rfl,hD,s7,ai,ac,ab⟩
   have hi:i<2*I.length:=by rw[zU] at hi;omega
   refineλN oN hN=>?_
   have sN:=zb (o:=dTr P w N oN []) hN;refine(?_:zdC _ _ _ _ (upd H7 N (dTr P w N oN [])))
   have s8:=s7.trans sN;have bu:H N=none:=s7.none hN;have co:D≠N:=λz=>by rw[z] at ai;rw[ai] at hN;cases hN
   have bg:upd H7 N (dTr P w N oN []) N=some (dTr P w N oN []):=zd;have aj:=sN _ _ ai;have ae:=ac.same sN;generalize upd H7 N (dTr P w N oN [])=H8 at s8 bg aj ae;refine{_,rfl,D,oD,U,rfl,aj,λL hL=>{L,rfl,{_,u5 zd},?_}}
   have cp:L≠N:=λz=>by rw[z,bg] at hL;cases hL
   have sL:=zb (o:=.lst (U.map λx=>V.ref x.2.1)) hL
   have bm:BdL P w K H L D N oD U es (stU J I) (upd H8 L (.lst (U.map λx=>V.ref x.2.1))) []:={oN,[],[],s8.trans sL,zd,sL _ _ aj,ae.same sL,sL _ _ bg,LnAt.nil,BsL.nil,λ_ h=>nomatch h}
   generalize upd H8 L (.lst (U.map λx=>V.ref x.2.1))=H9 at bm
   refine j8 (K:=K) (a:=L) (xs:=U.map λx=>V.ref x.2.1) (λj σ HA=>Ex6 λ(v6 v7 v8 v9 aa M:Option V)=>An2 (σ=[some (.ref jp),some (.ref pa),some (.ref ol),some (.ref D),some (.int (0+(i:Int))),some (.ref N),v6,v7,v8,v9,aa,M]) (BdL P w K H L D N oD U es (stU J I) HA (WK J I O (es.take j)))) {_,_,_,_,_,_,rfl,bm} (λj σ HA _ ⟨_,_,_,_,_,_,_,_,_,_,_,hl,_⟩=>u5 hl) ?_ ?_
   rotate_left
   .rintro σ HA ⟨v6,v7,v8,v9,aa,M,rfl,ap,ys,fs,sA,_,_,_,bv,ah,be,_⟩
    rw[zm,ac.len,qY] at be;exact{_,rfl,N,ap,ys,fs,_,_,_,_,_,_,_,_,rfl,bu,sA,bv,ah,ab.step be}
   rintro j x σ HA hx ⟨v6,v7,v8,v9,aa,M,rfl,bn⟩;rw[zT] at hx;obtain⟨⟨kx,ax,cx,tx⟩,av,rfl⟩:=qy.mp hx;obtain⟨d5,da,d1,sA,d2,cg,ah,bv,cw,be,cz⟩:=id bn;obtain⟨e,he,ek,ec,B',C',E',qa,qB,qC,qE⟩:=ah.get av;cases(show kx=_ from ek)
   cases(show cx=_ from ec)
   have em:=qw he;have bs:=ab.1 e em;have al:=bs.shape;have d0:=bs.le jB aw;refine{ax,_,rfl,qa,rfl,_,_,rfl,_,_,rfl,_,_,rfl,rfl,?_}
   refine{_,rfl,_,rfl,_,rfl,_,rfl,(by show 3<=_;omega),λT hT=>?_}
   have sT:=zb (o:=.tup [.ref B',.ref C',.ref E']) hT;obtain⟨q,hq,qe⟩:∃q,lkT U (t3K e.1)=some q/\q.2.1=e.2:=by
    rcases ah.look e.1 with ⟨_,ne⟩ | ⟨q,e0,h1,h2,h3,h4⟩
    .exact absurd rfl (ne e em)
    .cases Wt ah.nd h2 em h3
     exact⟨q,h1,h4⟩
   refine{D,T,oD,U,t3K e.1,q,rfl,rfl,sT _ _ cg,(ah.same sT).trs,{B',C',E',u6 zd,sT.sqT qB,sT.sqT qC,sT.sqT qE},hq,?_}
   rw[qe];have bc:=bn.same sT;have qB:=sT.sqT qB;have qC:=sT.sqT qC;have qE:=sT.sqT qE;generalize upd HA T (.tup [.ref B',.ref C',.ref E'])=HB at bc qB qC qE;refine{_,rfl,pa,rfl,{_,u5 (bc.sm _ _ hp)},j8 (K:=K) (a:=pa) (xs:=qm I) (λm σ HC=>Ex2 λ(aa M:Option V)=>An5 (σ=[some (.ref jp),some (.ref pa),some (.ref ol),some (.ref D),some (.int (0+(i:Int))),some (.ref N),some (.ref B'),some (.ref C'),some (.ref E'),some (.int e.2),aa,M]) (BdL P w K H L D N oD U es (stU J I) HC (WK J I O (es.take j)++(I.take m).flatMap (cdL J I O e))) (SqT K HC B' ((kPs e.1.1).map kV)) (SqT K HC C' ((kPs e.1.2.1).map kV)) (SqT K HC E' ((plK e.1.2.2).map kV))) {_,_,rfl,by rw[WT,zbz,xN];exact bc,qB,qC,qE} (λj σ HC _ ⟨_,_,_,hb,_,_,_⟩=>u5 (hb.sm _ _ hp)) ?_ ?_}
   rotate_left
   .rintro σ HC ⟨aa,M,rfl,bd,_⟩
    rw[zU,qY] at bd;exact{_,_,_,_,_,_,rfl,by rw[qF he,zej];exact bd}
   rintro m x σ HC hm ⟨aa,M,rfl,bo,qB,qC,qE⟩;obtain⟨n,hn,rfl⟩:=j5 hm;have nm:=qw hn;obtain⟨ov,az,cr⟩:=cn n nm;have sC:=bo.sm;refine{_,rfl,_,rfl,_,rfl,_,rfl,_,rfl,(by show 2<=_;omega),λdn ck=>?_}
   have sd:=zb (o:=.tup [.ref B',.ref C']) ck;refine{_,rfl,jp,pa,ol,dn,B',C',J,I,O,ov,e.1,n,rfl,rj.same (sC.trans sd),jl,(sC.trans sd) _ _ hp,ro.same (sC.trans sd),az,cr,u6 zd,by rw[jU,nkI];exact sd.sqT qB,by rw[jU,nkI];exact sd.sqT qC,c9,n6,aw,al.1,al.2.1,nm,λl as HD sD bz ay=>?_}
   have ca:=(bo.same sd).same sD;have qB:=(sd.trans sD).sqT qB;have qC:=(sd.trans sD).sqT qC;have qE:=(sd.trans sD).sqT qE;have br:cdL J I O e n=(nxS J I ov e.1 n).map λs=>(s,e.2+zQ e.1.2.2 s.2.2):=by unfold cdL;rw[show O.getD n []=ov by rw[Jd,az];rfl]
   have c6:∀s∈nxS J I ov e.1 n,List.Sublist s.1 I/\List.Sublist s.2.1 I/\s.2.2∈Jp J I:=λs hs=>VJ al.1 al.2.1 nm hs
   generalize nxS J I ov e.1 n=ss at ay br c6;refine{l,rfl,{_,u5 bz},j8 (K:=K) (a:=l) (xs:=as.map V.ref) (λq σ HF=>Ex1 λ(M:Option V)=>An7 (σ=[some (.ref jp),some (.ref pa),some (.ref ol),some (.ref D),some (.int (0+(i:Int))),some (.ref N),some (.ref B'),some (.ref C'),some (.ref E'),some (.int e.2),some (.int (n:Int)),M]) (BdL P w K H L D N oD U es (stU J I) HF (WK J I O (es.take j)++(I.take m).flatMap (cdL J I O e)++(ss.take q).map λs=>(s,e.2+zQ e.1.2.2 s.2.2))) (SqT K HF B' ((kPs e.1.1).map kV)) (SqT K HF C' ((kPs e.1.2.1).map kV)) (SqT K HF E' ((plK e.1.2.2).map kV)) (HF l=some (.lst (as.map V.ref))) (StsAt K HF as ss)) {_,rfl,by rw[WT,ZM,xN];exact ca,qB,qC,qE,bz,ay} (λj σ HF _ ⟨_,_,_,_,_,_,h,_⟩=>u5 h) ?_ ?_}
   rotate_left
   .rintro σ HF ⟨M,rfl,bd,qB,qC,qE,_⟩
    rw[zm,ay.1,qY] at bd;exact{_,_,rfl,by rw[qF hn,Ze,<- xE,br];exact bd,qB,qC,qE}
   rintro q2 x σ HF c3 ⟨M,rfl,cb,qB,qC,qE,bi,c7⟩;rw[zT] at c3;obtain⟨sa,c4,rfl⟩:=qy.mp c3;have ql:=(zO.mp c4).1;rw[ay.1] at ql;have am:ss[q2]? =some ss[q2]:=by simp[ql]
   generalize ss[q2]=st at am;have tr:=c7.2 q2 sa st c4 am;have bb:=c6 st (qw am);obtain⟨B2,C2,E2,cu,d7,d8,cs⟩:=id tr;obtain⟨ap,ys,aq,sF,ci,ch,ce,Y,af,bf,bp⟩:=id cb;have fl:aq.length<=438272:=by
    rw[<- zm (f:=Prod.fst) (as:=aq)];refine jx (Zn _ (stU J I) af.nd λz hz=>?_) lU
    obtain⟨e',bh,rfl⟩:=zA.mp hz;exact bp _ (bf.1 e' bh)
   have yl:=af.len;have wl:=(zaI (Wn jB aw _ al.2.2) (Wn jB aw _ bb.2.2));have bj:e.2+zQ e.1.2.2 st.2.2<1000000000:=by
    have:(i:Int)<12:=()
    omega
   obtain⟨v0,ar,ev,d9,cf⟩:∃(v0:Int) (ar:List LnE),((lkT ys (t3K st)).map λp=>V.int p.2.1).getD (.int 1000000000)=.int v0/\True/\∀(o':Obj) (t:Tok),LnAt K (upd HF N (dTr P w N o' (stT ys (t3K st) sa ((if e.2+zQ e.1.2.2 st.2.2<v0 then e.2+zQ e.1.2.2 st.2.2 else v0),t)))) (stT ys (t3K st) sa ((if e.2+zQ e.1.2.2 st.2.2<v0 then e.2+zQ e.1.2.2 st.2.2 else v0),t)) ar/\BsL (WK J I O (es.take j)++(I.take m).flatMap (cdL J I O e)++((ss.take q2).map λs=>(s,e.2+zQ e.1.2.2 s.2.2))++[(st,e.2+zQ e.1.2.2 st.2.2)]) ar:=by
    rcases af.look st with ⟨no,ne⟩ | ⟨q,e0,c8,m0,cd,cv⟩
    .refine{1000000000,aq++[(st,e.2+zQ e.1.2.2 st.2.2)],by rw[no];rfl,trivial,λo' t=>?_}
     rw[zt bj];exact{(af.new (c:=(st,e.2+zQ e.1.2.2 st.2.2)) tr no ne).updX Y,bf.snoc}
    .refine{e0.2,reL aq st (if e.2+zQ e.1.2.2 st.2.2<e0.2 then e.2+zQ e.1.2.2 st.2.2 else e0.2),by rw[c8,<- cv];rfl,trivial,λo' t=>{(af.old c8).updX Y,?_}}
     refine bf.re (c:=(st,e.2+zQ e.1.2.2 st.2.2)) af.nd m0 cd ?_ ?_ ?_
     .split
      .exact .inr rfl
      .exact .inl rfl
     .split<;>omega
     .show(if e.2+zQ e.1.2.2 st.2.2<e0.2 then e.2+zQ e.1.2.2 st.2.2 else e0.2)<=e.2+zQ e.1.2.2 st.2.2
      split<;>omega
   refine{_,rfl,N,ap,ys,rfl,Y,_,rfl,10,9,rfl,rfl,{1e1,1e1,1e1},sa,ap,ys,t3K st,rfl,Y,af.trs,tr,?_}
   refine{_,rfl,_,rfl,_,rfl,sa,_,_,_,rfl,rfl,cu,rfl,.ref E',.ref E2,e.1.2.2,st.2.2,rfl,va qE,va cs,_,_,rfl,rfl,v0,e.2+zQ e.1.2.2 st.2.2,by rw[show(10:Int)^Int.toNat 9=1000000000 by decide,ev],?_}
   refine{_,rfl,_,rfl,N,sa,_,ap,ys,t3K st,rfl,rfl,rfl,Y,af.trs,tr,(),λo' t=>?_}
   obtain⟨f1,f2⟩:=cf o' t;have nl:l≠N:=λz=>by rw[z,Y] at bi;cases bi
   refine{_,rfl,{o',_,ar,λc u hc=>?_,?_,?_,ce.updX Y,zd,f1,?_,λc hc=>?_},qB.updX Y,qC.updX Y,qE.updX Y,?_,c7.updX Y}
   .rw[zj (zk hc bu)];exact sF _ _ hc
   .rw[zj cp];exact ci
   .rw[zj co];exact ch
   .rw[qF am,zG,<- xE];exact f2
   .rw[qF am,zG,<- xE] at hc
    rcases qL.mp hc with h | h
    .exact bp c h
    .cases zR.mp h
     exact zcb bb
   .rw[zj nl];exact bi
  .rintro σ H7 ⟨D,oD,U,es,v4,v5,v6,v7,v8,v9,aa,M,rfl,hD,s7,ai,ac,ab⟩
   rw[show((2:Int)*((qm I).length:Int)).toNat=2*I.length by rw[zU];omega] at ab
   refine{_,rfl,D,oD,U,rfl,ai,λL hL=>{L,rfl,{_,u5 zd},?_}}
   have sL:=zb (o:=.lst (U.map λx=>V.ref x.2.1)) hL
   have bt:=zd (H:=H7) (a:=L) (o:=.lst (U.map λx=>V.ref x.2.1))
   have aj:=sL _ _ ai;have ae:=ac.same sL;have s8:=s7.trans sL;generalize upd H7 L (.lst (U.map λx=>V.ref x.2.1))=H8 at bt aj ae s8
   have xl:U.length<=438272:=by
    rw[ac.len,<- zm (f:=Prod.fst) (as:=es)];refine jx (Zn _ (stU J I) ac.nd λz hz=>?_) lU
    obtain⟨e',bh,rfl⟩:=zA.mp hz;exact zcb (ab.1 e' bh).shape
   refine vy (K:=K) (a:=L) (xs:=U.map λx=>V.ref x.2.1) (λj zs HA=>zs=(((es.take j).map λe=>e.2+zQ e.1.2.2 (gate J)).map V.int)/\HA=H8) ⟨rfl,rfl⟩ (λj zs HA ⟨_,h⟩=>by rw[h];exact u5 bt) ?_ ?_
   .rintro j x zs HA hx ⟨rfl,rfl⟩
    rw[zT] at hx;obtain⟨⟨kx,ax,cx,tx⟩,av,rfl⟩:=qy.mp hx;have d4:=(zO.mp av).1;obtain⟨e,he,ek,ec,tr⟩:=ae.get av;cases(show kx=_ from ek)
    cases(show cx=_ from ec)
    have em:=qw he;obtain⟨B',C',E',qa,qB,qC,qE⟩:=id tr;obtain⟨q,hq,qe⟩:∃q,lkT U (t3K e.1)=some q/\q.2.1=e.2:=by
     rcases ae.look e.1 with ⟨_,ne⟩ | ⟨q,e0,h1,h2,h3,h4⟩
     .exact absurd rfl (ne e em)
     .cases Wt ae.nd h2 em h3
      exact⟨q,h1,h4⟩
    refine{rfl,_,rfl,_,rfl,D,ax,oD,U,t3K e.1,q,rfl,rfl,aj,ae.trs,tr,hq,?_}
    refine{_,rfl,ax,_,_,_,rfl,rfl,qa,rfl,_,rfl,jp,_,_,_,rfl,rfl,s8.sqT qj,rfl,.ref E',.ref g,e.1.2.2,gate J,rfl,va qE,va (s8.sqT qg),_,_,rfl,rfl,(by rw[zm,zm,jb];omega),?_,rfl}
    rw[qF he,zG,zG,qe];rfl
   .rintro zs HA ⟨hz,rfl⟩
    rw[zm,ac.len,qY] at hz;subst hz;obtain⟨c0,cj⟩:=cl;obtain⟨e0,bx,_⟩:=ab.2 c0 cj;refine{by rw[zm,zm,<- ac.len];omega,λl hl=>?_}
    refine{l,es.map λe=>e.2+zQ e.1.2.2 (gate J),rfl,u5 zd,(λz=>by rw[List.map_eq_nil_iff.mp z] at bx;cases bx),λm hm le=>?_}
    obtain⟨e,he,rfl⟩:=zA.mp hm;refine k _ _ (s8.trans (zb hl)) {{e,ab.1 e he,rfl},λc hc=>?_}
    obtain⟨f,hf,kf,lf⟩:=ab.2 c hc;refine yL (le _ (zA.mpr ⟨f,hf,rfl⟩)) ?_
    rw[kf];exact zbO lf _
theorem zgL(p q r:Pl):zQ p r<=zQ p q+zQ q r:=by
 have e:∀a b c:Int,Zk (a-c)<=Zk (a-b)+Zk (b-c):=λa b c=>by
  unfold Zk;split<;>split<;>split<;>omega
 have h1:=e p.1 q.1 r.1;have h2:=e p.2 q.2 r.2;unfold zQ zgM;split<;>split<;>split<;>omega
theorem zez(p:Pl):zQ p p=0:=by
 unfold zQ zgM Zk;simp
theorem zdU(p q:Pl):∀R:List Pl,R≠[]->z7 p R<=zQ p q+z7 q R
 | [],h=>absurd rfl h
 | z::R,_=>by
  have:=zgL p q z;show zQ p z+z7 z R<=zQ p q+(zQ q z+z7 z R);omega
theorem J3:∀{Q S:List Pl},List.Sublist Q S->∀(p:Pl) (R:List Pl),R≠[]->z7 p (Q++R)<=z7 p (S++R)
 | _,_,.slnil,p,R,_=>vd _
 | _,_,.cons (l₁:=Q) (l₂:=S) a h,p,R,e=>by
  have h1:=J3 h a R e;have h2:=zdU p a (Q++R) (by simp[e])
  show z7 p (Q++R)<=zQ p a+z7 a (S++R);omega
 | _,_,.cons₂ (l₁:=Q) (l₂:=S) a h,p,R,e=>by
  have h1:=J3 h a R e;show zQ p a+z7 a (Q++R)<=zQ p a+z7 a (S++R);omega
def PkV(J:Job)(e:List Nat):List Nat->List (Nat×Pl)->Prop
 | _,[]=>True
 | S,x::r=>x.1∈e/\x.1∉S/\(∃f∈J.fs,some f.k=pkd J x.1/\x.2=(f.x,f.y))/\PkV J e (jN e S x.1) r
def LyV(J:Job)(f:List Nat)(e:List 0#y):List Nat->List Nat->Prop
 | _,[]=>True
 | S,n::r=>n∈f/\n∉S/\(¬∃o∈e.getD n [],o∈zL f/\o∉zL S)/\LyV J f e (jN f S n) r
def xK(e:List Nat)(S:List Nat)(f:List Nat):List Nat:=f.foldl (jN e) S
theorem zaB{e S:List Nat}{n:Nat}(f:e.Nodup)(o:List.Sublist S e)(t:n∈e)(h:n∉S):(jN e S n).length=S.length+1:=by
 have:=(V4 f (o.nodup f) (λx hx=>o.subset hx) t h).length_eq
 rw[this,qu];rfl
theorem zaA(e S:List Nat)(n:Nat):List.Sublist (jN e S n) e:=W7
theorem Ln.pick{J:Job}{o:List Nat}{mss:List 0#y}(A:o.Nodup):∀(t:List (Nat×Pl)) {k:Nat} {S:List Nat} {p:Pl} {d:Int},Ln J o mss k ((S,[],p),d)->List.Sublist S o->S.length=k->k+t.length<=o.length->PkV J o S t ->
  Ln J o mss (k+t.length) ((xK o S (t.map Prod.fst),[],j6 p (t.map Prod.snd)),d+z7 p (t.map Prod.snd))/\List.Sublist (xK o S (t.map Prod.fst)) o/\(xK o S (t.map Prod.fst)).length=k+t.length
 | [],k,S,p,d,h,u,hk,_,_=>by
  refine{?_,u,hk}
  show Ln J o mss k ((S,[],p),d+0);rw[XC];exact h
 | x::r,k,S,p,d,h,u,hk,I,⟨h1,h2,⟨f,H,B,D⟩,E⟩=>by
  rw[qH] at I;have st:(jN o S x.1,([]:List Nat),x.2)∈nxS J o (mss.getD x.1 []) (S,[],p) x.1:=by
   unfold nxS;rw[zt (by show S.length<_;omega),zq h2]
   exact zA.mpr {f,xO.mpr {H,zY B},by rw[D]}
  have:=Ln.pick A r (.succ k _ x.1 _ h h1 st) (zaA o S x.1) (by rw[zaB A u h1 h2];omega) () E
  rw[show k+(x::r).length=k+1+r.length by rw[qH];omega]
  obtain⟨a,b,c⟩:=this;refine{?_,b,c}
  have e:d+z7 p ((x::r).map Prod.snd)=d+zQ p x.2+z7 x.2 (r.map Prod.snd):=by
   show d+(zQ p x.2+z7 x.2 (r.map Prod.snd))=_;omega
  rw[e];exact a
theorem Ln.lay{J:Job}{f:List Nat}{o:List 0#y}(A:f.Nodup):∀(t:List Nat) {k:Nat} {T:List Nat} {p:Pl} {d:Int},Ln J f o k ((f,T,p),d)->LyV J f o T t ->
  Ln J f o (k+t.length) ((f,xK f T t,j6 p (t.map (ppl J))),d+z7 p (t.map (ppl J)))
 | [],k,T,p,d,h,_=>by
  show Ln J f o k ((f,T,p),d+0);rw[XC];exact h
 | n::r,k,T,p,d,h,⟨h1,h2,h3,u⟩=>by
  have st:(f,jN f T n,ppl J n)∈nxS J f (o.getD n []) (f,T,p) n:=by
   unfold nxS;rw[zq (xM _),zq (λz=>z.elim h2 h3)]
   exact zR.mpr rfl
  have:=Ln.lay A r (.succ k _ n _ h h1 st) u;rw[show k+(n::r).length=k+1+r.length by rw[qH];omega]
  have e:d+z7 p ((n::r).map (ppl J))=d+zQ p (ppl J n)+z7 (ppl J n) (r.map (ppl J)):=by
   show d+(zQ p (ppl J n)+z7 (ppl J n) (r.map (ppl J)))=_;omega
  rw[e];exact this
theorem PkV.snoc{J:Job}{e:List Nat}:∀{o:List (Nat×Pl)} {S:List Nat} {x:Nat×Pl},PkV J e S o->x.1∈e->x.1∉xK e S (o.map Prod.fst)->(∃f∈J.fs,some f.k=pkd J x.1/\x.2=(f.x,f.y))->PkV J e S (o++[x])
 | [],S,x,_,a,b,c=>⟨a,b,c,trivial⟩
 | y::r,S,x,⟨h1,h2,h3,t⟩,a,b,c=>{h1,h2,h3,PkV.snoc t a b c}
theorem LyV.snoc{J:Job}{f:List Nat}{e:List 0#y}:∀{t:List Nat} {S:List Nat} {n:Nat},LyV J f e S t->n∈f->n∉xK f S t->(¬∃o∈e.getD n [],o∈zL f/\o∉zL (xK f S t))->LyV J f e S (t++[n])
 | [],S,x,_,a,b,c=>⟨a,b,c,trivial⟩
 | y::r,S,x,⟨h1,h2,h3,u⟩,a,b,c=>{h1,h2,h3,LyV.snoc u a b c}
theorem Zd(e S:List Nat)(f:List Nat)(x:Nat):xK e S (f++[x])=jN e (xK e S f) x:=zbE ..
theorem wV(p q:Pl)(a:List Pl):z7 p (a++[q])=z7 p a+zQ (j6 p a) q:=by
 rw[wC];show _+(zQ _ q+0)=_;rw[XC]
theorem Xd(p q:Pl)(a:List Pl):j6 p (a++[q])=q:=by rw[Zb];rfl
theorem Ln.runs{J:Job}{o:List Nat}{B:List 0#y}(Q:o.Nodup){k:Nat}{e:LnE}(h:Ln J o B k e) :
  ∃t u,PkV J o [] t/\LyV J o B [] u/\t.length+u.length=k/\t.length<=o.length/\(u≠[]->t.length=o.length)/\e=((xK o [] (t.map Prod.fst),xK o [] u,j6 (gate J) (t.map Prod.snd++u.map (ppl J))),z7 (gate J) (t.map Prod.snd++u.map (ppl J)))/\(xK o [] (t.map Prod.fst)).length=t.length/\List.Sublist (xK o [] (t.map Prod.fst)) o:=by
 induction h with
 | zero=>exact{[],[],trivial,trivial,rfl,qJ _,λz=>absurd rfl z,rfl,rfl,WW _}
 | succ k e n s U H A N=>
  obtain⟨t,u,hp,M,hk,h1,h2,rfl,h3,I⟩:=N;unfold nxS at A;split at A
  .rename_i c
   have c:(xK o [] (t.map Prod.fst)).length<o.length:=c;split at A
   .cases A
   .rename_i d
    obtain⟨f,L,rfl⟩:=zA.mp A;obtain⟨D,E⟩:=xO.mp L;have O:u=[]:=by
     cases u with
     | nil=>rfl
     | cons a r=>have:=h2 1e3;omega
    subst O;have eq:=zaB Q I H d;refine{t++[(n,(f.x,f.y))],[],hp.snoc H d {f,D,xF E,rfl},trivial,?_,?_,λz=>absurd rfl z,?_,?_,?_}
    .rw[qu];simp at hk ⊢;omega
    .rw[qu];show _+1<=_;omega
    .rw[zG,zG,ZM,xN,xN]
     show((jN o (xK o [] (t.map Prod.fst)) n,[],(f.x,f.y)),_)=((xK o [] (t.map Prod.fst++[n]),[],j6 (gate J) (t.map Prod.snd++[(f.x,f.y)])),z7 (gate J) (t.map Prod.snd++[(f.x,f.y)]));rw[Zd,Xd,wV]
    .rw[zG,qu]
     show(xK o [] (t.map Prod.fst++[n])).length=_+1;rw[Zd,eq];omega
    .rw[zG]
     show List.Sublist (xK o [] (t.map Prod.fst++[n])) o;rw[Zd];exact zaA _ _ _
  .rename_i c
   have c:¬(xK o [] (t.map Prod.fst)).length<o.length:=c;split at A
   .cases A
   .rename_i d
    cases zR.mp A;refine{t,u++[n],hp,M.snoc H (λz=>d (.inl z)) (λz=>d (.inr z)),?_,h1,λ_=>(),?_,h3,I}
    .rw[qu];show _+(_+1)=_;omega
    .rw[zG,<- xE]
     show((xK o [] (t.map Prod.fst),jN o (xK o [] u) n,ppl J n),_)=((xK o [] (t.map Prod.fst),xK o [] (u++[n]),j6 (gate J) (t.map Prod.snd++u.map (ppl J)++[ppl J n])),z7 (gate J) (t.map Prod.snd++u.map (ppl J)++[ppl J n]));rw[Zd,Xd,wV]
def lft(e S:List Nat):List Nat:=e.filter λx=>decide (x∉S)
theorem Wx(e:List Nat):lft e []=e:=List.filter_eq_self.mpr λx _=>1e3
theorem Jz{e S:List Nat}{x:Nat}:x∈lft e S↔x∈e/\x∉S:=by
 unfold lft;rw[xO,ZY]
theorem x8{e S:List Nat}{n x:Nat}:x∈jN e S n↔x∈e/\(x∈S\/x=n):=by
 unfold jN;rw[xO,ZY]
theorem Xi(n:Nat):∀e:List Nat,qQ (kPs e) (.inl (n:Int))=kPs (e.filter λx=>decide (x≠n))
 | []=>rfl
 | x::e=>by
  have f:=Xi n e;unfold qQ kPs at *
  by_cases c:x=n
  .subst c
   rw[jR,Z3 1e3,Z3 1e3,f]
  .rw[jR,Xz (by exact zY λz=>c (by have:=xa z;omega)),Xz (by exact zY c),f]
   rfl
theorem zcS(e S:List Nat)(n:Nat):lft e (jN e S n)=(lft e S).filter λx=>decide (x≠n):=by
 unfold lft;rw[List.filter_filter];refine List.filter_congr λx hx=>?_
 have:(x∉jN e S n)↔(x≠n/\x∉S):=by
  rw[x8];exact{λh=>{λz=>h {hx,.inr z},λz=>h {hx,.inl z}},λh z=>z.2.elim h.2 h.1}
 rw[<- Bool.decide_and];exact decide_eq_decide.mpr this
def x9(J:Job)(f:List Nat)(e:List 0#y):Prop:=∀n∈f,∀j,j∈e.getD n []↔∃k,1<=k/\Wk (asI J) k j (n:Int)
theorem zdf{J:Job}{u:List Nat}{f:List 0#y}{H:Key->List Key}{L:Int->Nat}{S:List Nat}{n:Nat}(E:∀q∈asI J,L q.1<L q.2)(M:x9 J u f)(B:∀t∈kPs u,Ahd J H t)(D:n∈u) :
  blk H (kPs (lft u S)) (.inl (n:Int))=false↔¬∃o∈f.getD n [],o∈zL u/\o∉zL S:=by
 obtain⟨ms,e1,_,I⟩:=B _ (JA.mpr D) n rfl;rw[QG,e1];constructor
 .rintro h ⟨o,U,h1,h2⟩
  obtain⟨k,hk,A⟩:=(M n D o).mp U;have ne:o≠(n:Int):=λz=>by
   have:=A.rk E;rw[z] at this;omega
  obtain⟨m,hm,rfl⟩:=zA.mp h1;exact h _ (zA.mpr {_,(I _).mpr ⟨ne,k,A⟩,rfl}) (JA.mpr (Jz.mpr {hm,λz=>h2 (wF.mpr z)}))
 .rintro h x hx Q
  obtain⟨j,O,rfl⟩:=zA.mp hx;obtain⟨Y,k,A⟩:=(I j).mp O;obtain⟨m,hm,e⟩:=zA.mp Q;have N:=xa e;subst N;obtain⟨h1,h2⟩:=Jz.mp hm;refine h {_,(M n D _).mpr {k,?_,A},wF.mpr h1,λz=>h2 (wF.mp z)}
  cases k with
  | zero=>exact absurd A Y
  | succ k=>omega
def zf0(J:Job)(n:Nat):Sp3:=(.inl (n:Int),((n:Int),ppl J n))
theorem zfZ{J:Job}{u:List Nat}{o:List 0#y}{A:Key->List Key}{D:Int->Nat}(f:∀q∈asI J,D q.1<D q.2)(E:x9 J u o)(e:∀t∈kPs u,Ahd J A t):∀{B S:List Nat},LyV J u o S B->Vld (gsP J) A (kPs (lft u S)) (B.map (zf0 J))
 | [],_,_=>trivial
 | n::r,S,⟨h1,h2,h3,H⟩=>by
  refine{JA.mpr (Jz.mpr ⟨h1,h2⟩),(zdf f E e h1).mpr h3,?_,?_}
  .show((n:Int),ppl J n)∈[((n:Int),ppl J (n:Int).toNat)]
   rw[jC];exact zR.mpr rfl
  .show Vld (gsP J) A (qQ (kPs (lft u S)) (.inl (n:Int))) (r.map (zf0 J))
   rw[Xi,<- zcS];exact zfZ f E e H
theorem zbd{J:Job}{A:List Nat}{u:List 0#y}{E:Key->List Key}{H:Int->Nat}(o:∀q∈asI J,H q.1<H q.2)(I:x9 J A u)(f:∀t∈kPs A,Ahd J E t):∀{L:List Sp3} {S:List Nat},Vld (gsP J) E (kPs (lft A S)) L->∃D,L=D.map (zf0 J)/\LyV J A u S D
 | [],_,_=>{[],rfl,trivial}
 | (t,g)::r,S,⟨h1,h2,h3,B⟩=>by
  obtain⟨n,N,M⟩:=zA.mp h1;cases(show(Sum.inl (n:Int):Key)=t from M)
  obtain⟨a,b⟩:=Jz.mp N;have h3:g∈[((n:Int),ppl J (n:Int).toNat)]:=h3;rw[jC] at h3;cases zR.mp h3;have B:Vld (gsP J) E (qQ (kPs (lft A S)) (.inl (n:Int))) r:=B;rw[Xi,<- zcS] at B;obtain⟨D,e,v⟩:=zbd o I f B;exact{n::D,by rw[jR,<- e];rfl,a,b,(zdf o I f a).mp h2,v}
theorem Wm(J:Job)(e:List Nat):jQ (e.map (zf0 J))=e.map (ppl J):=by unfold jQ;rw[qK];rfl
theorem zbk{J:Job}{L:List Nat}:∀{D:List (Nat×Pl)} {S:List Nat} {l:List Key},PkV J L S D->∃e,Vld (gsK J) ahN l e/\List.Sublist (jQ e) (D.map Prod.snd)/\∀t∈vL l e,t∈l/\∀x∈D,∀o,pkd J x.1=some o->t≠.inr o
 | [],S,l,_=>{[],trivial,QP _,λt h=>{h,λx hx=>nomatch hx}}
 | x::r,S,l,⟨h1,h2,⟨f,I,A,H⟩,E⟩=>by
  by_cases c:(Sum.inr f.k:Key)∈l
  .obtain⟨m,hm⟩:=vQ.mp I
   obtain⟨e,a,b,d⟩:=zbk (l:=qQ l (.inr f.k)) E;refine{(.inr f.k,((m:Int),(f.x,f.y)))::e,{c,rfl,zc4 hm,a},?_,λt B=>?_}
   .show List.Sublist ((f.x,f.y)::jQ e) (x.2::r.map Prod.snd)
    rw[H];exact b.cons₂ _
   .obtain⟨u,v⟩:=d t B
    obtain⟨M,N⟩:=y9.mp u;refine{M,λy hy o hk=>?_}
    rcases zP.mp hy with rfl | hy
    .rw[hk] at A
     cases A;exact N
    .exact v y hy o hk
  .obtain⟨e,a,b,d⟩:=zbk (l:=l) E
   refine{e,a,b.cons _,λt B=>?_}
   obtain⟨u,v⟩:=d t B;refine{u,λy hy o hk=>?_}
   rcases zP.mp hy with rfl | hy
   .rw[hk] at A
    cases A;exactλz=>c (by rw[<- z];exact u)
   .exact v y hy o hk
theorem Za{t:Key->List (Int×Pl)}{o:Key->List Key}:∀{f:List Sp3} {l:List Key},l.Nodup->Vld t o l f->(vL l f).length+f.length=l.length/\(vL l f).Nodup
 | [],l,e,_=>⟨rfl,e⟩
 | s::r,l,e,⟨h1,_,_,u⟩=>by
  obtain⟨a,b⟩:=Za ((xS l s.1).nodup e) u;have:=wH e h1;exact{by show(vL (qQ l s.1) r).length+(r.length+1)=_;omega,b}
theorem Xl{e:List Nat}:∀{xs S:List Nat} {x:Nat},x∈xK e S xs->x∈S\/x∈xs
 | [],S,x,h=>.inl h
 | y::r,S,x,h=>by
  rcases Xl (xs:=r) (S:=jN e S y) h with a | a
  .rcases(x8.mp a).2 with b | b
   .exact .inl b
   .exact .inr (by rw[b];simp)
  .exact .inr (jf _ a)
theorem zgN{J:Job}{f:List Str}{o:List Nat}{D:List 0#y}{Q:Key->List Key}{rk:Int->Nat}(nd:o.Nodup)(M:f.Nodup)(km:∀B,B∈f↔∃n∈o,pkd J n=some B)(L:∀q∈asI J,rk q.1<rk q.2)(ro:x9 J o D)(H:∀t∈kPs o,Ahd J Q t){e:LnE}(h:Ln J o D (2*o.length) e) :
  ∃A us,zev J f o Q A us/\yn J A us<=e.2+zQ e.1.2.2 (gate J):=by
 obtain⟨ps,O,hp,hl,hk,h1,h2,rfl,h3,h4⟩:=h.runs nd;have N:ps.length=o.length:=by
  by_cases c:O=[]
  .subst c
   simp at hk;omega
  .exact h2 c
 have E:xK o [] (ps.map Prod.fst)=o:=h4.eq_of_length (by rw[h3,N])
 obtain⟨A,a,b,d⟩:=zbk (l:=kKs f) hp;obtain⟨q1,q2⟩:=Za (QA M) a;have none:vL (kKs f) A=[]:=by
  cases z:vL (kKs f) A with
  | nil=>rfl
  | cons t r=>
   obtain⟨u,v⟩:=d t (by rw[z];simp)
   obtain⟨B,I,rfl⟩:=zA.mp u;obtain⟨n,U,en⟩:=(km B).mp I;rw[<- E] at U;rcases Xl U with m | m
   .cases m
   .obtain⟨x,hx,rfl⟩:=zA.mp m
    exact absurd rfl (v x hx B en)
 have sl:A.length=f.length:=by
  rw[none] at q1;have:(kKs f).length=f.length:=zm _;simp at q1;omega
 have Y:=zfZ L ro H hl;rw[Wx] at Y;refine{A,O.map (zf0 J),{sl,a,by rw[zm];omega,Y},?_}
 unfold yn;rw[Wm,xE];have:=J3 b (gate J) (O.map (ppl J)++[gate J]) 1e3
 refine yL this ?_
 rw[<- xE,wV];exact vd _
theorem PkV.app{J:Job}{e:List Nat}:∀{a:List (Nat×Pl)} {S:List Nat} {b:List (Nat×Pl)},PkV J e S a->PkV J e (xK e S (a.map Prod.fst)) b->PkV J e S (a++b)
 | [],_,_,_,h=>h
 | x::r,S,b,⟨h1,h2,h3,f⟩,h=>{h1,h2,h3,PkV.app f h}
theorem PkV.block{J:Job}{t:List Nat}{f:yY}(o:f∈J.fs):∀{e S:List Nat},e.Nodup->(∀x∈e,x∈t/\x∉S/\pkd J x=some f.k)->PkV J t S (e.map λx=>(x,(f.x,f.y)))
 | [],_,_,_=>trivial
 | x::r,S,nd,h=>by
  obtain⟨D,E⟩:=vh.mp nd;obtain⟨a,b,c⟩:=h x 1e3
  refine{a,b,⟨f,o,c.symm,rfl⟩,PkV.block o E λy hy=>?_}
  obtain⟨u,A,B⟩:=h y (jf _ hy);refine{u,λz=>?_,B}
  rcases(x8.mp z).2 with q | q
  .exact A q
  .exact D (by rw[<- show y=x from q];exact hy)
def prt(J:Job)(e:List Nat)(t:Key):List Nat:=e.filter λn=>decide ((pkd J n).map Sum.inr=some t)
theorem wS{J:Job}{e:List Nat}{t:Key}{n:Nat}:n∈prt J e t↔n∈e/\(pkd J n).map Sum.inr=some t:=by
 unfold prt;rw[xO,ZY]
def Qf(J:Job)(e:List Nat)(f:List Sp3):List (Nat×Pl):=f.flatMap λs=>(prt J e s.1).map λn=>(n,s.2.2)
theorem Y0(q:Pl):∀(e:List Nat) (R:List Pl),z7 q (e.map (λ_=>q)++R)=z7 q R
 | [],R=>rfl
 | x::r,R=>by
  show zQ q q+z7 q (r.map (λ_=>q)++R)=_
  rw[zez,Y0 q r R,ZL]
theorem za6(p q:Pl)(e:List Nat)(h:e≠[])(R:List Pl):z7 p (e.map (λ_=>q)++R)=zQ p q+z7 q R:=by
 obtain⟨x,r,rfl⟩:=QY h;show zQ p q+z7 q (r.map (λ_=>q)++R)=_
 rw[Y0]
theorem JW{J:Job}{e:List Nat}(I:e.Nodup):∀{A:List Sp3} {l:List Key} {S:List Nat},Vld (gsK J) ahN l A->(∀t∈l,prt J e t≠[])->(∀x∈S,∀t∈l,(pkd J x).map Sum.inr≠some t) ->
  PkV J e S (Qf J e A)/\∀(p:Pl) (R:List Pl),z7 p ((Qf J e A).map Prod.snd++R)=z7 p (jQ A++R)
 | [],_,_,_,_,_=>{trivial,λ_ _=>rfl}
 | (t,g)::r,l,S,⟨h1,_,h3,M⟩,H,E=>by
  have h1:t∈l:=h1;cases t with
  | inl i=>exact nomatch h3
  | inr o=>
   obtain⟨m,f,N,L,rfl⟩:=Jy (show g∈fgs J o from h3)
   have fm:=qw N;have O:(prt J e (.inr o)).Nodup:=I.filter _;have bl:PkV J e S ((prt J e (.inr o)).map λx=>(x,(f.x,f.y))):=PkV.block fm O λx hx=>by
    obtain⟨a,b⟩:=wS.mp hx;refine{a,λz=>E x z _ h1 b,?_}
    obtain⟨Q,e1,e2⟩:=qy.mp b;rw[e1,L,WS e2]
   have B:∀x∈xK e S (((prt J e (.inr o)).map λx=>(x,((f.x,f.y):Pl))).map Prod.fst),∀t∈qQ l (.inr o),(pkd J x).map Sum.inr≠some t:=λx hx t D=>by
    obtain⟨u,v⟩:=y9.mp D;rcases Xl hx with a | a
    .exact E x a t u
    .rw[qK] at a
     obtain⟨y,hy,rfl⟩:=zA.mp a;intro z;have:=(wS.mp hy).2;rw[show(Prod.fst∘λx=>(x,((f.x,f.y):Pl))) y=y from rfl] at z
     rw[this] at z;exact v (jL z).symm
   obtain⟨a,b⟩:=JW I M (λt D=>H t (y9.mp D).1) B
   refine{bl.app a,λp R=>?_}
   show z7 p ((((prt J e (.inr o)).map λx=>(x,((f.x,f.y):Pl)))++Qf J e r).map Prod.snd++R)=zQ p (f.x,f.y)+z7 (f.x,f.y) (jQ r++R)
   rw[zG,xE,qK];show z7 p ((prt J e (.inr o)).map (λ_=>((f.x,f.y):Pl))++_)=_
   rw[za6 _ _ _ (H _ h1),b]
theorem PkV.nd{J:Job}{f:List Nat}(o:f.Nodup):∀{t:List (Nat×Pl)} {S:List Nat},(∀x∈S,x∈f)->PkV J f S t->(t.map Prod.fst).Nodup/\∀x∈t,x.1∉S/\x.1∈f
 | [],_,_,_=>{vU,λ_ h=>nomatch h}
 | x::r,S,A,⟨h1,h2,_,u⟩=>by
  obtain⟨a,b⟩:=PkV.nd o (S:=jN f S x.1) (λy hy=>(x8.mp hy).1) u
  refine{vh.mpr {λz=>?_,a},λy hy=>?_}
  .obtain⟨y,hy,e⟩:=zA.mp z
   exact(b y hy).1 (x8.mpr {by rw[e];exact h1,.inr e})
  .rcases zP.mp hy with rfl | hy
   .exact⟨h2,h1⟩
   .exact{λz=>(b y hy).1 (x8.mpr {(b y hy).2,.inl z}),(b y hy).2}
theorem Qy{o:Key->List (Int×Pl)}{f:Key->List Key}:∀{e:List Sp3} {l:List Key},Vld o f l e->∀t∈l,t∈vL l e\/∃s∈e,s.1=t
 | [],l,_,t,h=>.inl h
 | s::r,l,⟨h1,_,_,u⟩,t,h=>by
  by_cases c:t=s.1
  .exact .inr {s,1e3,c.symm}
  .rcases Qy u t (y9.mpr ⟨h,c⟩) with a | ⟨A,a,b⟩
   .exact .inl a
   .exact .inr {A,jf _ a,b}
theorem Yq{J:Job}{u:List Str}{o:List Nat}{A:List 0#y}{ah:Key->List Key}{rk:Int->Nat}(E:o.Nodup)(Y:∀n∈o,n<J.ps.length)(Q:u.Nodup)(km:∀H,H∈u↔∃n∈o,pkd J n=some H)(N:∀q∈asI J,rk q.1<rk q.2)(ro:x9 J o A)(L:∀t∈kPs o,Ahd J ah t){B us:List Sp3}(h:zev J u o ah B us) :
  ∃e,Ln J o A (2*o.length) e/\e.2+zQ e.1.2.2 (gate J)=yn J B us:=by
 obtain⟨sl,sv,ul,uv⟩:=h;have some:∀t∈kKs u,prt J o t≠[]:=λt ht=>by
  obtain⟨H,M,rfl⟩:=zA.mp ht;obtain⟨n,D,en⟩:=(km H).mp M;exact List.ne_nil_of_mem (wS.mpr {D,by rw[en];rfl})
 obtain⟨pv,pw⟩:=JW (S:=[]) E sv some (λx hx=>absurd hx QO)
 obtain⟨pn,pm⟩:=PkV.nd E (λx hx=>absurd hx QO) pv
 obtain⟨q1,_⟩:=Za (QA Q) sv;have lK:(kKs u).length=u.length:=zm _;have none:vL (kKs u) B=[]:=zbU.mp ()
 have ab:(Qf J o B).length=o.length:=by
  refine Nat.le_antisymm ?_ ?_
  .rw[<- zm (f:=Prod.fst) (as:=Qf J o B)]
   exact Zn _ o pn λx hx=>by
    obtain⟨y,hy,rfl⟩:=zA.mp hx;exact(pm y hy).2
  .rw[<- zm (f:=Prod.fst) (as:=Qf J o B)]
   refine Zn o _ E λn D=>?_
   have aa:=Y n D;have ek:pkd J n=Option.some J.ps[n].k:=by unfold pkd;simp[aa]
   have O:=(km J.ps[n].k).mpr ⟨n,D,ek⟩;rcases Qy sv (.inr J.ps[n].k) (zA.mpr {_,O,rfl}) with a | ⟨s,hs,es⟩
   .rw[none] at a;cases a
   .refine zA.mpr {(n,s.2.2),vO.mpr {s,hs,zA.mpr {n,wS.mpr {D,by rw[ek,es];rfl},rfl}},rfl}
 rw[<- Wx o] at uv;obtain⟨U,rfl,lv⟩:=zbd N ro L uv;rw[zm] at ul;obtain⟨r1,r2,r3⟩:=Ln.pick (mss:=A) E (Qf J o B) .zero (WW _) rfl () pv
 have I:xK o [] ((Qf J o B).map Prod.fst)=o:=r2.eq_of_length (by rw[r3];omega)
 rw[I] at r1;have r4:=Ln.lay E U r1 lv;rw[show 0+(Qf J o B).length+U.length=2*o.length by omega] at r4
 refine{_,r4,?_}
 have e1:=pw (gate J) (U.map (ppl J)++[gate J]);unfold yn;rw[Wm,xE,<- e1,<- xE,wV,wC,Zb,ZL]
theorem zeT{J:Job}{B ms ls:List Nat}{D L:Int}{A:List 0#y}{U:Int->Nat}(Q:B.Nodup)(H:∀n∈B,n<J.ps.length)(t:∀q∈asI J,U q.1<U q.2)(Y:x9 J B A)(h:ShR J B D ms ls)(hl:zgG J B A L):D=L:=by
 obtain⟨aa,ah,ss,us,u,O,o,wk,ew,_,_,f⟩:=h;obtain⟨⟨e,he,rfl⟩,E⟩:=hl;obtain⟨e1,h1,w1⟩:=Yq Q H u O t Y o wk;obtain⟨I,M,N,w2⟩:=zgN Q u O t Y o he;have a:=E e1 h1;have b:=f I M N;omega
def zj3:List Pl->Int
 | []=>0
 | p::r=>z7 p r
theorem Vf:∀(p:Pl) (r:List Pl),(List.zipWith zQ (p::r) r).sum=z7 p r
 | p,[]=>rfl
 | p,q::r=>by
  show zQ p q+(List.zipWith zQ (q::r) r).sum=zQ p q+z7 q r;rw[Vf q r]
theorem zjV(x:V)(e:List V):jS (x::e) (some 1) none=e:=by
 unfold jS;rw[HT.sIx_none,show((1:Int))=((1:Nat):Int) from rfl,HT.sIx_nat]
 simp
inductive YI(K:W.Frag)(o:List V)(H:Hp)(Q:VK):Prop
 | mk (a:Addr) (t:List V) (e:List Pl) (_:o=[.ref a]) (_:H a=some (.lst t)) (_:Reps K H (e.map plD) t) (_:e.length<=1000) (_:1<=e.length) (_:(∀q∈e,InB q)) (_:∀f,Same H f->Q (.int (zj3 e)) f):YI K o H Q
def zeL(K:W.Frag):Sp:=λe H Q _=>YI K e H Q
theorem ze1:zM ["_law_places_here"] ["_law_places_here"] (zv (topL 33)):=u4
theorem zhr{f:Addr}{fd:FuncData}(F:Fun K "_law_long" "_law_long" (topL 33) f fd)(B:Blt G)(t:Dfn P w K G C "_law_way" 1 ["_law_one","_law_other"] (Vr K)):FnOk P w K G C CX0 2 f fd ["_law_places_here"] (zeL K):=by
 have nd:=ze1.nd;refine F.ok ze1 0#i (λaf A ae s H vs Q E hr h=>?_)
 .obtain⟨a,L,qs,rfl,_⟩:=h
  rfl
 .obtain⟨a,L,qs,rfl,ha,rz,ql,q1,qb,k⟩:=h
  have sz:sizeLine=16777216:=sizeLine_eq;have Y:=rz.len;rw[zm] at Y;refine{_,(zp (zJ (zr (zel rfl) rfl B.sum boot_sum (za (JY [] [] rfl rfl (by kernel_rfl) (qW (za3 rfl rfl B.list rfl B.zip xm (za (pv 0) (za (xX y4 (pv 0) (vq zf) wT) ze)))) 0#v (λ_ _ _ _=>(zn t hr.m rfl (za (pv 0) 0#K)))) ze)))),?_}
  obtain⟨p,r,rfl⟩:=QY (l:=qs) (λz=>by rw[z] at q1;exact absurd q1 1e1)
  obtain⟨x,J,rfl⟩:=QY (l:=L) (λz=>by rw[z] at Y;cases Y)
  rw[qH,qH] at Y;refine{_,rfl,_,rfl,1,rfl,a,x::J,rfl,u5 ha,λl2 ab=>?_}
  rw[zjV];have s2:=zb (o:=.lst J) ab;have e:=zd (H:=H) (a:=l2) (o:=.lst J);generalize upd H l2 (.lst J)=H2 at s2 e;refine{true,true,a,l2,x::J,J,rfl,u5 (s2 _ _ ha),u5 e,(by simp at ql;rw[qH];omega),λD Ts H3 s3 hD M lT tT=>{D,rfl,{_,u5 M},?_}}
  have ac:Ts.length=r.length:=by rw[lT,qH];omega
  have lz:(List.zipWith zQ (p::r) r).length=r.length:=by rw[List.length_zipWith,qH];omega
  simp at ql;refine vy (K:=K) (a:=D) (xs:=Ts.map V.ref) (λj L O=>L=(((List.zipWith zQ (p::r) r).take j).map V.int)/\O=H3) ⟨rfl,rfl⟩ (λj L O ⟨_,h⟩=>by rw[h];exact u5 M) ?_ ?_
  .rintro j y L O hy ⟨rfl,rfl⟩
   rw[zT] at hy;obtain⟨T,hT,rfl⟩:=qy.mp hy;obtain⟨u,v,hu,hv,aa⟩:=tT j T hT;have N:=(rz.same s2).same s3;obtain⟨d1,e1,r1⟩:=N.get hu;obtain⟨d2,e2,r2⟩:=N.get (i:=j+1) (x:=v) (by simpa using hv)
   rw[zT] at e1 e2;obtain⟨u',eu,rfl⟩:=qy.mp e1;obtain⟨v',ev,rfl⟩:=qy.mp e2;have ev:r[j]? =some v':=by simpa using ev
   have ez:(List.zipWith zQ (p::r) r)[j]? =some (zQ u' v'):=by rw[List.getElem?_zipWith,eu,ev]
   have jl:=(zO.mp ez).1;refine{T,_,rfl,u6 aa,rfl,_,_,rfl,_,_,rfl,rfl,rfl,_,rfl,_,rfl,u,v,u',v',rfl,r1,r2,(by rw[zm,jb];omega),?_,rfl}
   rw[qF ez,zG];rfl
  .rintro L O ⟨U,rfl⟩
   rw[zm,ac,<- lz,qY] at U;subst U;refine{by rw[zm];omega,λl hl=>{l,List.zipWith zQ (p::r) r,rfl,u5 zd,λz U=>?_,(),?_}}
   .obtain⟨i,I⟩:=vQ.mp U
    rw[List.getElem?_zipWith] at I
    cases e1:(p::r)[i]? with
    | none=>rw[e1] at I;cases I
    | some a1=>
     cases e2:r[i]? with
     | none=>rw[e1,e2] at I;cases I
     | some a2=>
      rw[e1,e2] at I;cases I;have:=zaI (qb a1 (qw e1)) (qb a2 (jf _ (qw e2)));exact{this.1,by have:=this.2;omega}
   .rw[Vf]
    exact k _ ((s2.trans s3).trans (zb hl))
def trW(J:Job)(e:List (Int×Int))(f:List Nat):Int:=z7 (gate J) (e.map (λq=>fpl J q.2.toNat)++f.map (ppl J)++[gate J])
inductive zcf(K:W.Frag)(B:List V)(H:Hp)(Q:VK):Prop
 | mk (u A t r:Addr) (J:Job) (D:List V) (e:List (Int×Int)) (f:List Nat) (_:B=[.ref u,.ref A]) (_:Rep K H (xJ J) (.ref u)) (_:zgH J) (_:SqT K H A [.ref t,.ref r]) (_:SqT K H t D) (_:Reps K H (e.map prD) D) (_:SqT K H r (qm f)) (_:e.length<=100) (_:f.length<=100) (_:(∀q∈e,0<=q.2/\q.2<(J.fs.length:Int))) (_:(∀n∈f,n<J.ps.length)) (_:∀o,Same H o->Q (.int (trW J e f)) o):zcf K B H Q
def zeH(K:W.Frag):Sp:=λe H Q _=>zcf K e H Q
theorem zij:zM ["_law_job_here","_law_trip","_law_row"] ["_law_job_here","_law_trip"] (zv (topL 34)):=u4
theorem zjp{f:Addr}{fd:FuncData}(F:Fun K "_law_trip_long" "_law_trip_long" (topL 34) f fd)(B:Blt G)(M:Dfn P w K G C "_law_long" 2 ["_law_places_here"] (zeL K)):FnOk P w K G C CX0 3 f fd ["_law_job_here","_law_trip"] (zeH K):=by
 have nd:=zij.nd;refine F.ok zij 0#i (λaz A ay s H vs Q E hr h=>?_)
 .obtain⟨jp,tp,t,r,J,zs,ah,ls,rfl,_⟩:=h
  rfl
 .obtain⟨jp,tp,t,r,J,zs,ah,ls,rfl,rj,jB,qt,qz,rz,qr,pl,ll,ao,an,k⟩:=h
  have sz:sizeLine=16777216:=sizeLine_eq;obtain⟨g,fs,ps,as,fv,b0,qj,rg,qf,rf,qp,rp,_⟩:=jg rj;have zl:=rz.len;rw[zm] at zl;refine{_,(zi (zI (i:=2) nd rfl 0#z (zE J7 (je (za 0#B ze)) (JY ["_law_job_here"] [0] rfl rfl (by kernel_rfl) (xx (zu zF (pv 1) zf 0#d)) 0#v (λ_ _ _ _=>(zu 0#u (zu 0#u (zu 0#u (pv 2) zf 0#d) (pv 1) 0#d) zf 0#d)))))
   (zp (zJ (zn M hr.m rfl (za (zE J7 (zE J7 (pv 2) (jT ["_law_job_here"] [0] rfl rfl (by kernel_rfl) (xx (zu zF (pv 1) zf 0#d)) 0#v (λ_ _ _ _=>(zu 0#u (zu 0#u (zu 0#u (pv 1) zf 0#d) (pv 0) 0#d) zf 0#d)))) (je (za 0#B ze))) ze))))),?_}
  refine{_,rfl,jp,_,_,_,rfl,rfl,qj,rfl,(by show 1<=_;omega),λl1 au=>?_}
  have s1:=zb (o:=.lst [.ref g]) au;have aa:=zd (H:=H) (a:=l1) (o:=.lst [.ref g]);generalize upd H l1 (.lst [.ref g])=H1 at s1 aa;refine{_,rfl,tp,_,_,_,rfl,rfl,s1.sqT qt,rfl,t,rfl,{_,s1.sqT qz},vM (K:=K) (a:=t) (xs:=zs) (λj e U=>Same H1 U/\Reps K U (((ah.take j).map λq=>fpl J q.2.toNat).map plD) e) {u7 _,rfl} (λj e U ⟨s2,_⟩=>(s1.trans s2).sqT qz) ?_ ?_}
  .rintro j x e U hx ⟨s2,I⟩
   have O:=s1.trans s2;obtain⟨d,e1,r1⟩:=(rz.same O).get hx;rw[zT] at e1;obtain⟨q,eq,rfl⟩:=qy.mp e1;obtain⟨a,ws,rfl,qa,x1,ba,rfl,e2,x2,bb,rfl,e3,e4⟩:=r1;cases e2;cases e3;cases e4;have jl:=(zO.mp eq).1;obtain⟨p0,p1⟩:=ao q (qw eq);have ae:J.fs[q.2.toNat]? =some (J.fs[q.2.toNat]'()):=vo _
   generalize J.fs[q.2.toNat]'()=fe at ae
   obtain⟨v,hv,rv⟩:=w6 (rf.same O) ae;obtain⟨fa,fc,rfl,ai,aj⟩:=vF rv;have yl:=I.len;rw[zm,zm,jb] at yl;have ax:atI fv q.2=some (.ref fa):=by have:=jI hv;rwa[Int.toNat_of_nonneg p0] at this
   refine{a,_,rfl,qa,rfl,_,_,rfl,_,_,rfl,rfl,rfl,?_}
   refine{_,rfl,jp,_,_,_,rfl,rfl,O.sqT qj,rfl,_,rfl,fs,_,_,_,rfl,rfl,O.sqT qf,ax,fa,_,_,_,rfl,rfl,ai,rfl,(),s2,?_}
   rw[qF eq,zG,zG];exact u9 (show Rep K U (plD (fpl J q.2.toNat)) (.ref fc) by rw[show fpl J q.2.toNat=(fe.x,fe.y) by unfold fpl;rw[ae];rfl];exact va aj) I
  rintro e U ⟨s2,I⟩;rw[zl,qY] at I;have yl:=I.len;rw[zm,zm] at yl;refine{(),λD hD=>?_}
  have sD:=zb (o:=.lst e) hD;refine{l1,D,_,_,rfl,rfl,sD _ _ (s2 _ _ aa),zd,(by show 1+_<=_;omega),λl2 al=>?_}
  have s3:=(s2.trans sD).trans (zb (o:=.lst ([.ref g]++e)) al);have ab:=zd (H:=upd U D (.lst e)) (a:=l2) (o:=.lst ([.ref g]++e));have I:=(I.same sD).same (zb (o:=.lst ([.ref g]++e)) al);generalize upd (upd U D (.lst e)) l2 (.lst ([.ref g]++e))=H3 at s3 ab I;have L:=s1.trans s3;refine{_,rfl,_,rfl,tp,_,_,_,rfl,rfl,L.sqT qt,rfl,r,rfl,{_,L.sqT qr},vM (K:=K) (a:=r) (xs:=qm ls) (λj u Y=>Same H3 Y/\Reps K Y (((ls.take j).map (ppl J)).map plD) u) {u7 _,rfl} (λj u Y ⟨s4,_⟩=>(L.trans s4).sqT qr) ?_ ?_}
  .rintro j x u Y hx ⟨s4,N⟩
   obtain⟨n,hn,rfl⟩:=j5 hx;have ak:=L.trans s4;have jl:=(zO.mp hn).1;have ag:=an n (qw hn);have af:J.ps[n]? =some J.ps[n]:=by simp[ag]
   generalize J.ps[n]=pn at af;obtain⟨v,hv,rv⟩:=w6 (rp.same ak) af;obtain⟨fa,fc,rfl,ai,aj⟩:=wD rv;have ul:=N.len;rw[zm,zm,jb] at ul;refine{rfl,?_}
   refine{_,rfl,jp,_,_,_,rfl,rfl,ak.sqT qj,rfl,_,rfl,ps,_,_,_,rfl,rfl,ak.sqT qp,jI hv,fa,_,_,_,rfl,rfl,ai,rfl,(),s4,?_}
   rw[qF hn,zG,zG];exact u9 (show Rep K Y (plD (ppl J n)) (.ref fc) by rw[show ppl J n=(pn.x,pn.y) by unfold ppl;rw[af];rfl];exact va aj) N
  rintro u Y ⟨s4,N⟩;rw[zU,qY] at N;have ul:=N.len;rw[zm,zm] at ul;refine{(),λE2 hE=>?_}
  have sE:=zb (o:=.lst u) hE;refine{l2,E2,_,_,rfl,rfl,sE _ _ (s4 _ _ ab),zd,(by rw[qu];show 1+_+_<=_;omega),λl3 am=>?_}
  have s5:=(s4.trans sE).trans (zb (o:=.lst ([.ref g]++e++u)) am);have ac:=zd (H:=upd Y E2 (.lst u)) (a:=l3) (o:=.lst ([.ref g]++e++u));have N:=(N.same sE).same (zb (o:=.lst ([.ref g]++e++u)) am);generalize upd (upd Y E2 (.lst u)) l3 (.lst ([.ref g]++e++u))=H5 at s5 ac N;have aq:=L.trans s5;have I:=I.same s5;refine{_,rfl,jp,_,_,_,rfl,rfl,aq.sqT qj,rfl,(by show 1<=_;omega),λl4 av=>?_}
  have s6:=zb (o:=.lst [.ref g]) av;refine{l3,l4,_,_,rfl,rfl,s6 _ _ ac,zd,(by rw[qu,qu];show 1+_+_+1<=_;omega),λl5 aw=>?_}
  have s7:=s6.trans (zb (o:=.lst ([.ref g]++e++u++[.ref g])) aw);have ar:=aq.trans s7;obtain⟨g',eg,qg⟩:=vt (p:=gate J) rg;cases eg;have ap:Rep K (upd (upd H5 l4 (.lst [.ref g])) l5 (.lst ([.ref g]++e++u++[.ref g]))) (plD (gate J)) (.ref g):=va (ar.sqT qg);refine{l5,[.ref g]++e++u++[.ref g],gate J::(ah.map (λq=>fpl J q.2.toNat)++ls.map (ppl J)++[gate J]),rfl,zd,?_,?_,?_,?_,λH8 s8=>k H8 (ar.trans s8)}
  .rw[jR,zG,zG]
   show Reps K _ (plD (gate J)::_) (.ref g::(e++u++[.ref g]));exact{_,_,rfl,ap,u9 ap (Reps.app (I.same s7) (N.same s7))}
  .simp
   omega
  .simp
  .intro q hq
   rcases zP.mp hq with rfl | hq
   .exact jB.1
   rcases qL.mp hq with hq | hq
   .rcases qL.mp hq with hq | hq
    .obtain⟨x,hx,rfl⟩:=zA.mp hq
     obtain⟨p0,p1⟩:=ao x hx;rw[show fpl J x.2.toNat=((J.fs[x.2.toNat]'()).x,(J.fs[x.2.toNat]'()).y) by unfold fpl;rw[vo ()];rfl]
     exact jB.2.1 _ (xP _)
    .obtain⟨n,hn,rfl⟩:=zA.mp hq
     have ag:=an n hn;rw[show ppl J n=((J.ps[n]).x,(J.ps[n]).y) by unfold ppl;simp[ag]]
     exact jB.2.2 _ (xP _)
   .cases zR.mp hq
    exact jB.1
theorem LyV.nd{J:Job}{o:List Nat}{f:List 0#y}:∀{e S:List Nat},LyV J o f S e->e.Nodup/\∀x∈e,x∉S/\x∈o
 | [],S,_=>{vU,λ_ h=>nomatch h}
 | n::r,S,⟨h1,h2,_,t⟩=>by
  obtain⟨a,b⟩:=LyV.nd t;refine{vh.mpr {λz=>(b n z).1 (x8.mpr {h1,.inr rfl}),a},λy hy=>?_}
  rcases zP.mp hy with rfl | hy
  .exact⟨h2,h1⟩
  .exact{λz=>(b y hy).1 (x8.mpr {(b y hy).2,.inl z}),(b y hy).2}
theorem LyV.fit{J:Job}{B:List Nat}{f:List 0#y}:∀{t S:List Nat},LyV J B f S t->∀(i:Nat) n,t[i]? =some n->∀o∈f.getD n [],o∉zL (t.drop i)
 | [],_,_,i,n,h=>by simp at h
 | x::r,S,h,0,n,e=>by
  cases e;obtain⟨h1,h2,h3,u⟩:=id h;have nd:=h.nd;intro o A z;obtain⟨y,hy,rfl⟩:=zA.mp (show o∈zL (x::r) from z)
  obtain⟨a,b⟩:=nd.2 y hy;exact h3 {_,A,wF.mpr b,λq=>a (wF.mp q)}
 | x::r,S,⟨_,_,_,u⟩,i+1,n,e=>LyV.fit u i n e
theorem zdL{e f:List Nat}(ln:e.Nodup)(t:f.Nodup)(o:∀x∈e,x∈f)(u:e.length=f.length):e.Perm f:=by
 refine(zbZ ln t).mpr λa=>{o a,λh=>?_}
 by_cases c:a∈e
 .exact c
 .have:=Zn (a::e) f (vh.mpr ⟨c,ln⟩) λx hx=>by
   rcases zP.mp hx with rfl | hx
   .exact h
   .exact o x hx
  rw[qH] at this;omega
theorem Y5:∀{a b:List Nat},zL a=zL b->a=b
 | [],[],_=>rfl
 | [],_::_,h=>nomatch h
 | _::_,[],h=>nomatch h
 | x::a,y::b,h=>by
  obtain⟨h1,h2⟩:=List.cons.inj h;have h1:(x:Int)=(y:Int):=h1;rw[Y5 h2,show x=y by omega]
theorem zcJ{J:Job}{ns:List Nat}:∀{E:List Sp3} {l:List Key} {o:List Nat},Vld (gsK J) ahN l E->vZ E=zL o ->
  (xw J o ns).map (λq=>fpl J q.2.toNat)=(Qf J ns E).map Prod.snd/\(xw J o ns).map Prod.fst=zL ((Qf J ns E).map Prod.fst)/\∀q∈xw J o ns,∃n m:Nat,q=((n:Int),(m:Int))/\n∈ns/\m<J.fs.length/\pkd J n=fkd J m
 | [],l,o,_,e=>by
  cases o with
  | nil=>exact{rfl,rfl,λq h=>nomatch h}
  | cons m r=>cases e
 | (t,g)::r,l,o,⟨_,_,h3,h4⟩,e=>by
  cases o with
  | nil=>cases e
  | cons A o=>
   obtain⟨e1,e2⟩:=List.cons.inj (show g.1::vZ r=(A:Int)::zL o from e)
   obtain⟨a,b,c⟩:=zcJ h4 e2;cases t with
   | inl i=>exact nomatch h3
   | inr D=>
    obtain⟨m,f,I,Y,rfl⟩:=Jy (show g∈fgs J D from h3)
    have Q:A=m:=by have:(m:Int)=(A:Int):=e1;omega
    subst Q;have L:fkd J A=some D:=by unfold fkd;rw[I,<- Y];rfl
    have U:fpl J A=(f.x,f.y):=by unfold fpl;rw[I];rfl
    have O:(ns.filter λn=>decide (pkd J n=fkd J A))=prt J ns (.inr D):=by
     unfold prt;refine List.filter_congr λx _=>decide_eq_decide.mpr ?_
     rw[L];cases pkd J x with
     | none=>exact{λz=>(nomatch z),λz=>(nomatch z)}
     | some k'=>exact{λz=>by cases z;rfl,λz=>by cases z;rfl}
    have H:xw J (A::o) ns=X5 J ns A++xw J o ns:=rfl;have B:Qf J ns ((.inr D,((A:Int),(f.x,f.y)))::r)=((prt J ns (.inr D)).map λn=>(n,((f.x,f.y):Pl)))++Qf J ns r:=rfl
    rw[H,B];unfold X5;rw[O];refine{?_,?_,λq hq=>?_}
    .rw[zG,zG,a,qK,qK]
     congr 1
     refine QR λx _=>?_
     show fpl J ((A:Int).toNat)=(f.x,f.y);rw[jC,U]
    .rw[zG,zG,b,qK,qK]
     unfold zL;rw[zG,qK,qK];rfl
    .rcases qL.mp hq with h | h
     .obtain⟨x,hx,rfl⟩:=zA.mp h
      obtain⟨u,v⟩:=wS.mp hx;refine{x,A,rfl,u,(zO.mp I).1,?_}
      obtain⟨k',M,N⟩:=qy.mp v;rw[M,L,WS N]
     .exact c q h
theorem zeU{J:Job}{e E u:List Nat}{D:Int}{B:List 0#y}{rk:Int->Nat}(H:e.Nodup)(Y:∀n∈e,n<J.ps.length)(N:∀q∈asI J,rk q.1<rk q.2)(ro:x9 J e B)(h:ShR J e D E u) :
  D=trW J (xw J E e) u/\((xw J E e).map Prod.fst).Perm (zL e)/\(∀q∈xw J E e,∃n m:Nat,q=((n:Int),(m:Int))/\n∈e/\m<J.fs.length/\pkd J n=fkd J m)/\u.Perm e/\∀(i:Nat) n,u[i]? =some n->∀o∈B.getD n [],o∉zL (u.drop i):=by
 obtain⟨f,ah,ss,us,Q,km,L,⟨sl,I,ul,uv⟩,ew,e1,e2,_⟩:=h;rw[<- Wx e] at uv;obtain⟨U,rfl,lv⟩:=zbd N ro L uv;have el:U=u:=Y5 (by rw[<- e2];unfold vZ zL;rw[qK];rfl)
 subst el;rw[zm] at ul;obtain⟨a,b,c⟩:=zcJ (ns:=e) I e1;obtain⟨l1,l2⟩:=lv.nd;have some:∀t∈kKs f,prt J e t≠[]:=λt ht=>by
  obtain⟨kd,M,rfl⟩:=zA.mp ht;obtain⟨n,A,en⟩:=(km kd).mp M;exact List.ne_nil_of_mem (wS.mpr {A,by rw[en];rfl})
 obtain⟨pv,pw⟩:=JW (S:=[]) H I some (λx hx=>absurd hx QO)
 obtain⟨pn,pm⟩:=PkV.nd H (λx hx=>absurd hx QO) pv
 obtain⟨q1,_⟩:=Za (QA Q) I;have lK:(kKs f).length=f.length:=zm _;have none:vL (kKs f) ss=[]:=zbU.mp ()
 have pp:((Qf J e ss).map Prod.fst).Perm e:=by
  refine(zbZ pn H).mpr λn=>{λhx=>?_,λA=>?_}
  .obtain⟨y,hy,rfl⟩:=zA.mp hx
   exact(pm y hy).2
  .have aa:=Y n A
   have ek:pkd J n=Option.some J.ps[n].k:=by unfold pkd;simp[aa]
   have O:=(km J.ps[n].k).mpr ⟨n,A,ek⟩;rcases Qy I (.inr J.ps[n].k) (zA.mpr {_,O,rfl}) with z | ⟨s,hs,es⟩
   .rw[none] at z;cases z
   .exact zA.mpr {(n,s.2.2),vO.mpr {s,hs,zA.mpr {n,wS.mpr {A,by rw[ek,es];rfl},rfl}},rfl}
 refine{?_,?_,c,zdL l1 H (λx hx=>(l2 x hx).2) ul,lv.fit}
 .rw[ew]
  unfold yn trW;rw[Wm,a,xE,xE,pw]
 .rw[b]
  exact pp.map _
theorem zkj{X:Cx}{K:W.Frag}(h:X.K=K):SlR X (zi7 K):=by subst h;exact zlk
inductive Vq(K:W.Frag)(e:List V)(H:Hp)(Q:VK):Prop
 | mk (i:Int) (_:e=[.int i]) (_:Q (.bl true) H):Vq K e H Q
def Jv(K:W.Frag):Sp:=λe H Q _=>Vq K e H Q
theorem zg3:zM ["_law_thing"] ["_law_thing"] (zv (topL 35)):=u4
theorem zfy{f:Addr}{o:FuncData}(F:Fun K "_law_is_whole_number" "_law_is_whole_number" (topL 35) f o)(B:Blt G):FnOk P w K G C CX0 1 f o ["_law_thing"] (Jv K):=by
 refine F.ok zg3 (λu H Q E h=>?_) (λt A e s H u Q E D h=>?_)
 .obtain⟨i,rfl,_⟩:=h
  rfl
 .obtain⟨i,rfl,k⟩:=h
  refine{_,(zp (zJ (za5 (zr wK rfl B.isinstance boot_isinstance (za (pv 0) (za (y6 (v:=.ty "int") rfl B.int yF rfl) ze))) (za2 (zji (zr wK rfl B.isinstance boot_isinstance (za (pv 0) (za (y6 (v:=.ty "bool") rfl B.bool zes rfl) ze)))))))),?_}
  exact{_,rfl,_, "int", "int",rfl,rfl,1e1,_,rfl,ifT 1e1 {_,rfl,_, "int", "bool",rfl,rfl,1e1,_,rfl,k}}
inductive zcp(K:W.Frag)(L:List V)(H:Hp)(Q:VK):Prop
 | mk (B I t r D:Addr) (J:Job) (M:List V) (f:List (Int×Int)) (u:List Nat) (e:List 0#y) (_:L=[.ref B,.ref I,.ref D]) (_:Rep K H (xJ J) (.ref B)) (_:SqT K H I [.ref t,.ref r]) (_:SqT K H t M) (_:Reps K H (f.map prD) M) (_:SqT K H r (qm u)) (_:RowsAt H D e) (_:f.length<=100) (_:u.length<=100) (_:(∀q∈f,∃n m:Nat,q=((n:Int),(m:Int))/\n<J.ps.length/\m<J.fs.length/\pkd J n=fkd J m)) (_:(∀n∈u,∃E,e[n]? =some E/\E.length<=60)) (_:(∀(i:Nat) n,u[i]? =some n->∀o∈e.getD n [],o∉zL (u.drop i))) (_:∀A,Same H A->Q (.bl true) A):zcp K L H Q
def zeQ(K:W.Frag):Sp:=λe H Q _=>zcp K e H Q
theorem ziq:zM ["_law_job_here","_law_trip","_law_over_here","_law_part","_law_feeder","_law_place_here"] ["_law_job_here","_law_trip","_law_over_here"] (zv (topL 37)):=u4
theorem zjv{f:Addr}{fd:FuncData}(F:Fun K "_law_is_fit" "_law_is_fit" (topL 37) f fd)(B:Blt G):FnOk P w K G C CX0 1 f fd ["_law_job_here","_law_trip","_law_over_here"] (zeQ K):=by
 have nd:=ziq.nd;refine F.ok ziq 0#i (λav A am s H vs Q E hr h=>?_)
 .obtain⟨jp,tp,t,r,ol,J,zs,ao,D,ac,rfl,_⟩:=h
  rfl
 .obtain⟨jp,tp,t,r,ol,J,zs,ao,D,ac,rfl,rj,qt,qz,rz,qr,ro,pl,ll,an,ai,af,k⟩:=h
  have sz:sizeLine=16777216:=sizeLine_eq;obtain⟨g,fs,ps,as,fv,ax,qj,rg,qf,rf,qp,rp,_⟩:=jg rj;have zl:=rz.len;rw[zm] at zl;refine{_,(zi (qM jz rfl (xx (zu zF (pv 1) zf 0#d)) (jP rfl (zD (zy (i:=3) nd rfl 0#z) (zD (zy (i:=4) nd rfl 0#z) jw)))
   (zp (xu (qG Zl (zu zF (zu zF 0#B (pv 4) 0#d) zf 0#d) (zu zF (zu zF 0#B (pv 3) 0#d) zf 0#d) (qO _))
    (zp (zJ wB))
    jk)))
   (zi (qM jz rfl (YZ rfl B.enumerate (za (zu zF (pv 1) zf 0#d) ze)) (jP rfl (zD (zy (i:=5) nd rfl (Or.inr rfl)) (zD (zy (i:=3) nd rfl 0#z) jw)))
   (zp (xu (xQ (zr (QF rfl) rfl B.any Xu (za (jT ["_law_trip","_law_place_here"] [1,5] rfl rfl (by kernel_rfl) (qW (zu qR (pv 2) (pv 3) 0#d)) 0#v (λ_ _ _ _=>(xz (ZE (K:=K) rfl) (pv 0) (xX (zkj (K:=K) rfl) (zu 0#u (pv 1) zf 0#d) (vq (pv 2)) wT) (by with_unfolding_all rfl)))) ze)))
    (zp (zJ wB))
    jk)))
   (zp (zJ wB)))),?_}
  refine{_,rfl,tp,_,_,_,rfl,rfl,qt,rfl,t,rfl,{_,qz},JE (K:=K) (a:=t) (xs:=zs) (λj σ H2=>∃(U Y v5:Option V),σ=[some (.ref jp),some (.ref tp),some (.ref ol),U,Y,v5]/\H2=H) {_,_,_,rfl,rfl} (λj σ H2 _ ⟨_,_,_,_,h⟩=>by rw[h];exact qz) ?_ ?_}
  .rintro j x σ H2 hx ⟨U,Y,v5,rfl,rfl⟩
   obtain⟨d,e1,r1⟩:=rz.get hx;rw[zT] at e1;obtain⟨q,eq,rfl⟩:=qy.mp e1;obtain⟨n,m,rfl,al,ak,ek⟩:=an q (qw eq);obtain⟨a,ws,rfl,qa,x1,b0,rfl,e2,x2,ba,rfl,e3,e4⟩:=r1;cases e2;cases e3;cases e4;have M:J.fs[m]? =some J.fs[m]:=by simp[ak]
   have N:J.ps[n]? =some J.ps[n]:=by simp[al]
   have I:J.ps[n].k=J.fs[m].k:=by unfold pkd fkd at ek;rw[M,N] at ek;exact jL ek
   generalize J.fs[m]=fe at M I;generalize J.ps[n]=pn at N I;obtain⟨v,hv,rv⟩:=w6 rf M;obtain⟨fa,fc,rfl,ap,ay⟩:=vF rv;obtain⟨v',aj,au⟩:=w6 rp N;obtain⟨pa,pc,rfl,aq,az⟩:=wD au;refine{a,_,rfl,qa,rfl,_,_,rfl,_,_,rfl,rfl,?_}
   refine{_,rfl,jp,_,_,_,rfl,rfl,qj,rfl,_,rfl,fs,_,_,_,rfl,rfl,qf,jI hv,fa,_,_,_,rfl,rfl,ap,rfl,_,rfl,jp,_,_,_,rfl,rfl,qj,rfl,_,rfl,ps,_,_,_,rfl,rfl,qp,jI aj,pa,_,_,_,rfl,rfl,aq,rfl,?_}
   refine{rfl,_,rfl,ifF (by rw[I];simp) {_,_,_,rfl,rfl}}
  rintro σ H2 ⟨U,Y,v5,rfl,rfl⟩;refine{_,rfl,tp,_,_,_,rfl,rfl,qt,rfl,r,rfl,{_,qr},zee (K:=K) (a:=r) (xs:=qm D) (λj σ H3=>∃(U Y v5:Option V),σ=[some (.ref jp),some (.ref tp),some (.ref ol),U,Y,v5]/\Same H2 H3) {_,_,_,rfl,u7 _} (λj σ H3 _ ⟨_,_,_,_,h⟩=>h.sqT qr) ?_ ?_}
  .rintro i x σ H4 T hx ⟨U,Y,v5,rfl,s4⟩ hT
   obtain⟨n,hn,rfl⟩:=j5 hx;have hi:=(zO.mp hn).1;have nm:=qw hn;have O:=s4.trans (zb (o:=.tup [.int (i:Int),.int (n:Int)]) hT);have aa:=zd (H:=H4) (a:=T) (o:=.tup [.int (i:Int),.int (n:Int)]);generalize upd H4 T (.tup [.int (i:Int),.int (n:Int)])=H5 at O aa;refine{T,_,rfl,u6 aa,rfl,_,_,rfl,_,_,rfl,rfl,?_}
   obtain⟨ov,u,aw⟩:=ai n nm;obtain⟨zo,ah,ar⟩:=ro;obtain⟨oa,ag,ab⟩:=ar n ov u;have e:=af i n hn;rw[show ac.getD n []=ov by rw[Jd,u];rfl] at e
   refine{_,rfl,_,rfl,ol,_,_,_,rfl,rfl,u5 (O _ _ ah),jI ag,oa,rfl,{_,u5 (O _ _ ab)},vy (K:=K) (a:=oa) (xs:=ov.map V.int) (λj zs H6=>zs=(List.replicate j (V.bl false))/\Same H5 H6) {rfl,u7 _} (λj zs H6 ⟨_,h6⟩=>u5 (h6 _ _ (O _ _ ab))) ?_ ?_}
   .rintro j x zs H6 hx ⟨rfl,s6⟩
    rw[zT] at hx;obtain⟨o,ho,rfl⟩:=qy.mp hx;have jl:=(zO.mp ho).1;refine{rfl,_,rfl,_,rfl,tp,_,_,_,rfl,rfl,(O.trans s6).sqT qt,rfl,?_}
    have w0:WX [] H6=H6:=by funext a;unfold WX;simp
    have cd:jS (qm D) (some (i:Int)) none=qm (D.drop i):=by
     unfold jS;rw[HT.sIx_none,HT.sIx_nat,zU,XI ()]
     unfold qm;rw[Yg (by rw[ZT,zm];exact zx _),List.map_drop]
    refine{_,rfl,(i:Int),rfl,true,r,qm D,[],rfl,λa h=>(nomatch h),by rw[w0];exact(O.trans s6).sqT qr,λc H' s' ae=>?_}
    have qc:SqT K H' c (qm (D.drop i)):=by rw[<- cd];exact WX.le.sqT ae
    refine{c,qm (D.drop i),rfl,.inr qc,rfl,(by rw[jU,List.all_map];exact xD.mpr λx _=>rfl),by rw[yh];omega,?_,s6.trans s'}
    show _++[V.bl (inV (.int o) (qm (D.drop i)))]=_;rw[jU,JC,jA (e o (qw ho)),XQ]
   .rintro zs H6 ⟨hz,s6⟩
    subst hz;refine{by rw[yh,zm];omega,λL hL=>{L,List.replicate ov.length false,rfl,u5 (by rw[zbJ,zm] at *;exact zd),_,rfl,ifF 1e3 {_,_,_,rfl,(O.trans s6).trans (zb hL)}}}
  .rintro σ H3 ⟨U,Y,v5,rfl,s3⟩
   exact k H3 s3
end
end L2
set_option maxHeartbeats 400000
namespace L2
open PySem PySem.Spec PyProof.Rows
theorem zb7:∀(f e:List Key),(e++f).Nodup->vp e f=e++f
 | [],e,_=>by show e=_;rw[xN]
 | k::f,e,h=>by
  have o:k∉e:=λz=>(ZV.mp h).2.2 k z k 1e3 rfl
  show vp (xI e k) f=_;rw[show xI e k=e++[k] by unfold xI;rw[zq o]]
  rw[zb7 f (e++[k]) (by rw[xE];exact h),xE]
  rfl
section
variable{P:Program}{w:World}{K:W.Frag}{G:Str->Option Value}{C:Heap}
inductive zce(K:W.Frag)(B:List V)(H:Hp)(Q:VK):Prop
 | mk (o A t r:Addr) (J:Job) (D:List V) (e:List (Int×Int)) (u:List Nat) (_:B=[.ref o,.ref A]) (_:Rep K H (xJ J) (.ref o)) (_:SqT K H A [.ref t,.ref r]) (_:SqT K H t D) (_:Reps K H (e.map prD) D) (_:SqT K H r (qm u)) (_:1<=e.length) (_:(e.length:Int)<=J.hd) (_:e.length<=6) (_:(∀q∈e,∃n m:Nat,q=((n:Int),(m:Int))/\n<J.ps.length/\m<J.fs.length)) (_:(e.map Prod.fst).Nodup) (_:(zL u).Perm (e.map Prod.fst)) (_:∀f,Same H f->Q (.bl true) f):zce K B H Q
def zeG(K:W.Frag):Sp:=λe H Q _=>zce K e H Q
theorem zii:zM ["_law_job_here","_law_thing","_law_one","_law_parts"] ["_law_job_here","_law_thing"] (zv (topL 36)):=u4
theorem zjo{f:Addr}{fd:FuncData}(F:Fun K "_law_is_trip" "_law_is_trip" (topL 36) f fd)(B:Blt G)(e:Dfn P w K G C "_law_is_whole_number" 1 ["_law_thing"] (Jv K)):FnOk P w K G C CX0 2 f fd ["_law_job_here","_law_thing"] (zeG K):=by
 have nd:=zii.nd;refine F.ok zii 0#i (λba A ap s H vs Q E hr h=>?_)
 .obtain⟨jp,tp,t,r,J,zs,u,ls,rfl,_⟩:=h
  rfl
 .obtain⟨jp,tp,t,r,J,zs,u,ls,rfl,rj,qt,qz,rz,qr,p1,ph,p6,au,aw,lp,k⟩:=h
  have an:=Qo (WZ _ 1) (Zo hr);have bb:=Zo hr;have sz:sizeLine=16777216:=sizeLine_eq;obtain⟨g,fs,ps,as,fv,bf,qj,rg,qf,rf,qp,rp,_⟩:=jg rj;have zl:=rz.len;rw[zm] at zl;have av:=rp.len;rw[zm] at av;have aj:=rf.len;rw[zm] at aj;refine{_,(@zi _ _ _ _ _ (@xu _ _ _ _ _ _ _ _ (@PW.pt _ _ _ (@ya _ _ _ _ _ _ _ (@vK _ _ _ _ (@xQ _ _ _ (@zr _ _ _ _ _ _ _ _ _ wK rfl B.isinstance boot_isinstance (@za _ _ _ _ _ 0#a 0#H 1e2) 1e1 1e1 1e2 1e2) (by intro _ ;rfl))) (@ya _ _ _ _ _ _ _ (@qG _ _ _ _ _ _ _ _ Zl (@zr _ _ _ _ _ _ _ _ _ zC rfl B.len boot_len (@za _ _ _ _ _ 0#a ze 1e2) 1e1 1e1 1e2 1e2) zf (qO _)) (@yr _ _ _ _ (@vK _ _ _ _ (@xQ _ _ _ (@zr _ _ _ _ _ _ _ _ _ (Zh rfl) rfl B.all boot_all (@za _ _ _ _ _ (@jT _ _ _ _ _ _ _ _ _ _ _ [] [] rfl rfl (by kernel_rfl) (@xx _ _ _ _ 0#a) 0#v (λ_ _ _ _=>(@zr _ _ _ _ _ _ _ _ _ (zeq (K:=K) rfl) rfl B.isinstance boot_isinstance (@za _ _ _ _ _ 0#b 0#H 1e2) 1e1 1e1 1e2 1e2)) (by intro _ ;rfl)) ze 1e2) 1e1 1e1 1e2 1e2) (by intro _ ;rfl))))))) 0#P jk) (@zi _ _ _ _ _ (@qM _ _ _ _ _ _ _ _ jz rfl (@xx _ _ _ _ 0#A) (@zy _ _ 2 _ nd rfl 0#z (by first| exact .inl rfl | exact .inr rfl | assumption)) (@zi _ _ _ _ _ (@xu _ _ _ _ _ _ _ _ (@PW.pt _ _ _ (@ya _ _ _ _ _ _ _ (@vK _ _ _ _ (@xQ _ _ _ (@zr _ _ _ _ _ _ _ _ _ wK rfl B.isinstance boot_isinstance (@za _ _ _ _ _ 0#f 0#H 1e2) 1e1 1e1 1e2 1e2) (by intro _ ;rfl))) (@ya _ _ _ _ _ _ _ (@qG _ _ _ _ _ _ _ _ Zl (@zr _ _ _ _ _ _ _ _ _ zC rfl B.len boot_len (@za _ _ _ _ _ 0#f ze 1e2) 1e1 1e1 1e2 1e2) zf (qO _)) (@yr _ _ _ _ (@vK _ _ _ _ (@xQ _ _ _ (@zr _ _ _ _ _ _ _ _ _ (Zh rfl) rfl B.all boot_all (@za _ _ _ _ _ (@jT _ _ _ _ _ _ _ _ _ _ _ [] [] rfl rfl (by kernel_rfl) (@xx _ _ _ _ 0#f) 0#v (λ_ _ _ _=>(@zn _ _ _ _ _ _ _ _ _ _ e hr.m rfl (@za _ _ _ _ _ 0#b ze 1e2) 1e1 1e2 1e2)) (by intro _ ;rfl)) ze 1e2) 1e1 1e1 1e2 1e2) (by intro _ ;rfl))))))) 0#P jk) (@zp _ _ _ (@xu _ _ _ _ _ _ _ _ (@PW.pt _ _ _ (@ya _ _ _ _ _ _ _ 0#E (@yr _ _ _ _ 0#E))) 0#P jk))) (by intro _ ;rfl)) (@zi _ _ _ _ _ (@zje _ _ _ _ _ _ _ _ _ _ _ _ _ _ _ [] [] rfl rfl (by kernel_rfl) (@xx _ _ _ _ 0#A) 0#v (λ_ _ _ _=>(@zu _ _ _ _ _ _ _ 0#u 0#b zf 0#d)) (@zy _ _ 3 _ nd rfl 0#z (by first| exact .inl rfl | exact .inr rfl | assumption)) 1e2 (by intro _ ;rfl)) (@zi _ _ _ _ _ (@xu _ _ _ _ _ _ _ _ (@PW.pt _ _ _ (@ya _ _ _ _ _ _ _ (@vK _ _ _ _ (@JT _ _ _ _ _ _ _ _ _ _ _ _ zcL zcL zf (@zr _ _ _ _ _ _ _ _ _ zC rfl B.len boot_len 0#g 1e1 1e1 1e2 1e2) (@zu _ _ _ _ _ _ _ zF 0#b zf 0#d) (by with_unfolding_all rfl))) (@yr _ _ _ _ (@qG _ _ _ _ _ _ _ _ Zl (@zr _ _ _ _ _ _ _ _ _ zep rfl B.len boot_len (@za _ _ _ _ _ (@qh _ _ _ _ _ _ _ _ _ (zen hr.hd) rfl B.set boot_set 0#g 1e1 1e1 1e2 1e2) ze 1e2) 1e1 1e1 1e2 1e2) (@zr _ _ _ _ _ _ _ _ _ zC rfl B.len boot_len 0#g 1e1 1e1 1e2 1e2) (qO _))))) 0#P jk) (@zp _ _ _ (@zJ _ _ _ _ (@za5 _ _ _ _ _ _ _ (@zr _ _ _ _ _ _ _ _ _ (Zh rfl) rfl B.all boot_all (@za _ _ _ _ _ (@jT _ _ _ _ _ _ _ _ _ _ _ [] [] rfl rfl (by kernel_rfl) (@xx _ _ _ _ 0#A) 0#v (λ_ _ _ _=>(@zn _ _ _ _ _ _ _ _ _ _ e hr.m rfl (@za _ _ _ _ _ 0#b ze 1e2) 1e1 1e2 1e2)) (by intro _ ;rfl)) ze 1e2) 1e1 1e1 1e2 1e2) (@za2 _ _ _ _ _ (@xz _ _ _ _ _ _ _ _ (zhi an) (@zr _ _ _ _ _ _ _ _ _ xW rfl B.sorted jF (@za _ _ _ _ _ 0#A ze 1e2) 1e1 1e1 1e2 1e2) (@zr _ _ _ _ _ _ _ _ _ w4 rfl B.sorted jF 0#g 1e1 1e1 1e2 1e2) (qO _)))))))))),?_}
  refine{_,rfl,_, "tuple", "tuple",rfl,.inr {rfl,_,qt},1e1,_,rfl,ifF 1e1 ?_}
  refine{_,rfl,tp,_,rfl,.inr qt,rfl,_,rfl,ifF (show(!decide (V.int 2=V.int 2))=false by decide) ?_}
  refine{_,rfl,tp,rfl,{_,qt},vM (K:=K) (a:=tp) (xs:=[.ref t,.ref r]) (λj I H2=>I=List.replicate j (V.bl true)/\H2=H) ⟨rfl,rfl⟩ (λj I H2 ⟨_,h⟩=>by rw[h];exact qt) ?_ ?_}
  .rintro j x I H2 hx ⟨rfl,rfl⟩
   have tx:∃a,x=.ref a/\∃xs,SqT K H2 a xs:=by
    rcases zP.mp (qw hx) with rfl | hm
    .exact{t,rfl,_,qz}
    .cases zR.mp hm
     exact{r,rfl,_,qr}
   have jl:=(zO.mp hx).1;obtain⟨a,rfl,xs,qx⟩:=tx;refine{rfl,_,rfl,_, "tuple", "tuple",rfl,.inr {rfl,_,qx},1e1,(by rw[yh];simp at jl;omega),?_,rfl}
   rw[XQ];rfl
  rintro I H2 ⟨rfl,rfl⟩;refine{by rw[yh];show 2<=_;omega,λL hL=>{L,[true,true],rfl,u5 zd,_,rfl,ifF 1e1 ?_}}
  have sL:=zb (o:=.lst [V.bl true,V.bl true]) hL;refine(?_:zb8 _ _ (upd H2 L (.lst [V.bl true,V.bl true])))
  generalize upd H2 L (.lst [V.bl true,V.bl true])=H3 at sL;have af:=sL.sqT qz;refine{_,rfl,tp,_,_,_,rfl,rfl,sL.sqT qt,rfl,t,rfl,{_,af},JE (K:=K) (a:=t) (xs:=zs) (λj σ H4=>∃(v2 v3:Option V),σ=[some (.ref jp),some (.ref tp),v2,v3]/\Same H3 H4) {_,_,rfl,u7 _} (λj σ H4 _ ⟨_,_,_,h⟩=>h.sqT af) ?_ ?_}
  .rintro j x σ H4 hx ⟨v2,v3,rfl,s4⟩
   have M:=sL.trans s4;obtain⟨d,e1,r1⟩:=(rz.same M).get hx;rw[zT] at e1;obtain⟨q,eq,rfl⟩:=qy.mp e1;obtain⟨n,m,rfl,be,bd⟩:=au q (qw eq);obtain⟨a,ws,rfl,qa,x1,ax,rfl,e2,x2,ay,rfl,e3,e4⟩:=r1;cases e2;cases e3;cases e4;refine{_,rfl,_, "tuple", "tuple",rfl,.inr {rfl,_,qa},1e1,_,rfl,ifF 1e1 ?_}
   refine{_,rfl,a,_,rfl,.inr qa,rfl,_,rfl,ifF (show(!decide (V.int 2=V.int 2))=false by decide) ?_}
   refine{_,rfl,a,rfl,{_,qa},vM (K:=K) (a:=a) (xs:=[.int (n:Int),.int (m:Int)]) (λj I O=>I=List.replicate j (V.bl true)/\O=H4) ⟨rfl,rfl⟩ (λj I O ⟨_,h⟩=>by rw[h];exact qa) ?_ ?_}
   .rintro j x I O hx ⟨rfl,rfl⟩
    have tx:∃i:Int,x=.int i:=by
     rcases zP.mp (qw hx) with rfl | hm
     .exact{_,rfl}
     .cases zR.mp hm
      exact{_,rfl}
    have jl:=(zO.mp hx).1;obtain⟨i,rfl⟩:=tx;refine{rfl,_,rfl,i,rfl,(by rw[yh];simp at jl;omega),?_,rfl}
    rw[XQ]
   rintro I O ⟨rfl,rfl⟩;refine{by rw[yh];show 2<=_;omega,λL2 al=>{L2,[true,true],rfl,u5 zd,_,rfl,ifF 1e1 ?_}}
   have s5:=zb (o:=.lst [V.bl true,V.bl true]) al;refine(?_:zb8 _ _ (upd O L2 (.lst [V.bl true,V.bl true])))
   generalize upd O L2 (.lst [V.bl true,V.bl true])=H6 at s5;have N:=M.trans s5;have ac:=s5.sqT qa;refine{_,rfl,a,_,_,_,rfl,rfl,ac,rfl,_,_,rfl,rfl,_,rfl,ifT (zY ()) {_,rfl,jp,_,_,_,rfl,rfl,N.sqT qj,rfl,ps,_,rfl,.inr (N.sqT qp),_,_,rfl,rfl,_,rfl,ifF (by rw[zY ()];rfl) ?_}}
   exact{_,rfl,a,_,_,_,rfl,rfl,ac,rfl,_,_,rfl,rfl,_,rfl,ifT (zY ()) {_,rfl,jp,_,_,_,rfl,rfl,N.sqT qj,rfl,fs,_,rfl,.inr (N.sqT qf),_,_,rfl,rfl,_,rfl,ifF (by rw[zY ()];rfl) {_,_,rfl,s4.trans s5}}}
  rintro σ H4 ⟨v2,v3,rfl,s4⟩;have M:=sL.trans s4;have ag:=M.sqT qz;refine{_,rfl,tp,_,_,_,rfl,rfl,M.sqT qt,rfl,t,rfl,{_,ag},vM (K:=K) (a:=t) (xs:=zs) (λj I O=>I=((u.take j).map Prod.fst).map V.int/\O=H4) ⟨rfl,rfl⟩ (λj I O ⟨_,h⟩=>by rw[h];exact ag) ?_ ?_}
  .rintro j x I O hx ⟨rfl,rfl⟩
   obtain⟨d,e1,r1⟩:=(rz.same M).get hx;rw[zT] at e1;obtain⟨q,eq,rfl⟩:=qy.mp e1;obtain⟨a,ws,rfl,qa,x1,ax,rfl,e2,x2,ay,rfl,e3,e4⟩:=r1;cases e2;cases e3;cases e4;refine{rfl,_,rfl,a,_,_,_,rfl,rfl,qa,rfl,(by rw[zm,zm,jb];omega),?_,rfl}
   rw[qF eq,zG,zG];rfl
  rintro I O ⟨hz,rfl⟩;rw[zl,qY] at hz;subst hz;refine{by rw[zm,zm];omega,λD hD=>?_}
  have sD:=zb (o:=.lst ((u.map Prod.fst).map V.int)) hD;have U:=zd (H:=O) (a:=D) (o:=.lst ((u.map Prod.fst).map V.int));refine(?_:zdC _ _ _ _ (upd O D (.lst ((u.map Prod.fst).map V.int))))
  generalize upd O D (.lst ((u.map Prod.fst).map V.int))=H6 at sD U;have N:=M.trans sD;have ll:((u.map Prod.fst).map V.int).length=u.length:=by rw[zm,zm]
  refine{_,rfl,D,_,rfl,.inl (u5 U),_,_,rfl,rfl,_,rfl,ifT (zY (by rw[ll];omega)) {_,rfl,jp,_,_,_,rfl,rfl,N.sqT qj,rfl,_,_,rfl,rfl,_,rfl,ifF (by rw[ll,zY ph];rfl) ?_}}
  have ao:(((u.map Prod.fst).map Sum.inl:List Key)).Nodup:=yS.mpr (aw.imp λh z=>h (xa z))
  have lk:(vp [] ((u.map Prod.fst).map Sum.inl:List Key)).length=u.length:=by rw[zb7 _ [] (by simpa using ao),XH,zm,zm]
  refine{_,rfl,D,(u.map Prod.fst).map Sum.inl,rfl,(by rw[qK];exact U),(by rw[zm,zm];omega),λS hS=>{S,_,rfl,zd,?_}}
  have sS:=zb (o:=Zj P w S (vp [] ((u.map Prod.fst).map Sum.inl))) hS;refine{_,rfl,D,_,rfl,.inl (u5 (sS _ _ U)),rfl,_,rfl,ifF (by rw[lk,ll];simp) ?_}
  refine(?_:zb8 _ _ (upd H6 S (Zj P w S (vp [] ((u.map Prod.fst).map Sum.inl)))))
  generalize upd H6 S (Zj P w S (vp [] ((u.map Prod.fst).map Sum.inl)))=H7 at sS;have ak:=sS _ _ U;have aa:=N.trans sS;have bc:ls.length=u.length:=by have:=lp.length_eq;unfold zL at this;rw[zm,zm] at this;exact this
  have ae:=aa.sqT qr;refine{_,rfl,tp,_,_,_,rfl,rfl,aa.sqT qt,rfl,r,rfl,{_,ae},vM (K:=K) (a:=r) (xs:=qm ls) (λj I H8=>I=List.replicate j (V.bl true)/\H8=H7) ⟨rfl,rfl⟩ (λj I H8 ⟨_,h⟩=>by rw[h];exact ae) ?_ ?_}
  .rintro j x I H8 hx ⟨rfl,rfl⟩
   obtain⟨n,hn,rfl⟩:=j5 hx;have jl:=(zO.mp hn).1;refine{rfl,_,rfl,(n:Int),rfl,(by rw[yh];omega),?_,rfl}
   rw[XQ]
  rintro I H8 ⟨hz,rfl⟩;subst hz;rw[zU];refine{by rw[yh];omega,λL hL=>{L,List.replicate ls.length true,rfl,u5 (by rw[zbJ];exact zd),_,rfl,ifT 1e3 ?_}}
  have s8:=zb (o:=.lst (List.replicate ls.length (V.bl true))) hL;have Y:=aa.trans s8;have ab:=s8 _ _ ak;generalize upd H8 L (.lst (List.replicate ls.length (V.bl true)))=H9 at s8 Y ab;refine{_,rfl,tp,_,_,_,rfl,rfl,Y.sqT qt,rfl,r,zL ls,rfl,by rw[<- jU];exact Y.sqT qr,(by unfold zL;rw[zm];omega),λp a1 hp aq az=>?_}
  have s9:=zb (o:=.lst (a1.map V.int)) hp;refine{_,rfl,D,u.map Prod.fst,rfl,u5 (s9 _ _ ab),(by rw[zm];omega),λp' a2 am ar b0=>?_}
  have ah:=zb (o:=.lst (a2.map V.int)) am;have ai:a1=a2:=List.Perm.eq_of_pairwise (le:=(·<= ·)) (λa b _ _ h1 h2=>()) az b0 (aq.trans (lp.trans ar.symm))
  refine{p,p',a1,a2,rfl,rfl,u5 (ah _ _ zd),u5 zd,?_}
  rw[zY ai];exact k _ (Y.trans (s9.trans ah))
theorem Qh{α:Type}{f:α->Dat}(h:∀a,(f a).imm=true):∀l:List α,Dat.imms (l.map f)=true
 | []=>rfl
 | a::l=>by
  show(Dat.imm (f a)&&Dat.imms (l.map f))=true;rw[h a,Qh h l];rfl
theorem zcZ(J:Job):(xJ J).imm=true:=by
 have t:∀e:List Dat,(Dat.tup e).imm=Dat.imms e:=λe=>rfl
 have c:∀(d:Dat) (e:List Dat),Dat.imms (d::e)=(d.imm&&Dat.imms e):=λd e=>rfl
 have o:(Qq J.as).imm=true:=Qh (f:=yb) (λa=>rfl) J.as
 unfold xJ;rw[t,c,c,c,c,c,t,t,t,Qh (λa=>rfl),Qh (λa=>rfl),o]
 rfl
inductive Vz(K:W.Frag)(t:List V)(H:Hp)(Q:VK):Prop
 | mk (b o:Addr) (n:Int) (J:Job) (_:t=[.ref b,.ref o]) (_:BoxAt H b n) (_:n<900000) (_:Rep K H (xJ J) (.ref o)) (_:1<=J.ps.length) (_:J.ps.length<=60) (_:1<=J.hd) (_:J.hd<=100) (_:∀(l:Addr) (e:List Nat) f,SameB b H f->BoxAt f b (n+J.ps.length+1)->l≠b->H l=none->f l=some (.lst (qm e))->e.Pairwise (·< ·)->1<=e.length->(e.length:Int)<=J.hd->(∀m∈e,m<J.ps.length)->Q (.ref l) f):Vz K t H Q
def Wf(K:W.Frag):Sp:=λe H Q _=>Vz K e H Q
theorem zcB:zM ["_law_box_here","_law_job_here"] ["_law_box_here","_law_job_here"] (zv (topL 38)):=u4
theorem zfG{f:Addr}{fd:FuncData}(F:Fun K "_law_group" "_law_group" (topL 38) f fd)(B:Blt G)(u:Dfn P w K G C "_law_take" 1 ["_law_box_here","_law_size"] wm)(t:Dfn P w K G C "_law_shuffled" 2 ["_law_box_here","_law_some"] (Wd K)):FnOk P w K G C CX0 3 f fd ["_law_box_here","_law_job_here"] (Wf K):=by
 have nd:=zcB.nd;refine F.ok zcB 0#i (λao A ae s H vs Q E hr h=>?_)
 .obtain⟨b,L,n,J,rfl,_⟩:=h
  rfl
 .obtain⟨b,L,n,J,rfl,U,n0,rj,p1,au,h1,al,k⟩:=h
  have sz:sizeLine=16777216:=sizeLine_eq;have ap:=bGe;obtain⟨g,fs,ps,as,fv,N,qj,rg,qf,rf,qp,rp,_⟩:=jg rj;have af:=rp.len;rw[zm] at af;refine{_,(@zp _ _ _ (@zJ _ _ _ _ (@zr _ _ _ _ _ _ _ _ _ w4 rfl B.sorted jF (@za _ _ _ _ _ (@xX _ _ _ _ _ _ _ _ _ _ y4 (@zn _ _ _ _ _ _ _ _ _ _ t hr.m rfl (@za _ _ _ _ _ 0#b (@za _ _ _ _ _ (@Qg _ _ _ _ _ _ _ rfl rfl B.list rfl B.range xm (@za _ _ _ _ _ (@zr _ _ _ _ _ _ _ _ _ zC rfl B.len boot_len (@za _ _ _ _ _ 0#A ze 1e2) 1e1 1e1 1e2 1e2) ze 1e2) 1e2 1e2) ze 1e2) 1e2) 1e1 1e2 1e2) wT (@vq _ _ _ (@zE _ _ _ _ _ _ _ _ qN zf (@zn _ _ _ _ _ _ _ _ _ _ u hr.m rfl (@za _ _ _ _ _ 0#b (@za _ _ _ _ _ (@zr _ _ _ _ _ _ _ _ _ (VW rfl) rfl B.min yE (@za _ _ _ _ _ 0#A (@za _ _ _ _ _ (@zr _ _ _ _ _ _ _ _ _ zC rfl B.len boot_len (@za _ _ _ _ _ 0#A ze 1e2) 1e1 1e1 1e2 1e2) ze 1e2) 1e2) 1e1 1e1 1e2 1e2) ze 1e2) 1e2) 1e1 1e2 1e2)))) ze 1e2) 1e1 1e1 1e2 1e2))),?_}
  refine{_,rfl,_,rfl,L,_,_,_,rfl,rfl,qj,rfl,ps,_,rfl,.inr qp,(N.length:Int),rfl,(),(),λl0 h0=>?_}
  have D:((List.range ((N.length:Int)).toNat).map λi:Nat=>V.int (i:Int)).length=J.ps.length:=by rw[zm,vk];omega
  refine{b,l0,n,_,rfl,U.new h0,(),U.nne h0,zd,by rw[D];omega,λo ys H1 S1 B1 no oN ho pm=>?_}
  obtain⟨e,op,rfl⟩:=vw pm rfl;rw[D] at B1;have ol:e.length=J.ps.length:=by rw[op.length_eq,vk];omega
  have I:=((u8 b H).new h0).trans S1;have aj:Rep K H1 (xJ J) (.ref L):=rj.keep (ub U I) (zcZ J);obtain⟨g1,aq,ah,an,ar,am,O,_,_,_,ai,ak,_⟩:=jg aj;have M:=ak.len;rw[zm] at M;refine{_,rfl,_,rfl,L,_,_,_,rfl,rfl,O,rfl,_,rfl,L,_,_,_,rfl,rfl,O,rfl,ah,_,rfl,.inr ai,_,_,rfl,?_}
  refine{b,_,_,rfl,B1,(),(by split<;>omega),(by split<;>omega),λr H2 r0 r1 B2 S2=>?_}
  have rb:r<J.hd/\r<(J.ps.length:Int):=by
   rw[M] at r1;split at r1<;>omega
  have Y:=S2 _ _ ho no;refine{1,r,rfl,rfl,1+r,rfl,o,_,rfl,u5 Y,λp hp=>?_}
  have ek:((1+r).toNat:Int)=1+r:=()
  have ec:jS (e.map λi:Nat=>V.int (i:Int)) none (some (1+r))=(zL (e.take (1+r).toNat)).map V.int:=by
   rw[<- jU];unfold jS;rw[<- ek,HT.sIx_none,HT.sIx_nat,zbv,Nat.sub_zero,zm,XI ()]
   unfold qm;rw[List.map_take,jC]
  rw[ec];have aa:=zd (H:=H2) (a:=p) (o:=.lst ((zL (e.take (1+r).toNat)).map V.int));have lt:(e.take (1+r).toNat).length=(1+r).toNat:=by rw[jb];omega
  refine{p,zL (e.take (1+r).toNat),rfl,u5 aa,(by unfold zL;rw[zm,lt];omega),λq ms hq ag pw=>?_}
  obtain⟨ns,np,rfl⟩:=vw ag rfl;have nl:ns.length=(1+r).toNat:=by rw[np.length_eq,lt]
  have ac:e.Nodup:=op.nodup_iff.mpr List.nodup_range;have ab:ns.Nodup:=np.nodup_iff.mpr ((zbI _ _).nodup ac);have S3:=(I.trans S2).new (o:=.lst ((zL (e.take (1+r).toNat)).map V.int)) hp;have B3:=B2.new (o:=.lst ((zL (e.take (1+r).toNat)).map V.int)) hp;have nq:=B3.nne hq;refine k q ns _ (S3.new hq) (B3.new hq) nq (S3.none hq nq) (by rw[jU];exact zd) ?_ () () λm hm=>?_
  .refine(yS.mp pw).imp₂ (λa b h1 h2=>?_) ab
   have:a≠b:=h2;have h1:(a:Int)<=(b:Int):=h1;omega
  .have:=op.mem_iff.mp (QS (np.mem_iff.mp hm))
   rw[xo] at this;omega
theorem JobOk.inB{J:Job}{e:List Nat}(h:JobOk J e):zgH J:=by
 have f:∀{x y:Int},inP x y->InB (x,y):=λ{x y} ⟨a,b,c,d⟩=>⟨a,b,c,d⟩
 exact{f h.gate,λq hq=>f (h.fa q hq).2.1,λq hq=>f (h.pa q hq).2.1}
theorem zbu:∀{l:List Nat} {k a:Nat},l.Nodup->l[k]? =some a->l.idxOf a=k
 | x::r,0,a,e,h=>by
  cases h;exact List.idxOf_cons_self
 | x::r,k+1,a,e,h=>by
  have h:r[k]? =some a:=h;obtain⟨f,o⟩:=vh.mp e;have ne:x≠a:=λz=>f (by rw[z];exact qw h)
  rw[List.idxOf_cons,zbu o h,beq_false_of_ne ne];rfl
theorem JobOk.rank{J:Job}{e:List Nat}(h:JobOk J e):∃f:Int->Nat,(∀q∈asI J,f q.1<f q.2)/\∀i,f i<=60:=by
 have o:e.Nodup:=h.op.nodup_iff.mpr List.nodup_range;have A:e.length=J.ps.length:=by rw[h.op.length_eq,vk]
 refine{λi=>e.idxOf i.toNat,λq hq=>?_,λi=>?_}
 .obtain⟨p,hp,rfl⟩:=zA.mp hq
  obtain⟨k,l,u,hk,t⟩:=h.bo p hp;show e.idxOf ((p.1:Int)).toNat<e.idxOf ((p.2:Int)).toNat;rw[jC,jC,zbu o hk,zbu o t];exact u
 .have:=List.idxOf_le_length (l:=e) (a:=i.toNat)
  have:=h.pl;show e.idxOf i.toNat<=60;omega
theorem JobOk.ah{J:Job}{e:List Nat}(h:JobOk J e):JAh J:=by
 refine{h.pl,λq hq=>?_,h.al}
 obtain⟨p,hp,rfl⟩:=zA.mp hq;obtain⟨k,l,o,hk,f⟩:=h.bo p hp;have a:=xo.mp (h.op.mem_iff.mp (qw hk));have b:=xo.mp (h.op.mem_iff.mp (qw f));exact{{by show(0:Int)<=(p.1:Int);omega,by show(p.1:Int)<_;omega},{by show(0:Int)<=(p.2:Int);omega,by show(p.2:Int)<_;omega}}
theorem zcx:zM ["_law_box_here","_law_job_here","_law_over_here","_law_turn","_law_parts","_law_kept","_law_handed","_law_found"] ["_law_box_here"] (zv (topL 39)):=u4
inductive Vv(f:List V)(H:Hp)(Q:VK):Prop
 | mk (b:Addr) (n:Int) (_:f=[.ref b]) (_:BoxAt H b n) (_:n<1000) (_:∀e,SameB b H e->Q (.bl true) e):Vv  f H Q
def zci:Sp:=λe H Q _=>Vv  e H Q
def zi6{f:Addr}{N:Value}{A:Around}{aa:List Env}{s:Shared}{H:Hp}{E:XK}(B:Blt G)(J:Dfn P w K G C "_law_take" 1 ["_law_box_here","_law_size"] wm)(Y:Dfn P w K G C "_law_job" 4 ["_law_box_here","_law_few","_law_most","_law_plenty"] (zeO K))(Q:Dfn P w K G C "_law_over" 1 ["_law_many","_law_aheads_here"] (zaQ K))(M:Dfn P w K G C "_law_group" 3 ["_law_box_here","_law_job_here"] (Wf K))(o:Dfn P w K G C "shortest_trip" 5 ["job","parts"] (ziZ K))(e:Dfn P w K G C "_law_is_whole_number" 1 ["_law_thing"] (Jv K))(I:Dfn P w K G C "_law_is_trip" 2 ["_law_job_here","_law_thing"] (zeG K))(L:Dfn P w K G C "_law_is_fit" 1 ["_law_job_here","_law_trip","_law_over_here"] (zeQ K))(D:Dfn P w K G C "_law_trip_long" 3 ["_law_job_here","_law_trip"] (zeH K))(u:Dfn P w K G C "_law_least_trip" 2 ["_law_job_here","_law_parts","_law_over_here"] (We K))
  (nd:(["_law_box_here","_law_job_here","_law_over_here","_law_turn","_law_parts","_law_kept","_law_handed","_law_found"]:List Str).Nodup) (O:Room 5 (A.deeper (envOfC "_law_right" (zv (topL 39)) s.heap.objs.size f N))) (hu:(A.deeper (envOfC "_law_right" (zv (topL 39)) s.heap.objs.size f N)).units<cLine) (U:(A.deeper (envOfC "_law_right" (zv (topL 39)) s.heap.objs.size f N)).units+64<cLine) (hg:(A.deeper (envOfC "_law_right" (zv (topL 39)) s.heap.objs.size f N)).guards=some []) :
  { t:TS // PSs (zbp CX0 P w K G C ["_law_box_here","_law_job_here","_law_over_here","_law_turn","_law_parts","_law_kept","_law_handed","_law_found"] "_law_right" (zv (topL 39)) f N A aa s H E).nox (wY (topL 39)) t }:=
 {_,(@zi _ _ _ _ _ (@zI _ _ 1 _ _ _ _ nd rfl 0#z (@zn _ _ _ _ _ _ _ _ _ _ Y O.m rfl (@za _ _ _ _ _ 0#b (@za _ _ _ _ _ (@zu _ _ _ _ _ _ _ qR (@je _ _ _ _ (@za _ _ _ _ _ zf (@za _ _ _ _ _ zf ze 1e2) 1e2)) (@qh _ _ _ _ _ _ _ _ _ Zg rfl B.int yF (@za _ _ _ _ _ (@xz _ _ _ _ _ _ _ _ Zm (@zn _ _ _ _ _ _ _ _ _ _ J O.m rfl (@za _ _ _ _ _ 0#b (@za _ _ _ _ _ zf ze 1e2) 1e2) 1e1 1e2 1e2) zf (qO _)) ze 1e2) 1e1 1e1 1e2 1e2) 0#d) (@za _ _ _ _ _ zf (@za _ _ _ _ _ (@xz _ _ _ _ _ _ _ _ Zm (@zn _ _ _ _ _ _ _ _ _ _ J O.m rfl (@za _ _ _ _ _ 0#b (@za _ _ _ _ _ zf ze 1e2) 1e2) 1e1 1e2 1e2) zf (qO _)) ze 1e2) 1e2) 1e2) 1e2) 1e1 1e2 1e2) 1e2 (by first| exact .inl rfl | exact .inr rfl | assumption)) (@zi _ _ _ _ _ (@zI _ _ 2 _ _ _ _ nd rfl 0#z (@zn _ _ _ _ _ _ _ _ _ _ Q O.m rfl (@za _ _ _ _ _ (@zr _ _ _ _ _ _ _ _ _ zC rfl B.len boot_len (@za _ _ _ _ _ 0#A ze 1e2) 1e1 1e1 1e2 1e2) (@za _ _ _ _ _ 0#A ze 1e2) 1e2) 1e1 1e2 1e2) 1e2 (by first| exact .inl rfl | exact .inr rfl | assumption)) (@zi _ _ _ _ _ (@qM _ _ _ _ _ _ _ _ jz rfl (@qS _ _ _ _ _ _ rfl B.range (@za _ _ _ _ _ (@zE _ _ _ _ _ _ _ _ xR zf (@qh _ _ _ _ _ _ _ _ _ Zg rfl B.int yF (@za _ _ _ _ _ (@xz _ _ _ _ _ _ _ _ (zhg hu) 0#A (@qD _ _ _ _ _ ze) (qO _)) ze 1e2) 1e1 1e1 1e2 1e2)) ze 1e2) 1e2) (@zy _ _ 3 _ nd rfl 0#z (by first| exact .inl rfl | exact .inr rfl | assumption)) (@zi _ _ _ _ _ (@zI _ _ 4 _ _ _ _ nd rfl 0#z (@zn _ _ _ _ _ _ _ _ _ _ M O.m rfl (@za _ _ _ _ _ 0#b (@za _ _ _ _ _ 0#a ze 1e2) 1e2) 1e1 1e2 1e2) 1e2 (by first| exact .inl rfl | exact .inr rfl | assumption)) (@zi _ _ _ _ _ (@zaW _ _ 5 6 _ _ _ _ _ _ _ _ _ _ _ rfl nd rfl rfl 1e1 rfl rfl (@za _ _ _ _ _ (@qh _ _ _ _ _ _ _ _ _ (VU hg U) rfl B.str zav (@za _ _ _ _ _ (@je _ _ _ _ (@za _ _ _ _ _ 0#a (@za _ _ _ _ _ 0#s ze 1e2) 1e2)) ze 1e2) 1e1 1e1 1e2 1e2) (@za _ _ _ _ _ (@qh _ _ _ _ _ _ _ _ _ Qk rfl B.list xm (@za _ _ _ _ _ 0#s ze 1e2) 1e1 1e1 1e2 1e2) ze 1e2) 1e2) 1e2 1e2) (@zi _ _ _ _ _ (@zI _ _ 7 _ _ _ _ nd rfl 0#z (@zn _ _ _ _ _ _ _ _ _ _ o O.m rfl (@za _ _ _ _ _ 0#a (@za _ _ _ _ _ 0#q ze 1e2) 1e2) 1e1 1e2 1e2) 1e2 (by first| exact .inl rfl | exact .inr rfl | assumption)) (@zi _ _ _ _ _ (@xu _ _ _ _ _ _ _ _ (@PW.pt _ _ _ (@ya _ _ _ _ _ _ _ (@vK _ _ _ _ (@xQ _ _ _ (@zr _ _ _ _ _ _ _ _ _ wK rfl B.isinstance boot_isinstance (@za _ _ _ _ _ 0#c 0#H 1e2) 1e1 1e1 1e2 1e2) (by intro _ ;rfl))) (@ya _ _ _ _ _ _ _ (@qG _ _ _ _ _ _ _ _ Zl (@zr _ _ _ _ _ _ _ _ _ zC rfl B.len boot_len (@za _ _ _ _ _ 0#c ze 1e2) 1e1 1e1 1e2 1e2) zf (qO _)) (@yr _ _ _ _ (@vK _ _ _ _ (@xQ _ _ _ (@zn _ _ _ _ _ _ _ _ _ _ e O.m rfl (@za _ _ _ _ _ (@zu _ _ _ _ _ _ _ zF 0#c zf 0#d) ze 1e2) 1e1 1e2 1e2) (by intro _ ;rfl))))))) 0#P jk) (@zi _ _ _ _ _ (@xu _ _ _ _ _ _ _ _ (@PW.pt _ _ _ (@ya _ _ _ _ _ _ _ (@vK _ _ _ _ (@xQ _ _ _ (@zn _ _ _ _ _ _ _ _ _ _ I O.m rfl (@za _ _ _ _ _ 0#a (@za _ _ _ _ _ (@zu _ _ _ _ _ _ _ zF 0#c zf 0#d) ze 1e2) 1e2) 1e1 1e2 1e2) (by intro _ ;rfl))) (@ya _ _ _ _ _ _ _ (@qG _ _ _ _ _ _ _ _ (zjl hu) (@zr _ _ _ _ _ _ _ _ _ xW rfl B.sorted jF (@za _ _ _ _ _ (@zu _ _ _ _ _ _ _ zF (@zu _ _ _ _ _ _ _ zF 0#c zf 0#d) zf 0#d) ze 1e2) 1e1 1e1 1e2 1e2) 0#s (qO _)) (@yr _ _ _ _ (@vK _ _ _ _ (@xQ _ _ _ (@zn _ _ _ _ _ _ _ _ _ _ L O.m rfl (@za _ _ _ _ _ 0#a (@za _ _ _ _ _ (@zu _ _ _ _ _ _ _ zF 0#c zf 0#d) (@za _ _ _ _ _ 0#f ze 1e2) 1e2) 1e2) 1e1 1e2 1e2) (by intro _ ;rfl))))))) 0#P jk) (@zi _ _ _ _ _ (@xu _ _ _ _ _ _ _ _ (@PW.pt _ _ _ (@ya _ _ _ _ _ _ _ (@qG _ _ _ _ _ _ _ _ Zl (@zu _ _ _ _ _ _ _ zF 0#c zf 0#d) (@zn _ _ _ _ _ _ _ _ _ _ D O.m rfl (@za _ _ _ _ _ 0#a (@za _ _ _ _ _ (@zu _ _ _ _ _ _ _ zF 0#c zf 0#d) ze 1e2) 1e2) 1e1 1e2 1e2) (qO _)) (@yr _ _ _ _ (@qG _ _ _ _ _ _ _ _ Zl (@zu _ _ _ _ _ _ _ zF 0#c zf 0#d) (@zn _ _ _ _ _ _ _ _ _ _ u O.m rfl (@za _ _ _ _ _ 0#a (@za _ _ _ _ _ 0#s (@za _ _ _ _ _ 0#f ze 1e2) 1e2) 1e2) 1e1 1e2 1e2) (qO _))))) 0#P jk) (@zp _ _ _ (@xu _ _ _ _ _ _ _ _ (@qG _ _ _ _ _ _ _ _ Zl (@qh _ _ _ _ _ _ _ _ _ (VU hg U) rfl B.str zav (@za _ _ _ _ _ (@je _ _ _ _ (@za _ _ _ _ _ 0#a (@za _ _ _ _ _ 0#q ze 1e2) 1e2)) ze 1e2) 1e1 1e1 1e2 1e2) 0#r (qO _)) 0#P jk)))))))) (by intro _ ;rfl)) 0#P)))}
theorem ByOrd.mem1{f:List Nat}{o:List (Nat×Nat)}(h:ByOrd f o){p:Nat×Nat}(hp:p∈o):p.1∈f:=by
 obtain⟨k,l,_,e,_⟩:=h p hp;exact qw e
theorem ByOrd.mem2{f:List Nat}{o:List (Nat×Nat)}(h:ByOrd f o){p:Nat×Nat}(hp:p∈o):p.2∈f:=by
 obtain⟨k,l,_,_,e⟩:=h p hp;exact qw e
theorem yq{α:Type}{f:α->Dat}:∀{l:List α},(∀a∈l,(f a).shw=true)->Dat.shws (l.map f)=true
 | [],_=>rfl
 | a::l,h=>by
  show((f a).shw&&Dat.shws (l.map f))=true;rw[h a 1e3,yq λb hb=>h b (jf _ hb)]
  rfl
theorem yG{α:Type}{f:α->Dat}{c:Nat}:∀{l:List α},(∀a∈l,(f a).blk<=c)->Dat.blks (l.map f)<=(c+1)*l.length
 | [],_=>qJ _
 | a::l,h=>by
  show(f a).blk+1+Dat.blks (l.map f)<=_;have h1:=h a 1e3
  have h2:=yG (f:=f) (c:=c) (l:=l) λb hb=>h b (jf _ hb)
  rw[qH,Nat.mul_succ];omega
theorem yB{α:Type}{f:α->Dat}{c:Nat}(h:∀a,(f a).py.depth<=c):∀l:List α,PyData.depthAll (Dat.pys (l.map f))<=c
 | []=>qJ _
 | a::l=>by
  have h1:=h a;have h2:=yB h l;show max (PyData.depth (f a).py) (PyData.depthAll (Dat.pys (l.map f)))<=c;omega
theorem wX{i:Int}(h:-1000000<=i)(e:i<=1000000):Dat.shw (.int i)=true:=zY ()
theorem zfJ{x:Str}(h:Nm x):Dat.shw (.str x)=true:=xD.mpr λc hc=>zY (h.2 c hc)
theorem zfK{x:Str}(h:Nm x):Dat.blk (.str x)<=8:=h.1
theorem zaY{x y:Int}(h:inP x y):Dat.shw (.tup [.int x,.int y])=true:=by
 unfold inP at h;show(Dat.shw (.int x)&&(Dat.shw (.int y)&&true))=true;rw[wX () (),wX () ()]
 rfl
theorem zhE{J:Job}{f:List Nat}(e:JobOk J f):(xJ J).shw=true:=by
 have o:=e.hd0;have t:=e.hd1;show(Dat.shw (.tup [.int J.gx,.int J.gy])&&(Dat.shw (.int J.hd)&&(Dat.shws (J.fs.map we)&&(Dat.shws (J.ps.map xL)&&(Dat.shws (J.as.map yb)&&true)))))=true;rw[zaY e.gate,wX () (),yq,yq,yq]
 .rfl
 .intro p hp
  have h1:=xo.mp (e.op.mem_iff.mp (e.bo.mem1 hp));have h2:=xo.mp (e.op.mem_iff.mp (e.bo.mem2 hp));have A:=e.pl;show(Dat.shw (.int (p.1:Int))&&(Dat.shw (.int (p.2:Int))&&true))=true;rw[wX () (),wX () ()]
  rfl
 .intro p hp
  obtain⟨h1,h2,_⟩:=e.pa p hp;show(Dat.shw (.str p.k)&&(Dat.shw (.tup [.int p.x,.int p.y])&&true))=true;rw[zfJ h1,zaY h2];rfl
 .intro p hp
  obtain⟨h1,h2,h3,u⟩:=e.fa p hp;show(Dat.shw (.str p.k)&&(Dat.shw (.tup [.int p.x,.int p.y])&&(Dat.shw (.int p.m)&&true)))=true;rw[zfJ h1,zaY h2,wX () ()]
  rfl
theorem zhG{J:Job}{o:List Nat}(e:JobOk J o):(xJ J).blk<=10000:=by
 have h1:=yG (f:=we) (c:=20) (l:=J.fs) λp hp=>by
  have:=zfK (e.fa p hp).1;show Dat.blk (.str p.k)+1+(0+1+(0+1+0)+1+(0+1+0))<=20;omega
 have h2:=yG (f:=xL) (c:=20) (l:=J.ps) λp hp=>by
  have:=zfK (e.pa p hp).1;show Dat.blk (.str p.k)+1+(0+1+(0+1+0)+1+0)<=20;omega
 have h3:=yG (f:=yb) (c:=20) (l:=J.as) λp hp=>by
  show 0+1+(0+1+0)<=20;omega
 have u:=e.fl;have A:=e.pl;have t:=e.al;show 0+1+(0+1+0)+1+(0+1+(Dat.blks (J.fs.map we)+1+(Dat.blks (J.ps.map xL)+1+(Dat.blks (J.as.map yb)+1+0))))<=10000;omega
theorem zhF(J:Job):(xJ J).py.depth<=20:=by
 have h1:=yB (f:=we) (c:=10) (λp=>by
  show PyData.depth (.tuple [.str p.k,.tuple [.int p.x,.int p.y],.int p.m])<=10;simp[PyData.depth,PyData.depthAll]) J.fs
 have h2:=yB (f:=xL) (c:=10) (λp=>by
  show PyData.depth (.tuple [.str p.k,.tuple [.int p.x,.int p.y]])<=10;simp[PyData.depth,PyData.depthAll]) J.ps
 have h3:=yB (f:=yb) (c:=10) (λp=>by
  show PyData.depth (.tuple [.int p.1,.int p.2])<=10;simp[PyData.depth,PyData.depthAll]) J.as
 show PyData.depth (.tuple [.tuple [.int J.gx,.int J.gy],.int J.hd,.tuple (Dat.pys (J.fs.map we)),.tuple (Dat.pys (J.ps.map xL)),.tuple (Dat.pys (J.as.map yb))])<=20;simp only[PyData.depth,PyData.depthAll];omega
def ZD(J:Job)(e:List Nat):Dat:=.lst [xJ J,.lst ((zL e).map Dat.int)]
def RowsB(b:Addr)(H:Hp)(o:Addr)(e:List (List Int)):Prop:=o≠b/\∃t,H o=some (.lst t)/\∀(p:Nat) (f:List Int),e[p]? =some f->∃a,t[p]? =some (.ref a)/\a≠b/\H a=some (.lst (f.map V.int))
theorem RowsB.sameB{b:Addr}{H t:Hp}{u:Addr}{o:List 0#y}(h:RowsB b H u o)(s:SameB b H t):RowsB b t u o:=let ⟨n,B,a,r⟩:=h;{n,B,s _ _ a n,λp A e=>let ⟨c,d,f,g⟩:=r p A e;{c,d,f,s _ _ g f}}
theorem RowsB.at{b:Addr}{H:Hp}{o:Addr}{f:List (List Int)}(h:RowsB b H o f):RowsAt H o f:=let ⟨_,u,a,r⟩:=h;{u,a,λp t e=>let ⟨c,d,_,g⟩:=r p t e;⟨c,d,g⟩}
theorem RowsB.of{b:Addr}{n:Int}{H u:Hp}{A:Addr}{o:List 0#y}(B:BoxAt H b n)(h0:H A=none)(h:∃t,u A=some (.lst t)/\Rws H u o t):RowsB b u A o:=let ⟨t,a,_,r⟩:=h;{B.nne h0,t,a,λp D e=>let ⟨c,d,f,g⟩:=r p D e;{c,d,B.nne f,g}}
theorem zjI{n:Nat}{e:List Int}(u:e.Pairwise (·< ·))(h:∀j∈e,InN n j):e.length<=n:=by
 have t:(e.map Int.toNat).Nodup:=yS.mpr (u.imp_of_mem λf hb l z=>by
  have:=h _ f;have:=h _ hb;unfold InN at *
  omega)
 have:=Zn (e.map Int.toNat) (List.range n) t λx hx=>by
  obtain⟨j,o,rfl⟩:=zA.mp hx;have:=h j o;unfold InN at this;exact xo.mpr ()
 rw[zm,vk] at this;exact this
theorem J8{e:List Nat}(h:e.Pairwise (·< ·)):(zL e).Pairwise (·< ·):=yS.mpr (h.imp λ{a b} l=>by show(a:Int)<(b:Int);omega)
theorem VQ:∀e:List Int,(e.map V.int).all xB=true
 | []=>rfl
 | m::e=>VQ e
theorem VH{K:W.Frag}{H:Hp}{J:Job}{f:List Nat}{e p u:Addr}(o:Rep K H (xJ J) (.ref e))(hp:H p=some (.lst (qm f)))(hu:H u=some (.lst [.ref e,.ref p])):Rep K H (ZD J f) (.ref u):=by
 rw[jU] at hp;exact{u,_,rfl,u5 hu,_,_,rfl,o,_,_,rfl,{p,_,rfl,u5 hp,VC _},rfl}
theorem zdV{J:Job}{o:List Nat}{e:List Nat}(t:JobOk J o)(h:∀m∈e,m<J.ps.length):(ZD J e).shw=true:=by
 have A:=t.pl;show((xJ J).shw&&(Dat.shws ((zL e).map Dat.int)&&true))=true;rw[zhE t,yq (f:=Dat.int) λi u=>by
  obtain⟨m,hm,rfl⟩:=zA.mp u;have:=h m hm;exact wX () ()]
 rfl
theorem zdX{J:Job}{e:List Nat}{ns:List Nat}(o:JobOk J e)(h:ns.length<=60):(ZD J ns).blk<=1048576:=by
 have h1:=zhG o;have h3:=yG (f:=Dat.int) (c:=0) (l:=zL ns) λp hp=>zx _
 have:(zL ns).length=ns.length:=zm _;show(xJ J).blk+1+(Dat.blks ((zL ns).map Dat.int)+1+0)<=_;omega
theorem zdW(J:Job)(e:List Nat):(ZD J e).py.depth<=60:=by
 have h1:=zhF J;have h3:=yB (f:=Dat.int) (c:=10) (λp=>by
  show PyData.depth (.int p)<=10;simp[PyData.depth]) (zL e)
 show PyData.depth (.list [(xJ J).py,.list (Dat.pys ((zL e).map Dat.int))])<=60;simp only[PyData.depth,PyData.depthAll];omega
def zdw(b:_)(o:_)(t:_)(H:_)(n:_)(K:_)(J:_)(f:_):=λ(i:Nat) (σ:St) (e:Hp)=>(Ex5 λ(u A B D E:Option V)=>An5 (σ=[some (.ref b),some (.ref o),some (.ref t),u,A,B,D,E]) (SameB b H e) (BoxAt e b (n+1+1+3000+100*i)) (Rep K e (xJ J) (.ref o)) (RowsB b e t f):Prop)
theorem zfC{f:Addr}{fd:FuncData}(F:Fun K "_law_right" "_law_right" (topL 39) f fd)(B:Blt G)(ao:Dfn P w K G C "_law_take" 1 ["_law_box_here","_law_size"] wm)(aw:Dfn P w K G C "_law_job" 4 ["_law_box_here","_law_few","_law_most","_law_plenty"] (zeO K))(an:Dfn P w K G C "_law_over" 1 ["_law_many","_law_aheads_here"] (zaQ K))(af:Dfn P w K G C "_law_group" 3 ["_law_box_here","_law_job_here"] (Wf K))(M:Dfn P w K G C "shortest_trip" 5 ["job","parts"] (ziZ K))(D:Dfn P w K G C "_law_is_whole_number" 1 ["_law_thing"] (Jv K))(ac:Dfn P w K G C "_law_is_trip" 2 ["_law_job_here","_law_thing"] (zeG K))(ae:Dfn P w K G C "_law_is_fit" 1 ["_law_job_here","_law_trip","_law_over_here"] (zeQ K))(Y:Dfn P w K G C "_law_trip_long" 3 ["_law_job_here","_law_trip"] (zeH K))(O:Dfn P w K G C "_law_least_trip" 2 ["_law_job_here","_law_parts","_law_over_here"] (We K)):FnOk P w K G C CX0 6 f fd ["_law_box_here"] zci:=by
 have nd:=zcx.nd;refine F.ok zcx 0#i (λch A c6 s H vs Q E hr h=>?_)
 .obtain⟨b,n,rfl,_⟩:=h
  rfl
 .obtain⟨b,n,rfl,B0,hn,k⟩:=h
  have cd:=bG1000000;have bh:=bGe;refine{_,(zi6 B ao aw an af M D ac ae Y O nd hr hr.units0 hr.units hr.gd).2,?_}
  refine{_,rfl,le2,λl0 h0=>{_,rfl,b,16,n,rfl,B0.new h0,(),1e1,1e1,λr H1 r0 r1 B1 S1=>?_}}
  have c4:=B0.nne h0;have L1:H1 l0=some (.lst [.int 7,.int 60]):=S1 _ _ zd c4;obtain⟨ai,ef,f0,bw⟩:∃ai:Int,atI [V.int 7,V.int 60] (if decide (V.int r=V.int 0)=true then 1 else 0)=some (.int ai)/\0<=ai/\ai<=60:=by
   cases decide (V.int r=V.int 0)
   .exact{7,rfl,1e1,1e1}
   .exact{60,rfl,1e1,1e1}
  refine{rfl,.inr {_,rfl,l0,_,_,_,rfl,rfl,u5 L1,ef,?_}}
  refine{_,rfl,b,2,_,rfl,B1,(),1e1,1e1,λr2 H2 q0 q1 B2 S2=>{rfl,b,ai,24,_,_,rfl,B2,(),f0,bw,1e1,1e1,λjp J ck H3 S3 B3 rj jo=>?_}}
  have bv:SameB b H H3:=((((u8 b H).new h0).trans S1).trans S2).trans S3;clear S1 S2 S3 B1 B2 L1 ef q0 q1 r0 r1;obtain⟨rk,aj,br⟩:=jo.rank;have b0:=jo.ah;have jB:=jo.inB;obtain⟨g,fs,ps,as,fv,px,qj,rg,qf,rf,qp,rp,ra⟩:=jg rj;obtain⟨cg,xs,ea,qa,bo⟩:=ra;cases ea;rw[<- zdh] at bo;have aq:=rp.len;rw[zm] at aq;have av:=jo.pl;refine{_,rfl,jp,_,_,_,rfl,rfl,qj,rfl,ps,_,rfl,.inr qp,?_}
  refine{_,rfl,jp,_,_,_,rfl,rfl,qj,rfl,as,xs,asI J,px.length,rk,rfl,.inr qa,bo,(by rw[JJ];have:=jo.al;omega),(),(by rw[aq];exact b0.2.1),aj,br,λol U H4 s4 c0 bj ml al=>?_}
  have RB:=RowsB.of B3 c0 bj;rw[aq] at ml;have c9:=rj.same s4;have c7:=s4.sqT qj;have c8:=s4.sqT qp;have B4:=B3.same s4;have S4:=bv.trans (.of s4);refine{_,rfl,jp,_,_,_,rfl,rfl,c7,rfl,le0,λem bi=>{ps,em,px,rfl,rfl,(zb bi).sqT c8,u6 zd,?_}}
  have s5:=zb (H:=H4) (o:=.tup []) bi;have bp:=c9.same s5;have B5:=B4.same s5;have S5:=S4.trans (.of s5);have bc:=RB.sameB (.of s5);generalize upd H4 em (.tup [])=H5 at s5 bp B5 S5 bc;refine .inr {_,rfl,4,_,rfl,rfl,Qj 1e1 1e1,_,rfl,(by rw[bh];split<;>omega),(by rw[bh];split<;>omega),?_}
  have hN:(4*if(!px.isEmpty)=true then(1:Int) else 0).toNat<=4:=by split<;>omega
  have hP:∀i:Nat,i<(4*if(!px.isEmpty)=true then(1:Int) else 0).toNat->1<=J.ps.length:=λi hi=>by
   cases px with
   | nil=>have h0:i<(4*(0:Int)).toNat:=hi;omega
   | cons x r=>rw[<- aq,qH];omega
  refine ju (zdw b jp ol H n K J U) {_,_,_,_,_,rfl,S5,B5.mono (),bp,bc} ?_ ?_
  rotate_left
  .rintro σ H6 ⟨v3,v4,v5,v6,v7,rfl,S6,_⟩
   exact k _ S6
  rintro i σ H6 hi ⟨v3,v4,v5,v6,v7,rfl,S6,B6,bq,bu⟩;have p1:=hP i hi;refine{_,rfl,_,rfl,b,jp,_,J,rfl,B6,(),bq,p1,av,jo.hd0,by have:=jo.hd1;omega,λpa I H7 S7 B7 cj cl P7 ag n1 nh N=>?_}
  have ar:=bq.keep (ub B6 S7) (zcZ J);have bd:=bu.sameB S7;have bf:=S6.trans S7;have n6:I.length<=4:=by have:=jo.hd1;omega
  have ap:I.Nodup:=ag.imp λ{a b} l=>zN l
  have bt:=zdV jo N;have blk:=zdX (ns:=I) jo ()
  have bg:=zdW J I;refine{_,rfl,_,rfl,le2,λu1 ay=>{u1,ZD J I,rfl,VH (ar.same (zb ay)) (zb ay _ _ P7) zd,bt,blk,bg,?_}}
  generalize ax:(ZD J I).py.shown=ce;have s8:=zb (H:=H7) (o:=.lst [.ref jp,.ref pa]) ay;generalize upd H7 u1 (.lst [.ref jp,.ref pa])=H8 at s8;have P8:=s8 _ _ P7;refine{_,rfl,pa,_,rfl,.inl (u5 P8),λhd bz=>{_,_,rfl,?_}}
  have s9:=zb (H:=H8) (o:=.lst (qm I)) bz;have D9:=zd (H:=H8) (a:=hd) (o:=.lst (qm I));generalize upd H8 hd (.lst (qm I))=H9 at s9 D9;have au:=s8.trans s9;refine{_,rfl,_,rfl,jp,hd,J,I,rk,rfl,ar.same au,b0,aj,jx jo.fl 1e1,λp hp=>(jo.pa p hp).2.2,D9,ap,n1,(),N,λT V2 t r zs cb ms ls HA sA qT qV qt rz qr bb=>?_}
  have ro:x9 J I U:=λm hm j=>by
   have lt:=N m hm;have e:U[m]? =some U[m]:=vo ()
   rw[Jd,e];exact(al m _ e).2 j
  have bm:∀m∈I,∃ov,U[m]? =some ov/\ov.length<=60:=λm hm=>by
   have lt:=N m hm;have e:U[m]? =some U[m]:=vo ()
   refine{_,e,jx (zjI (al m _ e).1 λj hj=>?_) av}
   obtain⟨k',k1,wk⟩:=((al m _ e).2 j).mp hj;exact Wk.in1 b0.2.1 k1 wk
  obtain⟨ew,pp,pq,lp,lf⟩:=zeU ap N aj ro bb;have pl:=pp.length_eq;rw[zm] at pl;have nl:(zL I).length=I.length:=zm _;have ll:=lp.length_eq;have cf:SameB b H HA:=bf.trans (.of (au.trans sA));have bs:=au.trans sA;have ak:=ar.same bs;have be:=(bd.sameB (.of bs)).at;have PA:=sA _ _ (s9 _ _ P8);have DA:=sA _ _ D9;refine{_,rfl,_, "tuple", "tuple",rfl,.inr {rfl,_,qT},1e1,_,rfl,ifF 1e1 ?_}
  refine{_,rfl,T,_,rfl,.inr qT,rfl,_,rfl,ifF (show(!decide (V.int 2=V.int 2))=false by decide) ?_}
  refine{_,rfl,T,_,_,_,rfl,rfl,qT,rfl,cb,rfl,_,rfl,ifF rfl ?_}
  refine{_,rfl,_,rfl,T,_,_,_,rfl,rfl,qT,rfl,jp,V2,t,r,J,zs,xw J ms I,ls,rfl,ak,qV,qt,rz,qr,(),by have:=jo.hd1;omega,(),λq hq=>?_,?_,?_,λHB sB=>{_,rfl,ifF rfl ?_}}
  .obtain⟨u,v,e,u1,u2,_⟩:=pq q hq
   exact{u,v,e,N u u1,u2}
  .exact pp.nodup_iff.mpr ((J8 ag).imp λ{a b} l=>())
  .exact(lp.map _).trans pp.symm
  have bn:=sB.sqT qr;have ca:∀{us:List Int},us.Perm (zL ls)->us.Pairwise (·<= ·)->us=zL I:=λpm pw=>by
   have c5:(zL I).Nodup:=(J8 ag).imp λ{a b} l=>()
   have p2:_:=pm.trans (lp.map _);exact zh8 (zeC p2 c5 pw) (J8 ag) λj=>p2.mem_iff
  rw[jU] at bn;refine{_,rfl,T,_,_,_,rfl,rfl,sB.sqT qT,rfl,V2,_,_,_,rfl,rfl,sB.sqT qV,rfl,r,zL ls,rfl,bn,(by unfold zL;rw[zm];omega),λsl us c3 pm pw=>?_}
  cases ca pm pw;have sC:=zb (H:=HB) (o:=.lst ((zL I).map V.int)) c3;have QC:=zd (H:=HB) (a:=sl) (o:=.lst ((zL I).map V.int));generalize upd HB sl (.lst ((zL I).map V.int))=HC at sC QC;have aa:=sB.trans sC;have PC:=aa _ _ PA;rw[jU] at PC;refine{_,rfl,sl,pa,_,rfl,rfl,u5 QC,u5 PC,VQ _,λv hv=>?_,_,rfl,ifF rfl ?_}
  .obtain⟨i,_,rfl⟩:=zA.mp hv
   exact zY rfl
  refine{_,rfl,_,rfl,T,_,_,_,rfl,rfl,aa.sqT qT,rfl,_,rfl,jp,V2,t,r,ol,J,zs,xw J ms I,ls,U,rfl,ak.same aa,aa.sqT qV,aa.sqT qt,rz.same aa,aa.sqT qr,be.same aa,(),(),λq hq=>?_,λm hm=>bm m (lp.mem_iff.mp hm),lf,λHD sD=>{_,rfl,ifF rfl ?_}}
  .obtain⟨u,v,e,u1,u2,u3⟩:=pq q hq
   exact{u,v,e,N u u1,u2,u3}
  have ab:=aa.trans sD;refine{_,rfl,T,_,_,_,rfl,rfl,ab.sqT qT,rfl,_,rfl,_,rfl,T,_,_,_,rfl,rfl,ab.sqT qT,rfl,jp,V2,t,r,J,zs,xw J ms I,ls,rfl,ak.same ab,jB,ab.sqT qV,ab.sqT qt,rz.same ab,ab.sqT qr,(),(),λq hq=>?_,λm hm=>N m (lp.mem_iff.mp hm),λHE sE=>?_}
  .obtain⟨u,v,e,u1,u2,u3⟩:=pq q hq
   rw[e];exact{Int.natCast_nonneg _,by show(v:Int)<_;omega}
  have am:=ab.trans sE;have bx:∃e,Ln J I U (2*I.length) e:=by
   obtain⟨ci,ah,ss,cm,k1,k2,k3,k4,_⟩:=id bb;obtain⟨e,he,_⟩:=Yq ap N k1 k2 aj ro k3 k4;exact⟨e,he⟩
  refine{rfl,_,rfl,ifF (by rw[<- ew,zY rfl];rfl) ?_}
  refine{_,rfl,T,_,_,_,rfl,rfl,am.sqT qT,rfl,_,rfl,_,rfl,_,rfl,jp,pa,ol,J,I,U,rfl,ak.same am,jx jo.fl 1e1,jB,am _ _ PA,be.same am,bm,ag,(),N,bx,λL HF sF hL=>?_}
  have el:=zeT ap N aj ro bb hL;have ba:=am.trans sF;refine{rfl,_,rfl,ifF (by rw[el,zY rfl];rfl) ?_}
  refine{_,rfl,_,rfl,le2,λu2 az=>{u2,ZD J I,rfl,VH ((ak.same ba).same (zb az)) (zb az _ _ (ba _ _ DA)) zd,bt,blk,bg,?_}}
  have t7:=au.trans (sA.trans (ba.trans (zb (o:=.lst [.ref jp,.ref hd]) az)));refine{_,rfl,rfl,_,rfl,ifF (by rw[ax,zY rfl];rfl) ?_}
  exact{_,_,_,_,_,rfl,bf.trans (.of t7),(B7.same t7).mono (by push_cast;omega),ar.same t7,bd.sameB (.of t7)}
inductive zcm(K:W.Frag)(f:List V)(H:Hp)(Q:VK):Prop
 | mk (a:Addr) (e:List Int) (_:f=[.ref a]) (_:SqL K H a (e.map V.int)) (_:e.length<=63) (_:∀o,Q (.bl true) o):zcm K f H Q
def spLaw(K:W.Frag):Sp:=λe H Q _=>zcm K e H Q
theorem zim:zM ["_law_script","_law_cells"] ["_law_script"] (zv (topL 40)):=u4
theorem zjs{f:Addr}{fd:FuncData}(F:Fun K "law" "law" (topL 40) f fd)(B:Blt G)(t:Dfn P w K G C "_law_folded" 1 ["_law_script","_law_size"] (zeP K))(L:Dfn P w K G C "_law_box" 1 ["_law_script","_law_k"] (zig K))
  (I:Dfn P w K G C "_law_right" 6 ["_law_box_here"] zci):FnOk P w K G C CX0 7 f fd ["_law_script"] (spLaw K):=by
 have nd:=zim.nd;refine F.ok zim 0#i (λac A aa s H vs Q E Y h=>?_)
 .obtain⟨a,ns,rfl,_⟩:=h
  rfl
 .obtain⟨a,ns,rfl,hS,N,k⟩:=h
  refine{_,(zi (zI (i:=1) nd rfl (Or.inr rfl) (zn t Y.m rfl 0#F))
   (zp (zJ (zr (Zh rfl) rfl B.all boot_all (za (jT ["_law_cells"] [1] rfl rfl (by kernel_rfl) (qS rfl B.range (za (zr (QE rfl) rfl B.max Xt (za zf (za (zr zC rfl B.len boot_len 0#K) ze))) ze)) 0#v (λ_ _ _ _=>(zn I Y.m rfl (za (zn L Y.m rfl (za (pv 1) (za (pv 0) ze))) ze)))) ze))))),?_}
  refine{_,rfl,a,ns,6,rfl,hS,N,1e1,1e1,λp J H1 s1 hp hm=>?_}
  have M:=bGe;have hl:(J.map V.int).length<=6:=by rw[zm];exact hm
  refine{_,rfl,p,_,rfl,.inl hp,_,_,rfl,_,rfl,(by rw[M];split<;>omega),(by rw[M];split<;>omega),?_}
  have hN:(if((J.map V.int).length:Int)>1 then((J.map V.int).length:Int) else 1).toNat<=8:=by split<;>omega
  have ab:=bG100;refine Xb (λi zs O=>zs=List.replicate i (V.bl true)/\Same H1 O) {rfl,u7 _} ?_ ?_
  .rintro i zs O hi ⟨rfl,U⟩
   rw[ZL];refine{rfl,?_}
   refine{_,rfl,_,rfl,p,J,i,rfl,U.seq hp,(),λq o hq Bq=>{q,0,rfl,Bq,1e1,λH3 s3=>{?_,?_,λc u e=>?_}}}
   .rw[yh];omega
   .rw[XQ]
   .exact s3 c u ((zb hq) c u (U c u e)) (zk (U c u e) hq)
  .rintro zs O ⟨rfl,U⟩
   refine{by rw[yh];omega,λD hD=>{D,List.replicate (if((J.map V.int).length:Int)>1 then((J.map V.int).length:Int) else 1).toNat true,rfl,?_,?_}}
   .refine u5 ?_
    rw[zd,zbJ]
   .have:=k (upd O D (.lst (List.replicate (if((J.map V.int).length:Int)>1 then((J.map V.int).length:Int) else 1).toNat (V.bl true))))
    simpa using this
end
theorem all_mk{l:PySem.W.OpenLaw}{w:World}{K:W.Frag}{h:Heap}{mg:Str->Option Value}{fa:Addr}(X:K.In h)(e:zjz zbo zet zdA K=zjR zbo zet zdA)(G:h.Ns mainGlobals mg)(aw:mg "law" = some (.ref fa)) :
  ∃fd:FuncData,(∀(s:Shared) (v:Value),BindsTo s fd {[v],[]} [("_law_script",v)])/\∀aq:Heap,K.In aq->aq.Ns mainGlobals mg->FnOk l.prog w K mg aq CX0 7 fa fd ["_law_script"] (spLaw K):=by
 have Z0:Tp l.prog w K mg h h zbo zet zdA:=⟨X,G,e⟩;have B:Blt mg:={Z0.bl 0 rfl,Z0.bl 1 rfl,Z0.bl 2 rfl,Z0.bl 3 rfl,Z0.bl 4 rfl,Z0.bl 5 rfl,Z0.bl 6 rfl,Z0.bl 7 rfl,Z0.bl 8 rfl,Z0.bl 9 rfl,Z0.bl 10 rfl,Z0.bl 11 rfl,Z0.bl 12 rfl,Z0.bl 13 rfl,Z0.bl 14 rfl,Z0.bl 15 rfl,Z0.bl 16 rfl,Z0.bl 17 rfl,Z0.bl 18 rfl,Z0.bl 19 rfl};obtain⟨f,fd,a,F⟩:=Z0.fd 36 rfl;cases aw.symm.trans (PySem.W.mg_of X G a);refine{fd,?_,λaq _ _=>?_}
 .obtain⟨_,_,_,_,_,_,_,_,_,rfl,_,_⟩:=F.ex
  exactλs v=>.of_eq rfl
 have Z:Tp l.prog w K mg aq h zbo zet zdA:=⟨X,G,e⟩;have C:=Z.dfn 0 rfl λ_ _ F _ _=>zjn F B
 have av:=Z.dfn 1 rfl λ_ _ F _ _=>zfz F B
 have au:=Z.dfn 2 rfl λ_ _ F _ _=>zhp F B
 have ag:=Z.dfn 3 rfl λ_ _ F _ _=>zfA F B
 have al:=Z.dfn 4 rfl λ_ _ F _ _=>zjy F B ag
 have ak:=Z.dfn 5 rfl λ_ _ F _ _=>zfH F B av au al
 have M:=Z.dfn 6 rfl λ_ _ F _ _=>zju F B
 have N:=Z.dfn 7 rfl λ_ _ F _ _=>zkJ F B
 have L:=Z.dfn 8 rfl λ_ _ F _ _=>zjw F B C
 have H:=Z.dfn 9 rfl λ_ _ F _ _=>zhn F B M L
 have J:=Z.dfn 10 rfl λ_ _ F _ _=>zhs F B ak L
 have ap:=Z.dfn 11 rfl λ_ _ F _ _=>zjq F B N
 have I:=Z.dfn 12 rfl λ_ _ F _ _=>zkI F B N C H J ap
 have ar:=Z.dfn 13 rfl λ_ _ F _ _=>zjx F B
 have o:=Z.dfn 14 rfl λ_ _ F _ _=>zhl F B
 have ab:=Z.dfn 15 rfl λ_ _ F _ _=>zht F B
 have U:=Z.dfn 16 rfl λ_ _ F _ _=>zfB F B
 have an:=Z.dfn 17 rfl λ_ _ F _ _=>zjr F B o U
 have ai:=Z.dfn 18 rfl λ_ _ F _ _=>zfE F B an
 have A:=Z.dfn 19 rfl λ_ _ F _ _=>zfD F B o
 have ae:=Z.dfn 20 rfl λ_ _ F _ _=>zdZ F B A
 have u:=Z.dfn 21 rfl λ_ _ F _ _=>zhm F B o
 have O:=Z.dfn 22 rfl λ_ _ F _ _=>zhu F B o u A
 have aa:=Z.dfn 23 rfl λ_ _ F _ _=>zd0 F B o u
 have as:=Z.dfn 24 rfl λ_ _ F _ _=>zjt F B o ai A ae O aa
 have Y:=Z.dfn 25 rfl λ_ _ F _ _=>zhq F B
 have ao:=Z.dfn 26 rfl λ_ _ F _ _=>zho F B
 have af:=Z.dfn 27 rfl λ_ _ F _ _=>zdY F B
 have D:=Z.dfn 28 rfl λ_ _ F _ _=>zfF F B Y af
 have am:=Z.dfn 29 rfl λ_ _ F _ _=>zhr F B Y
 have E:=Z.dfn 30 rfl λ_ _ F _ _=>zjp F B am
 have t:=Z.dfn 31 rfl λ_ _ F _ _=>zfy F B
 have Q:=Z.dfn 32 rfl λ_ _ F _ _=>zjo F B t
 have ac:=Z.dfn 33 rfl λ_ _ F _ _=>zjv F B
 have ah:=Z.dfn 34 rfl λ_ _ F _ _=>zfG F B o u
 have aj:=Z.dfn 35 rfl λ_ _ F _ _=>zfC F B o as ao ah I t Q ac E D
 exact zjs F B ab ar aj
end L2
open PySem PySem.W PyProof.Rows
set_option maxRecDepth 100000 in
set_option maxHeartbeats 0 in
theorem PySem.Challenge.cw_pickboard_k16_shortest_trips_holds : PySem.Challenge.rw_pickboard_k16_shortest_trips.Holds := by
 refine L2.ownHead (d:=L2.defRec "law" (L2.topL 40)) 9999 L2.head1 L2.head2 (by kernel_rfl) (by kernel_rfl) (by kernel_rfl) L2.head3 ⟨rfl,rfl,rfl,rfl,rfl,by decide +kernel⟩ (by w_witness2) ?_
 exact L2.walkS (n:=63) (k:=7) (x:= "_law_script") (sp:=L2.spLaw) rfl (by decide) (by kernel_rfl) ⟨rfl,by decide,by decide,rfl⟩ (fun _ _ _ _ _ X e G m=>L2.all_mk X e G m) fun _ _ a ns hl _ hS=>⟨a,ns,rfl,hS,hl,fun _=>rfl⟩
